/- asset: Encode. -/
import Derived.Test.YtokfhhngnpbdkaaDoorIM
import Derived.Lib.Hide
import Derived.LoopN
import Derived.LoopTactic
import Derived.Deep.Onto
import Derived.Deep.RegionHeld3
import Derived.Deep.QuietTactic
import Derived.BigQuiet
import Derived.Great.BuildSlice
import Derived.StillTailTactics
import Derived.Lib.SliceRun
namespace Go.Proofs.YtokfhhngnpbdkaaDoor
set_option linter.unusedVariables false
set_option maxRecDepth 2000
set_option linter.unusedSimpArgs false
open Go.RowKit
def nilX : Txr := ⟨0, none, 0, 0, fun _ => 0⟩
theorem nilX_at (w : World) : TxAt nilX w := ⟨.inl rfl, Nat.le_refl _, by decide⟩
def kinA (k : Int) : Ast := ⟨k, nilM, nilX, fun _ => 0, fun _ => 0⟩
theorem kinA_at (k : Int) (w : World) : AstAt (kinA k) w := ⟨nilM_at w, nilX_at w⟩
def chk2 (z : Int) (b : Bool) : Int := if z = 0 then (if b = true then 0 else 5) else z
theorem there_newn {W : World} {cs : List Value} {T : TypeId} {n : Nat} (h : cs.length = n) : (W.alloc (.cells cs.toArray T)).there W.heap.size 0 n := h ▸ (Own.new W cs T).free
theorem room_1 {M : Msh} (h : chkM M = 0) : encN M.nv M.nu M.nt ≤ 2048 := by
  have g := chk_good (show chkF M.nv M.nu M.nt M.V M.U M.R = 0 from h)
  have h1 := g.hn; have h2 := g.ht; have h3 := g.hu
  unfold encN
  omega
theorem room_2 {M : Txr} (h : chkT M.S M.n M.f = 0) : 1 + M.n * 3 ≤ 1024 := by
  obtain ⟨s, e1, e2, e3⟩ := (tchk_good h).cnt
  rw [e3]
  rcases e2 with rfl | rfl | rfl | rfl | rfl <;> decide
set_option maxHeartbeats 16000000 in
theorem Encode_1 (A : Ast) (hF : FewA A) (w : World) (hA : AstAt A w) (hg : Has 0 0 CapL w) : Calls Tryd.prog 16 #[(.agg #[.int .i64 1, .slice A.M.qv A.M.nv A.M.cv, .slice A.M.qu A.M.nu A.M.cu, .slice A.M.qt A.M.nt A.M.ct, .int .i64 A.X.S, .slice A.X.q A.X.n A.X.c, .int .i64 (A.g 0), .int .i64 (A.g 1), .int .i64 (A.g 2), .int .i64 (A.g 3), .int .i64 (A.g 4), .int .i64 (A.l 0), .int .i64 (A.l 1), .int .i64 (A.l 2), .int .i64 (A.l 3), .int .i64 (A.l 4), .int .i64 (A.l 5), .int .i64 (A.l 6), .int .i64 (A.l 7), .int .i64 (A.l 8), .int .i64 (A.l 9), .int .i64 (A.l 10), .int .i64 (A.l 11), .int .i64 (A.l 12)])] w fun e w' => (∃ v, e = .returned (.tuple #[v, .int .i64 (chk2 (chkM A.M) (sameA ⟨1, nilM, A.X, A.g, A.l⟩ (kinA 1)))]) ∧ RowR w' v (encL (chk2 (chkM A.M) (sameA ⟨1, nilM, A.X, A.g, A.l⟩ (kinA 1))) (encN A.M.nv A.M.nu A.M.nt)) (encF A.M.nv A.M.nu A.M.nt A.M.V A.M.U A.M.R)) ∧ Below w.heap.size w w' := by
  have AQ : Hid (∀ W, Below w.heap.size w W → AstAt A W) := Lib.hid (fun W hb => hA.later hb)
  have GQ : Hid (∀ W, Below w.heap.size w W → Has 0 0 CapL W) := Lib.hid (fun W hb => hg.later hb)
  have SB := Lib.hid (fun W (h : AstAt A W) => Same_any ⟨1, nilM, A.X, A.g, A.l⟩ (kinA 1) W ⟨nilM_at _, h.x⟩ (kinA_at _ _) ⟨Nat.zero_le _, Nat.zero_le _, Nat.zero_le _, hF.x⟩)
  have RM : Hid (chkM A.M = 0 → encN A.M.nv A.M.nu A.M.nt ≤ 2048) := Lib.hid (fun h => room_1 h)
  obtain ⟨z, ez⟩ : ∃ z, chkM A.M = z := ⟨_, rfl⟩
  obtain ⟨b, eb⟩ : ∃ b, sameA ⟨1, nilM, A.X, A.g, A.l⟩ (kinA 1) = b := ⟨_, rfl⟩
  have CON := Lib.hid (encode_1 A)
  have EB := Lib.hid eb
  rw [ez] at CON RM ⊢
  rw [eb]
  have HF := Lib.hid hF
  obtain ⟨len, el⟩ : ∃ n, encN A.M.nv A.M.nu A.M.nt = n := ⟨_, rfl⟩
  have CON := Lib.hid (show ∀ (w : World), AstAt A w → Calls Tryd.prog 35 #[(.agg #[.int .i64 1, .slice A.M.qv A.M.nv A.M.cv, .slice A.M.qu A.M.nu A.M.cu, .slice A.M.qt A.M.nt A.M.ct, .int .i64 A.X.S, .slice A.X.q A.X.n A.X.c, .int .i64 (A.g 0), .int .i64 (A.g 1), .int .i64 (A.g 2), .int .i64 (A.g 3), .int .i64 (A.g 4), .int .i64 (A.l 0), .int .i64 (A.l 1), .int .i64 (A.l 2), .int .i64 (A.l 3), .int .i64 (A.l 4), .int .i64 (A.l 5), .int .i64 (A.l 6), .int .i64 (A.l 7), .int .i64 (A.l 8), .int .i64 (A.l 9), .int .i64 (A.l 10), .int .i64 (A.l 11), .int .i64 (A.l 12)])] w fun e w' => (∃ v, e = .returned (.tuple #[v, (.agg #[.int .i64 1, .slice none 0 0, .slice none 0 0, .slice none 0 0, .int .i64 A.X.S, .slice A.X.q A.X.n A.X.c, .int .i64 (A.g 0), .int .i64 (A.g 1), .int .i64 (A.g 2), .int .i64 (A.g 3), .int .i64 (A.g 4), .int .i64 (A.l 0), .int .i64 (A.l 1), .int .i64 (A.l 2), .int .i64 (A.l 3), .int .i64 (A.l 4), .int .i64 (A.l 5), .int .i64 (A.l 6), .int .i64 (A.l 7), .int .i64 (A.l 8), .int .i64 (A.l 9), .int .i64 (A.l 10), .int .i64 (A.l 11), .int .i64 (A.l 12)]), .int .i64 z]) ∧ RowR w' v (encL z (encN A.M.nv A.M.nu A.M.nt)) (encF A.M.nv A.M.nu A.M.nt A.M.V A.M.U A.M.R)) ∧ Below w.heap.size w w' from CON.out)
  rw [el] at CON RM ⊢
  clear hA hg ez eb el hF
  go_enter Tryd.func16, Tryd.ntmps16
  go_upto_region 1 with fail
  obtain ⟨W0, hW⟩ : ∃ W0, W0 = (w.alloc (.cells #[.int .i64 1, .slice A.M.qv A.M.nv A.M.cv, .slice A.M.qu A.M.nu A.M.cu, .slice A.M.qt A.M.nt A.M.ct, .int .i64 A.X.S, .slice A.X.q A.X.n A.X.c, .int .i64 (A.g 0), .int .i64 (A.g 1), .int .i64 (A.g 2), .int .i64 (A.g 3), .int .i64 (A.g 4), .int .i64 (A.l 0), .int .i64 (A.l 1), .int .i64 (A.l 2), .int .i64 (A.l 3), .int .i64 (A.l 4), .int .i64 (A.l 5), .int .i64 (A.l 6), .int .i64 (A.l 7), .int .i64 (A.l 8), .int .i64 (A.l 9), .int .i64 (A.l 10), .int .i64 (A.l 11), .int .i64 (A.l 12)] 37)) := ⟨_, rfl⟩
  have hB0 : Below w.heap.size w W0 := hW ▸ (Below.al (Below.refl _ _))
  have HP : Hid (Own w.heap.size ([.int .i64 1, .slice A.M.qv A.M.nv A.M.cv, .slice A.M.qu A.M.nu A.M.cu, .slice A.M.qt A.M.nt A.M.ct, .int .i64 A.X.S, .slice A.X.q A.X.n A.X.c, .int .i64 (A.g 0), .int .i64 (A.g 1), .int .i64 (A.g 2), .int .i64 (A.g 3), .int .i64 (A.g 4), .int .i64 (A.l 0), .int .i64 (A.l 1), .int .i64 (A.l 2), .int .i64 (A.l 3), .int .i64 (A.l 4), .int .i64 (A.l 5), .int .i64 (A.l 6), .int .i64 (A.l 7), .int .i64 (A.l 8), .int .i64 (A.l 9), .int .i64 (A.l 10), .int .i64 (A.l 11), .int .i64 (A.l 12)]) W0) := Lib.hid (hW ▸ (show Own w.heap.size ([.int .i64 1, .slice A.M.qv A.M.nv A.M.cv, .slice A.M.qu A.M.nu A.M.cu, .slice A.M.qt A.M.nt A.M.ct, .int .i64 A.X.S, .slice A.X.q A.X.n A.X.c, .int .i64 (A.g 0), .int .i64 (A.g 1), .int .i64 (A.g 2), .int .i64 (A.g 3), .int .i64 (A.g 4), .int .i64 (A.l 0), .int .i64 (A.l 1), .int .i64 (A.l 2), .int .i64 (A.l 3), .int .i64 (A.l 4), .int .i64 (A.l 5), .int .i64 (A.l 6), .int .i64 (A.l 7), .int .i64 (A.l 8), .int .i64 (A.l 9), .int .i64 (A.l 10), .int .i64 (A.l 11), .int .i64 (A.l 12)]) (w.alloc (.cells #[.int .i64 1, .slice A.M.qv A.M.nv A.M.cv, .slice A.M.qu A.M.nu A.M.cu, .slice A.M.qt A.M.nt A.M.ct, .int .i64 A.X.S, .slice A.X.q A.X.n A.X.c, .int .i64 (A.g 0), .int .i64 (A.g 1), .int .i64 (A.g 2), .int .i64 (A.g 3), .int .i64 (A.g 4), .int .i64 (A.l 0), .int .i64 (A.l 1), .int .i64 (A.l 2), .int .i64 (A.l 3), .int .i64 (A.l 4), .int .i64 (A.l 5), .int .i64 (A.l 6), .int .i64 (A.l 7), .int .i64 (A.l 8), .int .i64 (A.l 9), .int .i64 (A.l 10), .int .i64 (A.l 11), .int .i64 (A.l 12)] 37)) from Own.newAt (by simp)))
  rw [← hW]
  clear hW
  obtain ⟨P, eP⟩ : ∃ X, X = w.heap.size := ⟨_, rfl⟩
  rw [← eP] at HP ⊢
  have Pw : w.heap.size ≤ P := by omega
  clear eP
  go_wp2_with (refine wpList_load_mid rfl 37 _ rfl P 0 rfl ([.int .i64 1, .slice A.M.qv A.M.nv A.M.cv, .slice A.M.qu A.M.nu A.M.cu, .slice A.M.qt A.M.nt A.M.ct, .int .i64 A.X.S, .slice A.X.q A.X.n A.X.c, .int .i64 (A.g 0), .int .i64 (A.g 1), .int .i64 (A.g 2), .int .i64 (A.g 3), .int .i64 (A.g 4), .int .i64 (A.l 0), .int .i64 (A.l 1), .int .i64 (A.l 2), .int .i64 (A.l 3), .int .i64 (A.l 4), .int .i64 (A.l 5), .int .i64 (A.l 6), .int .i64 (A.l 7), .int .i64 (A.l 8), .int .i64 (A.l 9), .int .i64 (A.l 10), .int .i64 (A.l 11), .int .i64 (A.l 12)]) _ HP.out.cell Tryd.underlying37 rfl (by kernel_rfl) ?_)
  go_at_call 35
  refine (CON.out _ (AQ.out _ hB0)).mono ?_
  rintro e w1 ⟨⟨v, rfl, hr⟩, hb⟩
  obtain ⟨q, c, rfl, hc1, hc2, hy⟩ := hr
  have BY := Lib.hid hy; have CC := Lib.hid (And.intro hc1 hc2)
  have HP1 := Lib.hid (HP.out.later hb)
  have hB1 := Below.go hB0 hb
  clear hy hc1 hc2 hb hB0 HP CON
  go_upto_region 2 with (refine wpList_store_mid rfl 37 _ _ rfl _ 0 #[.int .i64 1, .slice none 0 0, .slice none 0 0, .slice none 0 0, .int .i64 A.X.S, .slice A.X.q A.X.n A.X.c, .int .i64 (A.g 0), .int .i64 (A.g 1), .int .i64 (A.g 2), .int .i64 (A.g 3), .int .i64 (A.g 4), .int .i64 (A.l 0), .int .i64 (A.l 1), .int .i64 (A.l 2), .int .i64 (A.l 3), .int .i64 (A.l 4), .int .i64 (A.l 5), .int .i64 (A.l 6), .int .i64 (A.l 7), .int .i64 (A.l 8), .int .i64 (A.l 9), .int .i64 (A.l 10), .int .i64 (A.l 11), .int .i64 (A.l 12)] rfl rfl (there_newn (cs := [.int .i64 0, .slice none 0 0, .slice none 0 0, .slice none 0 0, .int .i64 0, .slice none 0 0, .int .i64 0, .int .i64 0, .int .i64 0, .int .i64 0, .int .i64 0, .int .i64 0, .int .i64 0, .int .i64 0, .int .i64 0, .int .i64 0, .int .i64 0, .int .i64 0, .int .i64 0, .int .i64 0, .int .i64 0, .int .i64 0, .int .i64 0, .int .i64 0]) (by simp)) (by kernel_rfl) (by simp [Value.oneCell']) ?_; (obtain ⟨W2, hW2⟩ : ∃ W, W = (w1.alloc (.cells #[.int .i64 0, .slice none 0 0, .slice none 0 0, .slice none 0 0, .int .i64 0, .slice none 0 0, .int .i64 0, .int .i64 0, .int .i64 0, .int .i64 0, .int .i64 0, .int .i64 0, .int .i64 0, .int .i64 0, .int .i64 0, .int .i64 0, .int .i64 0, .int .i64 0, .int .i64 0, .int .i64 0, .int .i64 0, .int .i64 0, .int .i64 0, .int .i64 0] 37)).setCells w1.heap.size 0 ([.int .i64 1, .slice none 0 0, .slice none 0 0, .slice none 0 0, .int .i64 A.X.S, .slice A.X.q A.X.n A.X.c, .int .i64 (A.g 0), .int .i64 (A.g 1), .int .i64 (A.g 2), .int .i64 (A.g 3), .int .i64 (A.g 4), .int .i64 (A.l 0), .int .i64 (A.l 1), .int .i64 (A.l 2), .int .i64 (A.l 3), .int .i64 (A.l 4), .int .i64 (A.l 5), .int .i64 (A.l 6), .int .i64 (A.l 7), .int .i64 (A.l 8), .int .i64 (A.l 9), .int .i64 (A.l 10), .int .i64 (A.l 11), .int .i64 (A.l 12)]) := ⟨_, rfl⟩); have hbx : Below w1.heap.size w1 W2 := hW2 ▸ Below.setCells (Below.al (Below.refl _ _)) (Nat.le_refl _) _ _; have HQ : Hid (Own w1.heap.size ([.int .i64 1, .slice none 0 0, .slice none 0 0, .slice none 0 0, .int .i64 A.X.S, .slice A.X.q A.X.n A.X.c, .int .i64 (A.g 0), .int .i64 (A.g 1), .int .i64 (A.g 2), .int .i64 (A.g 3), .int .i64 (A.g 4), .int .i64 (A.l 0), .int .i64 (A.l 1), .int .i64 (A.l 2), .int .i64 (A.l 3), .int .i64 (A.l 4), .int .i64 (A.l 5), .int .i64 (A.l 6), .int .i64 (A.l 7), .int .i64 (A.l 8), .int .i64 (A.l 9), .int .i64 (A.l 10), .int .i64 (A.l 11), .int .i64 (A.l 12)]) W2) := Lib.hid (hW2 ▸ Own.store (Own.new _ [.int .i64 0, .slice none 0 0, .slice none 0 0, .slice none 0 0, .int .i64 0, .slice none 0 0, .int .i64 0, .int .i64 0, .int .i64 0, .int .i64 0, .int .i64 0, .int .i64 0, .int .i64 0, .int .i64 0, .int .i64 0, .int .i64 0, .int .i64 0, .int .i64 0, .int .i64 0, .int .i64 0, .int .i64 0, .int .i64 0, .int .i64 0, .int .i64 0] _) rfl); change wpList _ _ _ _ _ ((w1.alloc (.cells #[.int .i64 0, .slice none 0 0, .slice none 0 0, .slice none 0 0, .int .i64 0, .slice none 0 0, .int .i64 0, .int .i64 0, .int .i64 0, .int .i64 0, .int .i64 0, .int .i64 0, .int .i64 0, .int .i64 0, .int .i64 0, .int .i64 0, .int .i64 0, .int .i64 0, .int .i64 0, .int .i64 0, .int .i64 0, .int .i64 0, .int .i64 0, .int .i64 0] 37)).setCells w1.heap.size 0 ([.int .i64 1, .slice none 0 0, .slice none 0 0, .slice none 0 0, .int .i64 A.X.S, .slice A.X.q A.X.n A.X.c, .int .i64 (A.g 0), .int .i64 (A.g 1), .int .i64 (A.g 2), .int .i64 (A.g 3), .int .i64 (A.g 4), .int .i64 (A.l 0), .int .i64 (A.l 1), .int .i64 (A.l 2), .int .i64 (A.l 3), .int .i64 (A.l 4), .int .i64 (A.l 5), .int .i64 (A.l 6), .int .i64 (A.l 7), .int .i64 (A.l 8), .int .i64 (A.l 9), .int .i64 (A.l 10), .int .i64 (A.l 11), .int .i64 (A.l 12)])); rw [← hW2]; clear hW2)
  obtain ⟨Q, eQ⟩ : ∃ X, X = w1.heap.size := ⟨_, rfl⟩
  rw [← eQ] at HQ ⊢
  clear eQ
  have hB2 := Below.go hB1 hbx
  have HP2 := Lib.hid (HP1.out.later hbx); have BY2 := Lib.hid (BY.out.later hbx)
  clear HP1 BY hbx hB1
  by_cases hz : z = 0
  · subst hz
    have RL := Lib.hid (RM.out rfl)
    clear RM
    have oP := HP2.out
    have P0 := oP.at 0 _ rfl
    have Pl := oP.lt
    clear oP
    go_wp2_with (refine wpList_load_mid rfl 37 _ rfl Q 0 rfl ([.int .i64 1, .slice none 0 0, .slice none 0 0, .slice none 0 0, .int .i64 A.X.S, .slice A.X.q A.X.n A.X.c, .int .i64 (A.g 0), .int .i64 (A.g 1), .int .i64 (A.g 2), .int .i64 (A.g 3), .int .i64 (A.g 4), .int .i64 (A.l 0), .int .i64 (A.l 1), .int .i64 (A.l 2), .int .i64 (A.l 3), .int .i64 (A.l 4), .int .i64 (A.l 5), .int .i64 (A.l 6), .int .i64 (A.l 7), .int .i64 (A.l 8), .int .i64 (A.l 9), .int .i64 (A.l 10), .int .i64 (A.l 11), .int .i64 (A.l 12)]) _ HQ.out.cell Tryd.underlying37 rfl (by kernel_rfl) ?_)
    clear P0 Pl
    go_at_call 22
    refine (SB.out _ (AQ.out _ hB2)).mono ?_
    rintro e w3 ⟨rfl, hb⟩
    rw [EB.out]
    have hB3 := Below.go hB2 hb
    have HP3 := Lib.hid (HP2.out.later hb); have BY3 := Lib.hid (BY2.out.later hb)
    clear hB2 hb HP2 BY2 HQ SB AQ
    cases b with
    | false =>
      go_wp2_with (fail)
      exact bodyPost_ret (v := .tuple #[.slice none 0 0, .int .i64 5]) (by simp [results, Tryd.results16, go_sem]) rfl ⟨⟨_, rfl, none, 0, rfl, Nat.le_refl _, by decide, .inl rfl⟩, hB3⟩
    | true =>
      have oP := HP3.out
      have P0 := oP.at 0 _ rfl
      have Pl := oP.lt
      clear oP
      go_wp2_with (fail)
      clear P0 Pl
      go_at_call 23
      refine (Cap_any 1 _ (GQ.out _ hB3)).mono ?_
      rintro e w4 ⟨rfl, hw⟩
      subst hw
      rw [show capF 1 = 2048 from rfl]
      have d9 : decide ((2048 : Int) < (len : Int)) = false := decide_eq_false (by have := RL.out; omega)
      have NL : encL 0 len = len := rfl
      go_wp2_with (fail)
      exact bodyPost_ret (v := .tuple #[.slice q len c, .int .i64 0]) (by simp [results, Tryd.results16, go_sem]) rfl ⟨⟨_, rfl, q, c, rfl, CC.out.1, CC.out.2, BY3.out⟩, hB3⟩
  · have hd : (z != 0) = true := by simpa using hz
    have HZ : Hid (chk2 z b = z) := Lib.hid (if_neg hz)
    have HL : Hid (encL z len = 0) := Lib.hid (if_neg hz)
    go_wp2_with (fail)
    exact bodyPost_ret (v := .tuple #[.slice none 0 0, .int .i64 z]) (by simp [results, Tryd.results16, go_sem]) rfl ⟨⟨_, by rw [HZ.out], none, 0, by rw [HZ.out, HL.out], Nat.le_of_eq (by rw [HZ.out]; exact HL.out), by decide, .inl (by rw [HZ.out]; exact HL.out)⟩, hB2⟩
set_option maxHeartbeats 16000000 in
theorem Encode_2 (A : Ast) (hF : FewA A) (w : World) (hA : AstAt A w) (hg : Has 0 0 CapL w) : Calls Tryd.prog 16 #[(.agg #[.int .i64 2, .slice A.M.qv A.M.nv A.M.cv, .slice A.M.qu A.M.nu A.M.cu, .slice A.M.qt A.M.nt A.M.ct, .int .i64 A.X.S, .slice A.X.q A.X.n A.X.c, .int .i64 (A.g 0), .int .i64 (A.g 1), .int .i64 (A.g 2), .int .i64 (A.g 3), .int .i64 (A.g 4), .int .i64 (A.l 0), .int .i64 (A.l 1), .int .i64 (A.l 2), .int .i64 (A.l 3), .int .i64 (A.l 4), .int .i64 (A.l 5), .int .i64 (A.l 6), .int .i64 (A.l 7), .int .i64 (A.l 8), .int .i64 (A.l 9), .int .i64 (A.l 10), .int .i64 (A.l 11), .int .i64 (A.l 12)])] w fun e w' => (∃ v, e = .returned (.tuple #[v, .int .i64 (chk2 (chkT A.X.S A.X.n A.X.f) (sameA ⟨2, A.M, nilX, A.g, A.l⟩ (kinA 2)))]) ∧ RowR w' v (encL (chk2 (chkT A.X.S A.X.n A.X.f) (sameA ⟨2, A.M, nilX, A.g, A.l⟩ (kinA 2))) (1 + A.X.n * 3)) (encT A.X.S A.X.f)) ∧ Below w.heap.size w w' := by
  have AQ : Hid (∀ W, Below w.heap.size w W → AstAt A W) := Lib.hid (fun W hb => hA.later hb)
  have GQ : Hid (∀ W, Below w.heap.size w W → Has 0 0 CapL W) := Lib.hid (fun W hb => hg.later hb)
  have SB := Lib.hid (fun W (h : AstAt A W) => Same_any ⟨2, A.M, nilX, A.g, A.l⟩ (kinA 2) W ⟨h.m, nilX_at _⟩ (kinA_at _ _) ⟨hF.v, hF.u, hF.t, Nat.zero_le _⟩)
  have RM : Hid (chkT A.X.S A.X.n A.X.f = 0 → 1 + A.X.n * 3 ≤ 1024) := Lib.hid (fun h => room_2 h)
  obtain ⟨z, ez⟩ : ∃ z, chkT A.X.S A.X.n A.X.f = z := ⟨_, rfl⟩
  obtain ⟨b, eb⟩ : ∃ b, sameA ⟨2, A.M, nilX, A.g, A.l⟩ (kinA 2) = b := ⟨_, rfl⟩
  have CON := Lib.hid (encode_2 A)
  have EB := Lib.hid eb
  rw [ez] at CON RM ⊢
  rw [eb]
  have HF := Lib.hid hF
  obtain ⟨len, el⟩ : ∃ n, 1 + A.X.n * 3 = n := ⟨_, rfl⟩
  have CON := Lib.hid (show ∀ (w : World), AstAt A w → Calls Tryd.prog 35 #[(.agg #[.int .i64 2, .slice A.M.qv A.M.nv A.M.cv, .slice A.M.qu A.M.nu A.M.cu, .slice A.M.qt A.M.nt A.M.ct, .int .i64 A.X.S, .slice A.X.q A.X.n A.X.c, .int .i64 (A.g 0), .int .i64 (A.g 1), .int .i64 (A.g 2), .int .i64 (A.g 3), .int .i64 (A.g 4), .int .i64 (A.l 0), .int .i64 (A.l 1), .int .i64 (A.l 2), .int .i64 (A.l 3), .int .i64 (A.l 4), .int .i64 (A.l 5), .int .i64 (A.l 6), .int .i64 (A.l 7), .int .i64 (A.l 8), .int .i64 (A.l 9), .int .i64 (A.l 10), .int .i64 (A.l 11), .int .i64 (A.l 12)])] w fun e w' => (∃ v, e = .returned (.tuple #[v, (.agg #[.int .i64 2, .slice A.M.qv A.M.nv A.M.cv, .slice A.M.qu A.M.nu A.M.cu, .slice A.M.qt A.M.nt A.M.ct, .int .i64 0, .slice none 0 0, .int .i64 (A.g 0), .int .i64 (A.g 1), .int .i64 (A.g 2), .int .i64 (A.g 3), .int .i64 (A.g 4), .int .i64 (A.l 0), .int .i64 (A.l 1), .int .i64 (A.l 2), .int .i64 (A.l 3), .int .i64 (A.l 4), .int .i64 (A.l 5), .int .i64 (A.l 6), .int .i64 (A.l 7), .int .i64 (A.l 8), .int .i64 (A.l 9), .int .i64 (A.l 10), .int .i64 (A.l 11), .int .i64 (A.l 12)]), .int .i64 z]) ∧ RowR w' v (encL z (1 + A.X.n * 3)) (encT A.X.S A.X.f)) ∧ Below w.heap.size w w' from CON.out)
  rw [el] at CON RM ⊢
  clear hA hg ez eb el hF
  go_enter Tryd.func16, Tryd.ntmps16
  go_upto_region 1 with fail
  obtain ⟨W0, hW⟩ : ∃ W0, W0 = (w.alloc (.cells #[.int .i64 2, .slice A.M.qv A.M.nv A.M.cv, .slice A.M.qu A.M.nu A.M.cu, .slice A.M.qt A.M.nt A.M.ct, .int .i64 A.X.S, .slice A.X.q A.X.n A.X.c, .int .i64 (A.g 0), .int .i64 (A.g 1), .int .i64 (A.g 2), .int .i64 (A.g 3), .int .i64 (A.g 4), .int .i64 (A.l 0), .int .i64 (A.l 1), .int .i64 (A.l 2), .int .i64 (A.l 3), .int .i64 (A.l 4), .int .i64 (A.l 5), .int .i64 (A.l 6), .int .i64 (A.l 7), .int .i64 (A.l 8), .int .i64 (A.l 9), .int .i64 (A.l 10), .int .i64 (A.l 11), .int .i64 (A.l 12)] 37)) := ⟨_, rfl⟩
  have hB0 : Below w.heap.size w W0 := hW ▸ (Below.al (Below.refl _ _))
  have HP : Hid (Own w.heap.size ([.int .i64 2, .slice A.M.qv A.M.nv A.M.cv, .slice A.M.qu A.M.nu A.M.cu, .slice A.M.qt A.M.nt A.M.ct, .int .i64 A.X.S, .slice A.X.q A.X.n A.X.c, .int .i64 (A.g 0), .int .i64 (A.g 1), .int .i64 (A.g 2), .int .i64 (A.g 3), .int .i64 (A.g 4), .int .i64 (A.l 0), .int .i64 (A.l 1), .int .i64 (A.l 2), .int .i64 (A.l 3), .int .i64 (A.l 4), .int .i64 (A.l 5), .int .i64 (A.l 6), .int .i64 (A.l 7), .int .i64 (A.l 8), .int .i64 (A.l 9), .int .i64 (A.l 10), .int .i64 (A.l 11), .int .i64 (A.l 12)]) W0) := Lib.hid (hW ▸ (show Own w.heap.size ([.int .i64 2, .slice A.M.qv A.M.nv A.M.cv, .slice A.M.qu A.M.nu A.M.cu, .slice A.M.qt A.M.nt A.M.ct, .int .i64 A.X.S, .slice A.X.q A.X.n A.X.c, .int .i64 (A.g 0), .int .i64 (A.g 1), .int .i64 (A.g 2), .int .i64 (A.g 3), .int .i64 (A.g 4), .int .i64 (A.l 0), .int .i64 (A.l 1), .int .i64 (A.l 2), .int .i64 (A.l 3), .int .i64 (A.l 4), .int .i64 (A.l 5), .int .i64 (A.l 6), .int .i64 (A.l 7), .int .i64 (A.l 8), .int .i64 (A.l 9), .int .i64 (A.l 10), .int .i64 (A.l 11), .int .i64 (A.l 12)]) (w.alloc (.cells #[.int .i64 2, .slice A.M.qv A.M.nv A.M.cv, .slice A.M.qu A.M.nu A.M.cu, .slice A.M.qt A.M.nt A.M.ct, .int .i64 A.X.S, .slice A.X.q A.X.n A.X.c, .int .i64 (A.g 0), .int .i64 (A.g 1), .int .i64 (A.g 2), .int .i64 (A.g 3), .int .i64 (A.g 4), .int .i64 (A.l 0), .int .i64 (A.l 1), .int .i64 (A.l 2), .int .i64 (A.l 3), .int .i64 (A.l 4), .int .i64 (A.l 5), .int .i64 (A.l 6), .int .i64 (A.l 7), .int .i64 (A.l 8), .int .i64 (A.l 9), .int .i64 (A.l 10), .int .i64 (A.l 11), .int .i64 (A.l 12)] 37)) from Own.newAt (by simp)))
  rw [← hW]
  clear hW
  obtain ⟨P, eP⟩ : ∃ X, X = w.heap.size := ⟨_, rfl⟩
  rw [← eP] at HP ⊢
  have Pw : w.heap.size ≤ P := by omega
  clear eP
  go_wp2_with (refine wpList_load_mid rfl 37 _ rfl P 0 rfl ([.int .i64 2, .slice A.M.qv A.M.nv A.M.cv, .slice A.M.qu A.M.nu A.M.cu, .slice A.M.qt A.M.nt A.M.ct, .int .i64 A.X.S, .slice A.X.q A.X.n A.X.c, .int .i64 (A.g 0), .int .i64 (A.g 1), .int .i64 (A.g 2), .int .i64 (A.g 3), .int .i64 (A.g 4), .int .i64 (A.l 0), .int .i64 (A.l 1), .int .i64 (A.l 2), .int .i64 (A.l 3), .int .i64 (A.l 4), .int .i64 (A.l 5), .int .i64 (A.l 6), .int .i64 (A.l 7), .int .i64 (A.l 8), .int .i64 (A.l 9), .int .i64 (A.l 10), .int .i64 (A.l 11), .int .i64 (A.l 12)]) _ HP.out.cell Tryd.underlying37 rfl (by kernel_rfl) ?_)
  go_at_call 35
  refine (CON.out _ (AQ.out _ hB0)).mono ?_
  rintro e w1 ⟨⟨v, rfl, hr⟩, hb⟩
  obtain ⟨q, c, rfl, hc1, hc2, hy⟩ := hr
  have BY := Lib.hid hy; have CC := Lib.hid (And.intro hc1 hc2)
  have HP1 := Lib.hid (HP.out.later hb)
  have hB1 := Below.go hB0 hb
  clear hy hc1 hc2 hb hB0 HP CON
  go_upto_region 2 with (refine wpList_store_mid rfl 37 _ _ rfl _ 0 #[.int .i64 2, .slice A.M.qv A.M.nv A.M.cv, .slice A.M.qu A.M.nu A.M.cu, .slice A.M.qt A.M.nt A.M.ct, .int .i64 0, .slice none 0 0, .int .i64 (A.g 0), .int .i64 (A.g 1), .int .i64 (A.g 2), .int .i64 (A.g 3), .int .i64 (A.g 4), .int .i64 (A.l 0), .int .i64 (A.l 1), .int .i64 (A.l 2), .int .i64 (A.l 3), .int .i64 (A.l 4), .int .i64 (A.l 5), .int .i64 (A.l 6), .int .i64 (A.l 7), .int .i64 (A.l 8), .int .i64 (A.l 9), .int .i64 (A.l 10), .int .i64 (A.l 11), .int .i64 (A.l 12)] rfl rfl (there_newn (cs := [.int .i64 0, .slice none 0 0, .slice none 0 0, .slice none 0 0, .int .i64 0, .slice none 0 0, .int .i64 0, .int .i64 0, .int .i64 0, .int .i64 0, .int .i64 0, .int .i64 0, .int .i64 0, .int .i64 0, .int .i64 0, .int .i64 0, .int .i64 0, .int .i64 0, .int .i64 0, .int .i64 0, .int .i64 0, .int .i64 0, .int .i64 0, .int .i64 0]) (by simp)) (by kernel_rfl) (by simp [Value.oneCell']) ?_; (obtain ⟨W2, hW2⟩ : ∃ W, W = (w1.alloc (.cells #[.int .i64 0, .slice none 0 0, .slice none 0 0, .slice none 0 0, .int .i64 0, .slice none 0 0, .int .i64 0, .int .i64 0, .int .i64 0, .int .i64 0, .int .i64 0, .int .i64 0, .int .i64 0, .int .i64 0, .int .i64 0, .int .i64 0, .int .i64 0, .int .i64 0, .int .i64 0, .int .i64 0, .int .i64 0, .int .i64 0, .int .i64 0, .int .i64 0] 37)).setCells w1.heap.size 0 ([.int .i64 2, .slice A.M.qv A.M.nv A.M.cv, .slice A.M.qu A.M.nu A.M.cu, .slice A.M.qt A.M.nt A.M.ct, .int .i64 0, .slice none 0 0, .int .i64 (A.g 0), .int .i64 (A.g 1), .int .i64 (A.g 2), .int .i64 (A.g 3), .int .i64 (A.g 4), .int .i64 (A.l 0), .int .i64 (A.l 1), .int .i64 (A.l 2), .int .i64 (A.l 3), .int .i64 (A.l 4), .int .i64 (A.l 5), .int .i64 (A.l 6), .int .i64 (A.l 7), .int .i64 (A.l 8), .int .i64 (A.l 9), .int .i64 (A.l 10), .int .i64 (A.l 11), .int .i64 (A.l 12)]) := ⟨_, rfl⟩); have hbx : Below w1.heap.size w1 W2 := hW2 ▸ Below.setCells (Below.al (Below.refl _ _)) (Nat.le_refl _) _ _; have HQ : Hid (Own w1.heap.size ([.int .i64 2, .slice A.M.qv A.M.nv A.M.cv, .slice A.M.qu A.M.nu A.M.cu, .slice A.M.qt A.M.nt A.M.ct, .int .i64 0, .slice none 0 0, .int .i64 (A.g 0), .int .i64 (A.g 1), .int .i64 (A.g 2), .int .i64 (A.g 3), .int .i64 (A.g 4), .int .i64 (A.l 0), .int .i64 (A.l 1), .int .i64 (A.l 2), .int .i64 (A.l 3), .int .i64 (A.l 4), .int .i64 (A.l 5), .int .i64 (A.l 6), .int .i64 (A.l 7), .int .i64 (A.l 8), .int .i64 (A.l 9), .int .i64 (A.l 10), .int .i64 (A.l 11), .int .i64 (A.l 12)]) W2) := Lib.hid (hW2 ▸ Own.store (Own.new _ [.int .i64 0, .slice none 0 0, .slice none 0 0, .slice none 0 0, .int .i64 0, .slice none 0 0, .int .i64 0, .int .i64 0, .int .i64 0, .int .i64 0, .int .i64 0, .int .i64 0, .int .i64 0, .int .i64 0, .int .i64 0, .int .i64 0, .int .i64 0, .int .i64 0, .int .i64 0, .int .i64 0, .int .i64 0, .int .i64 0, .int .i64 0, .int .i64 0] _) rfl); change wpList _ _ _ _ _ ((w1.alloc (.cells #[.int .i64 0, .slice none 0 0, .slice none 0 0, .slice none 0 0, .int .i64 0, .slice none 0 0, .int .i64 0, .int .i64 0, .int .i64 0, .int .i64 0, .int .i64 0, .int .i64 0, .int .i64 0, .int .i64 0, .int .i64 0, .int .i64 0, .int .i64 0, .int .i64 0, .int .i64 0, .int .i64 0, .int .i64 0, .int .i64 0, .int .i64 0, .int .i64 0] 37)).setCells w1.heap.size 0 ([.int .i64 2, .slice A.M.qv A.M.nv A.M.cv, .slice A.M.qu A.M.nu A.M.cu, .slice A.M.qt A.M.nt A.M.ct, .int .i64 0, .slice none 0 0, .int .i64 (A.g 0), .int .i64 (A.g 1), .int .i64 (A.g 2), .int .i64 (A.g 3), .int .i64 (A.g 4), .int .i64 (A.l 0), .int .i64 (A.l 1), .int .i64 (A.l 2), .int .i64 (A.l 3), .int .i64 (A.l 4), .int .i64 (A.l 5), .int .i64 (A.l 6), .int .i64 (A.l 7), .int .i64 (A.l 8), .int .i64 (A.l 9), .int .i64 (A.l 10), .int .i64 (A.l 11), .int .i64 (A.l 12)])); rw [← hW2]; clear hW2)
  obtain ⟨Q, eQ⟩ : ∃ X, X = w1.heap.size := ⟨_, rfl⟩
  rw [← eQ] at HQ ⊢
  clear eQ
  have hB2 := Below.go hB1 hbx
  have HP2 := Lib.hid (HP1.out.later hbx); have BY2 := Lib.hid (BY.out.later hbx)
  clear HP1 BY hbx hB1
  by_cases hz : z = 0
  · subst hz
    have RL := Lib.hid (RM.out rfl)
    clear RM
    have oP := HP2.out
    have P0 := oP.at 0 _ rfl
    have Pl := oP.lt
    clear oP
    go_wp2_with (refine wpList_load_mid rfl 37 _ rfl Q 0 rfl ([.int .i64 2, .slice A.M.qv A.M.nv A.M.cv, .slice A.M.qu A.M.nu A.M.cu, .slice A.M.qt A.M.nt A.M.ct, .int .i64 0, .slice none 0 0, .int .i64 (A.g 0), .int .i64 (A.g 1), .int .i64 (A.g 2), .int .i64 (A.g 3), .int .i64 (A.g 4), .int .i64 (A.l 0), .int .i64 (A.l 1), .int .i64 (A.l 2), .int .i64 (A.l 3), .int .i64 (A.l 4), .int .i64 (A.l 5), .int .i64 (A.l 6), .int .i64 (A.l 7), .int .i64 (A.l 8), .int .i64 (A.l 9), .int .i64 (A.l 10), .int .i64 (A.l 11), .int .i64 (A.l 12)]) _ HQ.out.cell Tryd.underlying37 rfl (by kernel_rfl) ?_)
    clear P0 Pl
    go_at_call 22
    refine (SB.out _ (AQ.out _ hB2)).mono ?_
    rintro e w3 ⟨rfl, hb⟩
    rw [EB.out]
    have hB3 := Below.go hB2 hb
    have HP3 := Lib.hid (HP2.out.later hb); have BY3 := Lib.hid (BY2.out.later hb)
    clear hB2 hb HP2 BY2 HQ SB AQ
    cases b with
    | false =>
      go_wp2_with (fail)
      exact bodyPost_ret (v := .tuple #[.slice none 0 0, .int .i64 5]) (by simp [results, Tryd.results16, go_sem]) rfl ⟨⟨_, rfl, none, 0, rfl, Nat.le_refl _, by decide, .inl rfl⟩, hB3⟩
    | true =>
      have oP := HP3.out
      have P0 := oP.at 0 _ rfl
      have Pl := oP.lt
      clear oP
      go_wp2_with (fail)
      clear P0 Pl
      go_at_call 23
      refine (Cap_any 2 _ (GQ.out _ hB3)).mono ?_
      rintro e w4 ⟨rfl, hw⟩
      subst hw
      rw [show capF 2 = 1024 from rfl]
      have d9 : decide ((1024 : Int) < (len : Int)) = false := decide_eq_false (by have := RL.out; omega)
      have NL : encL 0 len = len := rfl
      go_wp2_with (fail)
      exact bodyPost_ret (v := .tuple #[.slice q len c, .int .i64 0]) (by simp [results, Tryd.results16, go_sem]) rfl ⟨⟨_, rfl, q, c, rfl, CC.out.1, CC.out.2, BY3.out⟩, hB3⟩
  · have hd : (z != 0) = true := by simpa using hz
    have HZ : Hid (chk2 z b = z) := Lib.hid (if_neg hz)
    have HL : Hid (encL z len = 0) := Lib.hid (if_neg hz)
    go_wp2_with (fail)
    exact bodyPost_ret (v := .tuple #[.slice none 0 0, .int .i64 z]) (by simp [results, Tryd.results16, go_sem]) rfl ⟨⟨_, by rw [HZ.out], none, 0, by rw [HZ.out, HL.out], Nat.le_of_eq (by rw [HZ.out]; exact HL.out), by decide, .inl (by rw [HZ.out]; exact HL.out)⟩, hB2⟩
set_option maxHeartbeats 16000000 in
theorem Encode_3 (A : Ast) (hF : FewA A) (w : World) (hA : AstAt A w) (hg : Has 0 0 CapL w) : Calls Tryd.prog 16 #[(.agg #[.int .i64 3, .slice A.M.qv A.M.nv A.M.cv, .slice A.M.qu A.M.nu A.M.cu, .slice A.M.qt A.M.nt A.M.ct, .int .i64 A.X.S, .slice A.X.q A.X.n A.X.c, .int .i64 (A.g 0), .int .i64 (A.g 1), .int .i64 (A.g 2), .int .i64 (A.g 3), .int .i64 (A.g 4), .int .i64 (A.l 0), .int .i64 (A.l 1), .int .i64 (A.l 2), .int .i64 (A.l 3), .int .i64 (A.l 4), .int .i64 (A.l 5), .int .i64 (A.l 6), .int .i64 (A.l 7), .int .i64 (A.l 8), .int .i64 (A.l 9), .int .i64 (A.l 10), .int .i64 (A.l 11), .int .i64 (A.l 12)])] w fun e w' => (∃ v, e = .returned (.tuple #[v, .int .i64 (chk2 (chkG A.g) (sameA ⟨3, A.M, A.X, fun _ => 0, A.l⟩ (kinA 3)))]) ∧ RowR w' v (encL (chk2 (chkG A.g) (sameA ⟨3, A.M, A.X, fun _ => 0, A.l⟩ (kinA 3))) (9)) (encG A.g)) ∧ Below w.heap.size w w' := by
  have AQ : Hid (∀ W, Below w.heap.size w W → AstAt A W) := Lib.hid (fun W hb => hA.later hb)
  have GQ : Hid (∀ W, Below w.heap.size w W → Has 0 0 CapL W) := Lib.hid (fun W hb => hg.later hb)
  have SB := Lib.hid (fun W (h : AstAt A W) => Same_any ⟨3, A.M, A.X, fun _ => 0, A.l⟩ (kinA 3) W ⟨h.m, h.x⟩ (kinA_at _ _) ⟨hF.v, hF.u, hF.t, hF.x⟩)
  have RM : Hid (chkG A.g = 0 → 9 ≤ 64) := Lib.hid (fun _ => by decide)
  obtain ⟨z, ez⟩ : ∃ z, chkG A.g = z := ⟨_, rfl⟩
  obtain ⟨b, eb⟩ : ∃ b, sameA ⟨3, A.M, A.X, fun _ => 0, A.l⟩ (kinA 3) = b := ⟨_, rfl⟩
  have CON := Lib.hid (encode_3 A)
  have EB := Lib.hid eb
  rw [ez] at CON RM ⊢
  rw [eb]
  have HF := Lib.hid hF
  skip
  have CON := Lib.hid (show ∀ (w : World), AstAt A w → Calls Tryd.prog 35 #[(.agg #[.int .i64 3, .slice A.M.qv A.M.nv A.M.cv, .slice A.M.qu A.M.nu A.M.cu, .slice A.M.qt A.M.nt A.M.ct, .int .i64 A.X.S, .slice A.X.q A.X.n A.X.c, .int .i64 (A.g 0), .int .i64 (A.g 1), .int .i64 (A.g 2), .int .i64 (A.g 3), .int .i64 (A.g 4), .int .i64 (A.l 0), .int .i64 (A.l 1), .int .i64 (A.l 2), .int .i64 (A.l 3), .int .i64 (A.l 4), .int .i64 (A.l 5), .int .i64 (A.l 6), .int .i64 (A.l 7), .int .i64 (A.l 8), .int .i64 (A.l 9), .int .i64 (A.l 10), .int .i64 (A.l 11), .int .i64 (A.l 12)])] w fun e w' => (∃ v, e = .returned (.tuple #[v, (.agg #[.int .i64 3, .slice A.M.qv A.M.nv A.M.cv, .slice A.M.qu A.M.nu A.M.cu, .slice A.M.qt A.M.nt A.M.ct, .int .i64 A.X.S, .slice A.X.q A.X.n A.X.c, .int .i64 0, .int .i64 0, .int .i64 0, .int .i64 0, .int .i64 0, .int .i64 (A.l 0), .int .i64 (A.l 1), .int .i64 (A.l 2), .int .i64 (A.l 3), .int .i64 (A.l 4), .int .i64 (A.l 5), .int .i64 (A.l 6), .int .i64 (A.l 7), .int .i64 (A.l 8), .int .i64 (A.l 9), .int .i64 (A.l 10), .int .i64 (A.l 11), .int .i64 (A.l 12)]), .int .i64 z]) ∧ RowR w' v (encL z (9)) (encG A.g)) ∧ Below w.heap.size w w' from CON.out)
  skip
  clear hA hg ez eb  hF
  go_enter Tryd.func16, Tryd.ntmps16
  go_upto_region 1 with fail
  obtain ⟨W0, hW⟩ : ∃ W0, W0 = (w.alloc (.cells #[.int .i64 3, .slice A.M.qv A.M.nv A.M.cv, .slice A.M.qu A.M.nu A.M.cu, .slice A.M.qt A.M.nt A.M.ct, .int .i64 A.X.S, .slice A.X.q A.X.n A.X.c, .int .i64 (A.g 0), .int .i64 (A.g 1), .int .i64 (A.g 2), .int .i64 (A.g 3), .int .i64 (A.g 4), .int .i64 (A.l 0), .int .i64 (A.l 1), .int .i64 (A.l 2), .int .i64 (A.l 3), .int .i64 (A.l 4), .int .i64 (A.l 5), .int .i64 (A.l 6), .int .i64 (A.l 7), .int .i64 (A.l 8), .int .i64 (A.l 9), .int .i64 (A.l 10), .int .i64 (A.l 11), .int .i64 (A.l 12)] 37)) := ⟨_, rfl⟩
  have hB0 : Below w.heap.size w W0 := hW ▸ (Below.al (Below.refl _ _))
  have HP : Hid (Own w.heap.size ([.int .i64 3, .slice A.M.qv A.M.nv A.M.cv, .slice A.M.qu A.M.nu A.M.cu, .slice A.M.qt A.M.nt A.M.ct, .int .i64 A.X.S, .slice A.X.q A.X.n A.X.c, .int .i64 (A.g 0), .int .i64 (A.g 1), .int .i64 (A.g 2), .int .i64 (A.g 3), .int .i64 (A.g 4), .int .i64 (A.l 0), .int .i64 (A.l 1), .int .i64 (A.l 2), .int .i64 (A.l 3), .int .i64 (A.l 4), .int .i64 (A.l 5), .int .i64 (A.l 6), .int .i64 (A.l 7), .int .i64 (A.l 8), .int .i64 (A.l 9), .int .i64 (A.l 10), .int .i64 (A.l 11), .int .i64 (A.l 12)]) W0) := Lib.hid (hW ▸ (show Own w.heap.size ([.int .i64 3, .slice A.M.qv A.M.nv A.M.cv, .slice A.M.qu A.M.nu A.M.cu, .slice A.M.qt A.M.nt A.M.ct, .int .i64 A.X.S, .slice A.X.q A.X.n A.X.c, .int .i64 (A.g 0), .int .i64 (A.g 1), .int .i64 (A.g 2), .int .i64 (A.g 3), .int .i64 (A.g 4), .int .i64 (A.l 0), .int .i64 (A.l 1), .int .i64 (A.l 2), .int .i64 (A.l 3), .int .i64 (A.l 4), .int .i64 (A.l 5), .int .i64 (A.l 6), .int .i64 (A.l 7), .int .i64 (A.l 8), .int .i64 (A.l 9), .int .i64 (A.l 10), .int .i64 (A.l 11), .int .i64 (A.l 12)]) (w.alloc (.cells #[.int .i64 3, .slice A.M.qv A.M.nv A.M.cv, .slice A.M.qu A.M.nu A.M.cu, .slice A.M.qt A.M.nt A.M.ct, .int .i64 A.X.S, .slice A.X.q A.X.n A.X.c, .int .i64 (A.g 0), .int .i64 (A.g 1), .int .i64 (A.g 2), .int .i64 (A.g 3), .int .i64 (A.g 4), .int .i64 (A.l 0), .int .i64 (A.l 1), .int .i64 (A.l 2), .int .i64 (A.l 3), .int .i64 (A.l 4), .int .i64 (A.l 5), .int .i64 (A.l 6), .int .i64 (A.l 7), .int .i64 (A.l 8), .int .i64 (A.l 9), .int .i64 (A.l 10), .int .i64 (A.l 11), .int .i64 (A.l 12)] 37)) from Own.newAt (by simp)))
  rw [← hW]
  clear hW
  obtain ⟨P, eP⟩ : ∃ X, X = w.heap.size := ⟨_, rfl⟩
  rw [← eP] at HP ⊢
  have Pw : w.heap.size ≤ P := by omega
  clear eP
  go_wp2_with (refine wpList_load_mid rfl 37 _ rfl P 0 rfl ([.int .i64 3, .slice A.M.qv A.M.nv A.M.cv, .slice A.M.qu A.M.nu A.M.cu, .slice A.M.qt A.M.nt A.M.ct, .int .i64 A.X.S, .slice A.X.q A.X.n A.X.c, .int .i64 (A.g 0), .int .i64 (A.g 1), .int .i64 (A.g 2), .int .i64 (A.g 3), .int .i64 (A.g 4), .int .i64 (A.l 0), .int .i64 (A.l 1), .int .i64 (A.l 2), .int .i64 (A.l 3), .int .i64 (A.l 4), .int .i64 (A.l 5), .int .i64 (A.l 6), .int .i64 (A.l 7), .int .i64 (A.l 8), .int .i64 (A.l 9), .int .i64 (A.l 10), .int .i64 (A.l 11), .int .i64 (A.l 12)]) _ HP.out.cell Tryd.underlying37 rfl (by kernel_rfl) ?_)
  go_at_call 35
  refine (CON.out _ (AQ.out _ hB0)).mono ?_
  rintro e w1 ⟨⟨v, rfl, hr⟩, hb⟩
  obtain ⟨q, c, rfl, hc1, hc2, hy⟩ := hr
  have BY := Lib.hid hy; have CC := Lib.hid (And.intro hc1 hc2)
  have HP1 := Lib.hid (HP.out.later hb)
  have hB1 := Below.go hB0 hb
  clear hy hc1 hc2 hb hB0 HP CON
  go_upto_region 2 with (refine wpList_store_mid rfl 37 _ _ rfl _ 0 #[.int .i64 3, .slice A.M.qv A.M.nv A.M.cv, .slice A.M.qu A.M.nu A.M.cu, .slice A.M.qt A.M.nt A.M.ct, .int .i64 A.X.S, .slice A.X.q A.X.n A.X.c, .int .i64 0, .int .i64 0, .int .i64 0, .int .i64 0, .int .i64 0, .int .i64 (A.l 0), .int .i64 (A.l 1), .int .i64 (A.l 2), .int .i64 (A.l 3), .int .i64 (A.l 4), .int .i64 (A.l 5), .int .i64 (A.l 6), .int .i64 (A.l 7), .int .i64 (A.l 8), .int .i64 (A.l 9), .int .i64 (A.l 10), .int .i64 (A.l 11), .int .i64 (A.l 12)] rfl rfl (there_newn (cs := [.int .i64 0, .slice none 0 0, .slice none 0 0, .slice none 0 0, .int .i64 0, .slice none 0 0, .int .i64 0, .int .i64 0, .int .i64 0, .int .i64 0, .int .i64 0, .int .i64 0, .int .i64 0, .int .i64 0, .int .i64 0, .int .i64 0, .int .i64 0, .int .i64 0, .int .i64 0, .int .i64 0, .int .i64 0, .int .i64 0, .int .i64 0, .int .i64 0]) (by simp)) (by kernel_rfl) (by simp [Value.oneCell']) ?_; (obtain ⟨W2, hW2⟩ : ∃ W, W = (w1.alloc (.cells #[.int .i64 0, .slice none 0 0, .slice none 0 0, .slice none 0 0, .int .i64 0, .slice none 0 0, .int .i64 0, .int .i64 0, .int .i64 0, .int .i64 0, .int .i64 0, .int .i64 0, .int .i64 0, .int .i64 0, .int .i64 0, .int .i64 0, .int .i64 0, .int .i64 0, .int .i64 0, .int .i64 0, .int .i64 0, .int .i64 0, .int .i64 0, .int .i64 0] 37)).setCells w1.heap.size 0 ([.int .i64 3, .slice A.M.qv A.M.nv A.M.cv, .slice A.M.qu A.M.nu A.M.cu, .slice A.M.qt A.M.nt A.M.ct, .int .i64 A.X.S, .slice A.X.q A.X.n A.X.c, .int .i64 0, .int .i64 0, .int .i64 0, .int .i64 0, .int .i64 0, .int .i64 (A.l 0), .int .i64 (A.l 1), .int .i64 (A.l 2), .int .i64 (A.l 3), .int .i64 (A.l 4), .int .i64 (A.l 5), .int .i64 (A.l 6), .int .i64 (A.l 7), .int .i64 (A.l 8), .int .i64 (A.l 9), .int .i64 (A.l 10), .int .i64 (A.l 11), .int .i64 (A.l 12)]) := ⟨_, rfl⟩); have hbx : Below w1.heap.size w1 W2 := hW2 ▸ Below.setCells (Below.al (Below.refl _ _)) (Nat.le_refl _) _ _; have HQ : Hid (Own w1.heap.size ([.int .i64 3, .slice A.M.qv A.M.nv A.M.cv, .slice A.M.qu A.M.nu A.M.cu, .slice A.M.qt A.M.nt A.M.ct, .int .i64 A.X.S, .slice A.X.q A.X.n A.X.c, .int .i64 0, .int .i64 0, .int .i64 0, .int .i64 0, .int .i64 0, .int .i64 (A.l 0), .int .i64 (A.l 1), .int .i64 (A.l 2), .int .i64 (A.l 3), .int .i64 (A.l 4), .int .i64 (A.l 5), .int .i64 (A.l 6), .int .i64 (A.l 7), .int .i64 (A.l 8), .int .i64 (A.l 9), .int .i64 (A.l 10), .int .i64 (A.l 11), .int .i64 (A.l 12)]) W2) := Lib.hid (hW2 ▸ Own.store (Own.new _ [.int .i64 0, .slice none 0 0, .slice none 0 0, .slice none 0 0, .int .i64 0, .slice none 0 0, .int .i64 0, .int .i64 0, .int .i64 0, .int .i64 0, .int .i64 0, .int .i64 0, .int .i64 0, .int .i64 0, .int .i64 0, .int .i64 0, .int .i64 0, .int .i64 0, .int .i64 0, .int .i64 0, .int .i64 0, .int .i64 0, .int .i64 0, .int .i64 0] _) rfl); change wpList _ _ _ _ _ ((w1.alloc (.cells #[.int .i64 0, .slice none 0 0, .slice none 0 0, .slice none 0 0, .int .i64 0, .slice none 0 0, .int .i64 0, .int .i64 0, .int .i64 0, .int .i64 0, .int .i64 0, .int .i64 0, .int .i64 0, .int .i64 0, .int .i64 0, .int .i64 0, .int .i64 0, .int .i64 0, .int .i64 0, .int .i64 0, .int .i64 0, .int .i64 0, .int .i64 0, .int .i64 0] 37)).setCells w1.heap.size 0 ([.int .i64 3, .slice A.M.qv A.M.nv A.M.cv, .slice A.M.qu A.M.nu A.M.cu, .slice A.M.qt A.M.nt A.M.ct, .int .i64 A.X.S, .slice A.X.q A.X.n A.X.c, .int .i64 0, .int .i64 0, .int .i64 0, .int .i64 0, .int .i64 0, .int .i64 (A.l 0), .int .i64 (A.l 1), .int .i64 (A.l 2), .int .i64 (A.l 3), .int .i64 (A.l 4), .int .i64 (A.l 5), .int .i64 (A.l 6), .int .i64 (A.l 7), .int .i64 (A.l 8), .int .i64 (A.l 9), .int .i64 (A.l 10), .int .i64 (A.l 11), .int .i64 (A.l 12)])); rw [← hW2]; clear hW2)
  obtain ⟨Q, eQ⟩ : ∃ X, X = w1.heap.size := ⟨_, rfl⟩
  rw [← eQ] at HQ ⊢
  clear eQ
  have hB2 := Below.go hB1 hbx
  have HP2 := Lib.hid (HP1.out.later hbx); have BY2 := Lib.hid (BY.out.later hbx)
  clear HP1 BY hbx hB1
  by_cases hz : z = 0
  · subst hz
    have RL := Lib.hid (RM.out rfl)
    clear RM
    have oP := HP2.out
    have P0 := oP.at 0 _ rfl
    have Pl := oP.lt
    clear oP
    go_wp2_with (refine wpList_load_mid rfl 37 _ rfl Q 0 rfl ([.int .i64 3, .slice A.M.qv A.M.nv A.M.cv, .slice A.M.qu A.M.nu A.M.cu, .slice A.M.qt A.M.nt A.M.ct, .int .i64 A.X.S, .slice A.X.q A.X.n A.X.c, .int .i64 0, .int .i64 0, .int .i64 0, .int .i64 0, .int .i64 0, .int .i64 (A.l 0), .int .i64 (A.l 1), .int .i64 (A.l 2), .int .i64 (A.l 3), .int .i64 (A.l 4), .int .i64 (A.l 5), .int .i64 (A.l 6), .int .i64 (A.l 7), .int .i64 (A.l 8), .int .i64 (A.l 9), .int .i64 (A.l 10), .int .i64 (A.l 11), .int .i64 (A.l 12)]) _ HQ.out.cell Tryd.underlying37 rfl (by kernel_rfl) ?_)
    clear P0 Pl
    go_at_call 22
    refine (SB.out _ (AQ.out _ hB2)).mono ?_
    rintro e w3 ⟨rfl, hb⟩
    rw [EB.out]
    have hB3 := Below.go hB2 hb
    have HP3 := Lib.hid (HP2.out.later hb); have BY3 := Lib.hid (BY2.out.later hb)
    clear hB2 hb HP2 BY2 HQ SB AQ
    cases b with
    | false =>
      go_wp2_with (fail)
      exact bodyPost_ret (v := .tuple #[.slice none 0 0, .int .i64 5]) (by simp [results, Tryd.results16, go_sem]) rfl ⟨⟨_, rfl, none, 0, rfl, Nat.le_refl _, by decide, .inl rfl⟩, hB3⟩
    | true =>
      have oP := HP3.out
      have P0 := oP.at 0 _ rfl
      have Pl := oP.lt
      clear oP
      go_wp2_with (fail)
      clear P0 Pl
      go_at_call 23
      refine (Cap_any 3 _ (GQ.out _ hB3)).mono ?_
      rintro e w4 ⟨rfl, hw⟩
      subst hw
      rw [show capF 3 = 64 from rfl]
      have d9 : decide ((64 : Int) < (9 : Int)) = false := decide_eq_false (by have := RL.out; omega)
      have NL : encL 0 9 = 9 := rfl
      go_wp2_with (fail)
      exact bodyPost_ret (v := .tuple #[.slice q 9 c, .int .i64 0]) (by simp [results, Tryd.results16, go_sem]) rfl ⟨⟨_, rfl, q, c, rfl, CC.out.1, CC.out.2, BY3.out⟩, hB3⟩
  · have hd : (z != 0) = true := by simpa using hz
    have HZ : Hid (chk2 z b = z) := Lib.hid (if_neg hz)
    have HL : Hid (encL z 9 = 0) := Lib.hid (if_neg hz)
    go_wp2_with (fail)
    exact bodyPost_ret (v := .tuple #[.slice none 0 0, .int .i64 z]) (by simp [results, Tryd.results16, go_sem]) rfl ⟨⟨_, by rw [HZ.out], none, 0, by rw [HZ.out, HL.out], Nat.le_of_eq (by rw [HZ.out]; exact HL.out), by decide, .inl (by rw [HZ.out]; exact HL.out)⟩, hB2⟩
set_option maxHeartbeats 16000000 in
theorem Encode_4 (A : Ast) (hF : FewA A) (w : World) (hA : AstAt A w) (hg : Has 0 0 CapL w) : Calls Tryd.prog 16 #[(.agg #[.int .i64 4, .slice A.M.qv A.M.nv A.M.cv, .slice A.M.qu A.M.nu A.M.cu, .slice A.M.qt A.M.nt A.M.ct, .int .i64 A.X.S, .slice A.X.q A.X.n A.X.c, .int .i64 (A.g 0), .int .i64 (A.g 1), .int .i64 (A.g 2), .int .i64 (A.g 3), .int .i64 (A.g 4), .int .i64 (A.l 0), .int .i64 (A.l 1), .int .i64 (A.l 2), .int .i64 (A.l 3), .int .i64 (A.l 4), .int .i64 (A.l 5), .int .i64 (A.l 6), .int .i64 (A.l 7), .int .i64 (A.l 8), .int .i64 (A.l 9), .int .i64 (A.l 10), .int .i64 (A.l 11), .int .i64 (A.l 12)])] w fun e w' => (∃ v, e = .returned (.tuple #[v, .int .i64 (chk2 (chkLg A.l) (sameA ⟨4, A.M, A.X, A.g, fun _ => 0⟩ (kinA 4)))]) ∧ RowR w' v (encL (chk2 (chkLg A.l) (sameA ⟨4, A.M, A.X, A.g, fun _ => 0⟩ (kinA 4))) (31)) (encLg A.l)) ∧ Below w.heap.size w w' := by
  have AQ : Hid (∀ W, Below w.heap.size w W → AstAt A W) := Lib.hid (fun W hb => hA.later hb)
  have GQ : Hid (∀ W, Below w.heap.size w W → Has 0 0 CapL W) := Lib.hid (fun W hb => hg.later hb)
  have SB := Lib.hid (fun W (h : AstAt A W) => Same_any ⟨4, A.M, A.X, A.g, fun _ => 0⟩ (kinA 4) W ⟨h.m, h.x⟩ (kinA_at _ _) ⟨hF.v, hF.u, hF.t, hF.x⟩)
  have RM : Hid (chkLg A.l = 0 → 31 ≤ 64) := Lib.hid (fun _ => by decide)
  obtain ⟨z, ez⟩ : ∃ z, chkLg A.l = z := ⟨_, rfl⟩
  obtain ⟨b, eb⟩ : ∃ b, sameA ⟨4, A.M, A.X, A.g, fun _ => 0⟩ (kinA 4) = b := ⟨_, rfl⟩
  have CON := Lib.hid (encode_4 A)
  have EB := Lib.hid eb
  rw [ez] at CON RM ⊢
  rw [eb]
  have HF := Lib.hid hF
  skip
  have CON := Lib.hid (show ∀ (w : World), AstAt A w → Calls Tryd.prog 35 #[(.agg #[.int .i64 4, .slice A.M.qv A.M.nv A.M.cv, .slice A.M.qu A.M.nu A.M.cu, .slice A.M.qt A.M.nt A.M.ct, .int .i64 A.X.S, .slice A.X.q A.X.n A.X.c, .int .i64 (A.g 0), .int .i64 (A.g 1), .int .i64 (A.g 2), .int .i64 (A.g 3), .int .i64 (A.g 4), .int .i64 (A.l 0), .int .i64 (A.l 1), .int .i64 (A.l 2), .int .i64 (A.l 3), .int .i64 (A.l 4), .int .i64 (A.l 5), .int .i64 (A.l 6), .int .i64 (A.l 7), .int .i64 (A.l 8), .int .i64 (A.l 9), .int .i64 (A.l 10), .int .i64 (A.l 11), .int .i64 (A.l 12)])] w fun e w' => (∃ v, e = .returned (.tuple #[v, (.agg #[.int .i64 4, .slice A.M.qv A.M.nv A.M.cv, .slice A.M.qu A.M.nu A.M.cu, .slice A.M.qt A.M.nt A.M.ct, .int .i64 A.X.S, .slice A.X.q A.X.n A.X.c, .int .i64 (A.g 0), .int .i64 (A.g 1), .int .i64 (A.g 2), .int .i64 (A.g 3), .int .i64 (A.g 4), .int .i64 0, .int .i64 0, .int .i64 0, .int .i64 0, .int .i64 0, .int .i64 0, .int .i64 0, .int .i64 0, .int .i64 0, .int .i64 0, .int .i64 0, .int .i64 0, .int .i64 0]), .int .i64 z]) ∧ RowR w' v (encL z (31)) (encLg A.l)) ∧ Below w.heap.size w w' from CON.out)
  skip
  clear hA hg ez eb  hF
  go_enter Tryd.func16, Tryd.ntmps16
  go_upto_region 1 with fail
  obtain ⟨W0, hW⟩ : ∃ W0, W0 = (w.alloc (.cells #[.int .i64 4, .slice A.M.qv A.M.nv A.M.cv, .slice A.M.qu A.M.nu A.M.cu, .slice A.M.qt A.M.nt A.M.ct, .int .i64 A.X.S, .slice A.X.q A.X.n A.X.c, .int .i64 (A.g 0), .int .i64 (A.g 1), .int .i64 (A.g 2), .int .i64 (A.g 3), .int .i64 (A.g 4), .int .i64 (A.l 0), .int .i64 (A.l 1), .int .i64 (A.l 2), .int .i64 (A.l 3), .int .i64 (A.l 4), .int .i64 (A.l 5), .int .i64 (A.l 6), .int .i64 (A.l 7), .int .i64 (A.l 8), .int .i64 (A.l 9), .int .i64 (A.l 10), .int .i64 (A.l 11), .int .i64 (A.l 12)] 37)) := ⟨_, rfl⟩
  have hB0 : Below w.heap.size w W0 := hW ▸ (Below.al (Below.refl _ _))
  have HP : Hid (Own w.heap.size ([.int .i64 4, .slice A.M.qv A.M.nv A.M.cv, .slice A.M.qu A.M.nu A.M.cu, .slice A.M.qt A.M.nt A.M.ct, .int .i64 A.X.S, .slice A.X.q A.X.n A.X.c, .int .i64 (A.g 0), .int .i64 (A.g 1), .int .i64 (A.g 2), .int .i64 (A.g 3), .int .i64 (A.g 4), .int .i64 (A.l 0), .int .i64 (A.l 1), .int .i64 (A.l 2), .int .i64 (A.l 3), .int .i64 (A.l 4), .int .i64 (A.l 5), .int .i64 (A.l 6), .int .i64 (A.l 7), .int .i64 (A.l 8), .int .i64 (A.l 9), .int .i64 (A.l 10), .int .i64 (A.l 11), .int .i64 (A.l 12)]) W0) := Lib.hid (hW ▸ (show Own w.heap.size ([.int .i64 4, .slice A.M.qv A.M.nv A.M.cv, .slice A.M.qu A.M.nu A.M.cu, .slice A.M.qt A.M.nt A.M.ct, .int .i64 A.X.S, .slice A.X.q A.X.n A.X.c, .int .i64 (A.g 0), .int .i64 (A.g 1), .int .i64 (A.g 2), .int .i64 (A.g 3), .int .i64 (A.g 4), .int .i64 (A.l 0), .int .i64 (A.l 1), .int .i64 (A.l 2), .int .i64 (A.l 3), .int .i64 (A.l 4), .int .i64 (A.l 5), .int .i64 (A.l 6), .int .i64 (A.l 7), .int .i64 (A.l 8), .int .i64 (A.l 9), .int .i64 (A.l 10), .int .i64 (A.l 11), .int .i64 (A.l 12)]) (w.alloc (.cells #[.int .i64 4, .slice A.M.qv A.M.nv A.M.cv, .slice A.M.qu A.M.nu A.M.cu, .slice A.M.qt A.M.nt A.M.ct, .int .i64 A.X.S, .slice A.X.q A.X.n A.X.c, .int .i64 (A.g 0), .int .i64 (A.g 1), .int .i64 (A.g 2), .int .i64 (A.g 3), .int .i64 (A.g 4), .int .i64 (A.l 0), .int .i64 (A.l 1), .int .i64 (A.l 2), .int .i64 (A.l 3), .int .i64 (A.l 4), .int .i64 (A.l 5), .int .i64 (A.l 6), .int .i64 (A.l 7), .int .i64 (A.l 8), .int .i64 (A.l 9), .int .i64 (A.l 10), .int .i64 (A.l 11), .int .i64 (A.l 12)] 37)) from Own.newAt (by simp)))
  rw [← hW]
  clear hW
  obtain ⟨P, eP⟩ : ∃ X, X = w.heap.size := ⟨_, rfl⟩
  rw [← eP] at HP ⊢
  have Pw : w.heap.size ≤ P := by omega
  clear eP
  go_wp2_with (refine wpList_load_mid rfl 37 _ rfl P 0 rfl ([.int .i64 4, .slice A.M.qv A.M.nv A.M.cv, .slice A.M.qu A.M.nu A.M.cu, .slice A.M.qt A.M.nt A.M.ct, .int .i64 A.X.S, .slice A.X.q A.X.n A.X.c, .int .i64 (A.g 0), .int .i64 (A.g 1), .int .i64 (A.g 2), .int .i64 (A.g 3), .int .i64 (A.g 4), .int .i64 (A.l 0), .int .i64 (A.l 1), .int .i64 (A.l 2), .int .i64 (A.l 3), .int .i64 (A.l 4), .int .i64 (A.l 5), .int .i64 (A.l 6), .int .i64 (A.l 7), .int .i64 (A.l 8), .int .i64 (A.l 9), .int .i64 (A.l 10), .int .i64 (A.l 11), .int .i64 (A.l 12)]) _ HP.out.cell Tryd.underlying37 rfl (by kernel_rfl) ?_)
  go_at_call 35
  refine (CON.out _ (AQ.out _ hB0)).mono ?_
  rintro e w1 ⟨⟨v, rfl, hr⟩, hb⟩
  obtain ⟨q, c, rfl, hc1, hc2, hy⟩ := hr
  have BY := Lib.hid hy; have CC := Lib.hid (And.intro hc1 hc2)
  have HP1 := Lib.hid (HP.out.later hb)
  have hB1 := Below.go hB0 hb
  clear hy hc1 hc2 hb hB0 HP CON
  go_upto_region 2 with (refine wpList_store_mid rfl 37 _ _ rfl _ 0 #[.int .i64 4, .slice A.M.qv A.M.nv A.M.cv, .slice A.M.qu A.M.nu A.M.cu, .slice A.M.qt A.M.nt A.M.ct, .int .i64 A.X.S, .slice A.X.q A.X.n A.X.c, .int .i64 (A.g 0), .int .i64 (A.g 1), .int .i64 (A.g 2), .int .i64 (A.g 3), .int .i64 (A.g 4), .int .i64 0, .int .i64 0, .int .i64 0, .int .i64 0, .int .i64 0, .int .i64 0, .int .i64 0, .int .i64 0, .int .i64 0, .int .i64 0, .int .i64 0, .int .i64 0, .int .i64 0] rfl rfl (there_newn (cs := [.int .i64 0, .slice none 0 0, .slice none 0 0, .slice none 0 0, .int .i64 0, .slice none 0 0, .int .i64 0, .int .i64 0, .int .i64 0, .int .i64 0, .int .i64 0, .int .i64 0, .int .i64 0, .int .i64 0, .int .i64 0, .int .i64 0, .int .i64 0, .int .i64 0, .int .i64 0, .int .i64 0, .int .i64 0, .int .i64 0, .int .i64 0, .int .i64 0]) (by simp)) (by kernel_rfl) (by simp [Value.oneCell']) ?_; (obtain ⟨W2, hW2⟩ : ∃ W, W = (w1.alloc (.cells #[.int .i64 0, .slice none 0 0, .slice none 0 0, .slice none 0 0, .int .i64 0, .slice none 0 0, .int .i64 0, .int .i64 0, .int .i64 0, .int .i64 0, .int .i64 0, .int .i64 0, .int .i64 0, .int .i64 0, .int .i64 0, .int .i64 0, .int .i64 0, .int .i64 0, .int .i64 0, .int .i64 0, .int .i64 0, .int .i64 0, .int .i64 0, .int .i64 0] 37)).setCells w1.heap.size 0 ([.int .i64 4, .slice A.M.qv A.M.nv A.M.cv, .slice A.M.qu A.M.nu A.M.cu, .slice A.M.qt A.M.nt A.M.ct, .int .i64 A.X.S, .slice A.X.q A.X.n A.X.c, .int .i64 (A.g 0), .int .i64 (A.g 1), .int .i64 (A.g 2), .int .i64 (A.g 3), .int .i64 (A.g 4), .int .i64 0, .int .i64 0, .int .i64 0, .int .i64 0, .int .i64 0, .int .i64 0, .int .i64 0, .int .i64 0, .int .i64 0, .int .i64 0, .int .i64 0, .int .i64 0, .int .i64 0]) := ⟨_, rfl⟩); have hbx : Below w1.heap.size w1 W2 := hW2 ▸ Below.setCells (Below.al (Below.refl _ _)) (Nat.le_refl _) _ _; have HQ : Hid (Own w1.heap.size ([.int .i64 4, .slice A.M.qv A.M.nv A.M.cv, .slice A.M.qu A.M.nu A.M.cu, .slice A.M.qt A.M.nt A.M.ct, .int .i64 A.X.S, .slice A.X.q A.X.n A.X.c, .int .i64 (A.g 0), .int .i64 (A.g 1), .int .i64 (A.g 2), .int .i64 (A.g 3), .int .i64 (A.g 4), .int .i64 0, .int .i64 0, .int .i64 0, .int .i64 0, .int .i64 0, .int .i64 0, .int .i64 0, .int .i64 0, .int .i64 0, .int .i64 0, .int .i64 0, .int .i64 0, .int .i64 0]) W2) := Lib.hid (hW2 ▸ Own.store (Own.new _ [.int .i64 0, .slice none 0 0, .slice none 0 0, .slice none 0 0, .int .i64 0, .slice none 0 0, .int .i64 0, .int .i64 0, .int .i64 0, .int .i64 0, .int .i64 0, .int .i64 0, .int .i64 0, .int .i64 0, .int .i64 0, .int .i64 0, .int .i64 0, .int .i64 0, .int .i64 0, .int .i64 0, .int .i64 0, .int .i64 0, .int .i64 0, .int .i64 0] _) rfl); change wpList _ _ _ _ _ ((w1.alloc (.cells #[.int .i64 0, .slice none 0 0, .slice none 0 0, .slice none 0 0, .int .i64 0, .slice none 0 0, .int .i64 0, .int .i64 0, .int .i64 0, .int .i64 0, .int .i64 0, .int .i64 0, .int .i64 0, .int .i64 0, .int .i64 0, .int .i64 0, .int .i64 0, .int .i64 0, .int .i64 0, .int .i64 0, .int .i64 0, .int .i64 0, .int .i64 0, .int .i64 0] 37)).setCells w1.heap.size 0 ([.int .i64 4, .slice A.M.qv A.M.nv A.M.cv, .slice A.M.qu A.M.nu A.M.cu, .slice A.M.qt A.M.nt A.M.ct, .int .i64 A.X.S, .slice A.X.q A.X.n A.X.c, .int .i64 (A.g 0), .int .i64 (A.g 1), .int .i64 (A.g 2), .int .i64 (A.g 3), .int .i64 (A.g 4), .int .i64 0, .int .i64 0, .int .i64 0, .int .i64 0, .int .i64 0, .int .i64 0, .int .i64 0, .int .i64 0, .int .i64 0, .int .i64 0, .int .i64 0, .int .i64 0, .int .i64 0])); rw [← hW2]; clear hW2)
  obtain ⟨Q, eQ⟩ : ∃ X, X = w1.heap.size := ⟨_, rfl⟩
  rw [← eQ] at HQ ⊢
  clear eQ
  have hB2 := Below.go hB1 hbx
  have HP2 := Lib.hid (HP1.out.later hbx); have BY2 := Lib.hid (BY.out.later hbx)
  clear HP1 BY hbx hB1
  by_cases hz : z = 0
  · subst hz
    have RL := Lib.hid (RM.out rfl)
    clear RM
    have oP := HP2.out
    have P0 := oP.at 0 _ rfl
    have Pl := oP.lt
    clear oP
    go_wp2_with (refine wpList_load_mid rfl 37 _ rfl Q 0 rfl ([.int .i64 4, .slice A.M.qv A.M.nv A.M.cv, .slice A.M.qu A.M.nu A.M.cu, .slice A.M.qt A.M.nt A.M.ct, .int .i64 A.X.S, .slice A.X.q A.X.n A.X.c, .int .i64 (A.g 0), .int .i64 (A.g 1), .int .i64 (A.g 2), .int .i64 (A.g 3), .int .i64 (A.g 4), .int .i64 0, .int .i64 0, .int .i64 0, .int .i64 0, .int .i64 0, .int .i64 0, .int .i64 0, .int .i64 0, .int .i64 0, .int .i64 0, .int .i64 0, .int .i64 0, .int .i64 0]) _ HQ.out.cell Tryd.underlying37 rfl (by kernel_rfl) ?_)
    clear P0 Pl
    go_at_call 22
    refine (SB.out _ (AQ.out _ hB2)).mono ?_
    rintro e w3 ⟨rfl, hb⟩
    rw [EB.out]
    have hB3 := Below.go hB2 hb
    have HP3 := Lib.hid (HP2.out.later hb); have BY3 := Lib.hid (BY2.out.later hb)
    clear hB2 hb HP2 BY2 HQ SB AQ
    cases b with
    | false =>
      go_wp2_with (fail)
      exact bodyPost_ret (v := .tuple #[.slice none 0 0, .int .i64 5]) (by simp [results, Tryd.results16, go_sem]) rfl ⟨⟨_, rfl, none, 0, rfl, Nat.le_refl _, by decide, .inl rfl⟩, hB3⟩
    | true =>
      have oP := HP3.out
      have P0 := oP.at 0 _ rfl
      have Pl := oP.lt
      clear oP
      go_wp2_with (fail)
      clear P0 Pl
      go_at_call 23
      refine (Cap_any 4 _ (GQ.out _ hB3)).mono ?_
      rintro e w4 ⟨rfl, hw⟩
      subst hw
      rw [show capF 4 = 64 from rfl]
      have d9 : decide ((64 : Int) < (31 : Int)) = false := decide_eq_false (by have := RL.out; omega)
      have NL : encL 0 31 = 31 := rfl
      go_wp2_with (fail)
      exact bodyPost_ret (v := .tuple #[.slice q 31 c, .int .i64 0]) (by simp [results, Tryd.results16, go_sem]) rfl ⟨⟨_, rfl, q, c, rfl, CC.out.1, CC.out.2, BY3.out⟩, hB3⟩
  · have hd : (z != 0) = true := by simpa using hz
    have HZ : Hid (chk2 z b = z) := Lib.hid (if_neg hz)
    have HL : Hid (encL z 31 = 0) := Lib.hid (if_neg hz)
    go_wp2_with (fail)
    exact bodyPost_ret (v := .tuple #[.slice none 0 0, .int .i64 z]) (by simp [results, Tryd.results16, go_sem]) rfl ⟨⟨_, by rw [HZ.out], none, 0, by rw [HZ.out, HL.out], Nat.le_of_eq (by rw [HZ.out]; exact HL.out), by decide, .inl (by rw [HZ.out]; exact HL.out)⟩, hB2⟩
end Go.Proofs.YtokfhhngnpbdkaaDoor
