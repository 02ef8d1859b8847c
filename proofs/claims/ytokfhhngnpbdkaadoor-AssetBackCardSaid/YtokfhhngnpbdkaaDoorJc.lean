/- asset: decode. -/
import Derived.Test.YtokfhhngnpbdkaaDoorJb
import Derived.Test.YtokfhhngnpbdkaaDoorIO
import Derived.Test.YtokfhhngnpbdkaaDoorTXD
import Derived.Lib.Hide
import Derived.LoopN
import Derived.LoopTactic
import Derived.Deep.Onto
import Derived.Deep.RegionHeld3
import Derived.Deep.QuietTactic
import Derived.BigQuiet
import Derived.Great.BuildSlice
import Derived.StillTailTactics
import Derived.Lib.SliceRun
import Derived.OrdersHeld
namespace Go.Proofs.YtokfhhngnpbdkaaDoor
set_option linter.unusedVariables false
set_option maxRecDepth 2000
set_option linter.unusedSimpArgs false
open Go.RowKit
theorem has_apart {b o Q k : Nat} {cs vs : List Value} {W : World} (h : Has b o cs W) (hx : ∀ j, j < cs.length → k ≤ o + j → o + j < k + vs.length → b = Q → False) : Has b o cs (W.setCells Q k vs) where
  lt := by rw [size_setCells]; exact h.lt
  cell := by
    by_cases e : b = Q
    · intro j v hv
      have h1 := h.cell j v hv
      have hj := (List.getElem?_eq_some_iff.1 hv).1
      subst e
      rw [World.cell?_setCells_out b vs k W ⟨b, o + j, none⟩ (fun _ _ => by
        show o + j < k ∨ k + vs.length ≤ o + j
        by_cases a : o + j < k
        · exact .inl a
        · by_cases c : k + vs.length ≤ o + j
          · exact .inr c
          · exact (hx j hj (by omega) (by omega) rfl).elim)]
      exact h1
    · exact World.rangeAt_setCells_apart h.cell _ _ _ (.inl e)
theorem NmS.mid {s n Q k : Nat} {q : Option Addr} {f : Nat → Int} {ds vs : List Value} {W : World} (h : NmS W s q n f) (hQ : Own Q ds W) (hd : ∀ i, k ≤ i → i < k + vs.length → ∃ p m c, ds[i]? = some (.slice p m c)) : NmS (W.setCells Q k vs) s q n f := by
  rcases h with h0 | ⟨b, o, e, hh⟩
  · exact .inl h0
  · refine .inr ⟨b, o, e, has_apart hh fun j hj h1 h2 e2 => ?_⟩
    subst e2
    obtain ⟨p, m, c, hp⟩ := hd _ h1 h2
    have a1 := hQ.at _ _ hp
    rw [nums_length] at hj
    have a2 := hh.at j _ (nums_at .i64 f hj)
    rw [a1] at a2
    cases a2
theorem MeshAt.far3 {M : Msh} {Q : Nat} {k0 : Value} {p1 p2 p3 : Option Addr} {n1 c1 n2 c2 n3 c3 : Nat} {ds vs : List Value} {W : World} (h : MeshAt M W) (hQ : Own Q (k0 :: .slice p1 n1 c1 :: .slice p2 n2 c2 :: .slice p3 n3 c3 :: ds) W) (hl : vs.length = 3) : MeshAt M (W.setCells Q 1 vs) := by
  have hd : ∀ i, 1 ≤ i → i < 1 + vs.length → ∃ p m c, (k0 :: .slice p1 n1 c1 :: .slice p2 n2 c2 :: .slice p3 n3 c3 :: ds)[i]? = some (.slice p m c) := fun i h1 h2 => by
    rw [hl] at h2
    match i, h1, h2 with
    | 1, _, _ => exact ⟨_, _, _, rfl⟩
    | 2, _, _ => exact ⟨_, _, _, rfl⟩
    | 3, _, _ => exact ⟨_, _, _, rfl⟩
  exact ⟨h.v.mid hQ hd, h.u.mid hQ hd, h.t.mid hQ hd, h.lv, h.lu, h.lt, h.mv, h.mu, h.mt⟩
theorem TxAt.far3 {M : Txr} {Q : Nat} {k0 k1 k2 k4 : Value} {p3 p5 : Option Addr} {n3 c3 n5 c5 : Nat} {ds vs : List Value} {W : World} (h : TxAt M W) (hQ : Own Q (k0 :: k1 :: k2 :: .slice p3 n3 c3 :: k4 :: .slice p5 n5 c5 :: ds) W) (hl : vs.length = 2) : TxAt M (W.setCells Q 4 vs) := by
  refine ⟨?_, h.l, h.m⟩
  rcases h.t with h0 | ⟨b, o, e, hh⟩
  · exact .inl h0
  · refine .inr ⟨b, o, e, has_apart hh fun j hj h1 h2 e2 => ?_⟩
    subst e2
    rw [nums_length] at hj
    rw [hl] at h2
    have s3 := hQ.at 3 _ rfl; have s5 := hQ.at 5 _ rfl
    have no : ∀ i, i < M.n * 3 → o + i ≠ 3 ∧ o + i ≠ 5 := fun i hi => by
      have a2 := hh.at i _ (nums_at .i64 M.f hi)
      constructor
      · intro e3; rw [e3, s3] at a2; cases a2
      · intro e3; rw [e3, s5] at a2; cases a2
    have a := no j hj
    have h4 : o + j = 4 := by omega
    by_cases hj0 : j = 0
    · have := no 1 (by omega)
      omega
    · have := no (j - 1) (by omega)
      omega
theorem MeshAt.self {M : Msh} {Q : Nat} {cs : List Value} {W : World} (h : MeshAt M W) (hQ : Own Q cs W) : MeshAt M (W.setCells Q 0 cs) := by
  rw [setCells_self cs 0 W (fun j v hv => by rw [Nat.zero_add]; exact hQ.at j v hv)]; exact h
theorem TxAt.self {M : Txr} {Q : Nat} {cs : List Value} {W : World} (h : TxAt M W) (hQ : Own Q cs W) : TxAt M (W.setCells Q 0 cs) := by
  rw [setCells_self cs 0 W (fun j v hv => by rw [Nat.zero_add]; exact hQ.at j v hv)]; exact h
theorem EqA.symm {A B : Ast} (h : EqA A B) : EqA B A := ⟨h.k.symm, ⟨h.v.1.symm, fun j hj => (h.v.2 j (by rw [h.v.1]; exact hj)).symm⟩, ⟨h.u.1.symm, fun j hj => (h.u.2 j (by rw [h.u.1]; exact hj)).symm⟩, ⟨h.t.1.symm, fun j hj => (h.t.2 j (by rw [h.t.1]; exact hj)).symm⟩, h.s.symm, ⟨h.x.1.symm, fun j hj => (h.x.2 j (by rw [h.x.1]; exact hj)).symm⟩, fun j hj => (h.g j hj).symm, fun j hj => (h.l j hj).symm⟩
theorem EqA.trans {A B C : Ast} (h : EqA A B) (k : EqA B C) : EqA A C := ⟨h.k.trans k.k, ⟨h.v.1.trans k.v.1, fun j hj => (h.v.2 j hj).trans (k.v.2 j (by rw [← h.v.1]; exact hj))⟩, ⟨h.u.1.trans k.u.1, fun j hj => (h.u.2 j hj).trans (k.u.2 j (by rw [← h.u.1]; exact hj))⟩, ⟨h.t.1.trans k.t.1, fun j hj => (h.t.2 j hj).trans (k.t.2 j (by rw [← h.t.1]; exact hj))⟩, h.s.trans k.s, ⟨h.x.1.trans k.x.1, fun j hj => (h.x.2 j hj).trans (k.x.2 j (by rw [← h.x.1]; exact hj))⟩, fun j hj => (h.g j hj).trans (k.g j hj), fun j hj => (h.l j hj).trans (k.l j hj)⟩
theorem sameA_congr {A B C : Ast} (h : EqA A B) : sameA A C = sameA B C := Bool.eq_iff_iff.2 ⟨fun e => sameA_iff.2 (h.symm.trans (sameA_iff.1 e)), fun e => sameA_iff.2 (h.trans (sameA_iff.1 e))⟩
theorem nilE {n : Nat} {f : Nat → Int} : n = n ∧ ∀ j, j < n → f j = f j := ⟨rfl, fun _ _ => rfl⟩
theorem chkM_congr {A B : Ast} (h : EqA A B) : chkM A.M = chkM B.M := by
  unfold chkM
  rw [chk_congr h.v.2 h.u.2 h.t.2, h.v.1, h.u.1, h.t.1]
theorem chkX_congr {A B : Ast} (h : EqA A B) : chkT A.X.S A.X.n A.X.f = chkT B.X.S B.X.n B.X.f := by
  rw [tchk_congr h.x.2, h.s, h.x.1]
theorem chkA_congr {A B : Ast} (h : EqA A B) : chkA A = chkA B := by
  have s1 : sameA ⟨1, nilM, A.X, A.g, A.l⟩ (kinA 1) = sameA ⟨1, nilM, B.X, B.g, B.l⟩ (kinA 1) := sameA_congr ⟨rfl, ⟨rfl, fun _ _ => rfl⟩, ⟨rfl, fun _ _ => rfl⟩, ⟨rfl, fun _ _ => rfl⟩, h.s, h.x, h.g, h.l⟩
  have s2 : sameA ⟨2, A.M, nilX, A.g, A.l⟩ (kinA 2) = sameA ⟨2, B.M, nilX, B.g, B.l⟩ (kinA 2) := sameA_congr ⟨rfl, h.v, h.u, h.t, rfl, ⟨rfl, fun _ _ => rfl⟩, h.g, h.l⟩
  have s3 : sameA ⟨3, A.M, A.X, fun _ => 0, A.l⟩ (kinA 3) = sameA ⟨3, B.M, B.X, fun _ => 0, B.l⟩ (kinA 3) := sameA_congr ⟨rfl, h.v, h.u, h.t, h.s, h.x, fun _ _ => rfl, h.l⟩
  have s4 : sameA ⟨4, A.M, A.X, A.g, fun _ => 0⟩ (kinA 4) = sameA ⟨4, B.M, B.X, B.g, fun _ => 0⟩ (kinA 4) := sameA_congr ⟨rfl, h.v, h.u, h.t, h.s, h.x, h.g, fun _ _ => rfl⟩
  unfold chkA
  rw [h.k, chkM_congr h, chkX_congr h, chkG_congr h.g, chkLg_congr h.l, s1, s2, s3, s4]
/-- the asset that bytes tell, and decode's own error -/
def decA (k : Int) (F : Nat → Int) (N : Nat) : Ast :=
  if k = 1 then ⟨k, ⟨none, dcN F N 0, 0, decV F N, none, dcN F N 0, 0, decU F N, none, dcN F N 1, 0, decR F N⟩, nilX, fun _ => 0, fun _ => 0⟩
  else if k = 2 then ⟨k, nilM, ⟨(dcS F N : Int), none, dcS F N * dcS F N, 0, fun j => F (1 + j)⟩, fun _ => 0, fun _ => 0⟩
  else if k = 3 then ⟨k, nilM, nilX, decG F N, fun _ => 0⟩
  else if k = 4 then ⟨k, nilM, nilX, fun _ => 0, decLt F N⟩
  else kinA k
def decZ (k : Int) (F : Nat → Int) (N : Nat) : Int := if k = 1 then decE F N else if k = 2 then tdecE F N else if k = 3 then endE N 9 (erN N 9) else if k = 4 then endE N 31 (erN N 31) else 12
def decEA (k : Int) (F : Nat → Int) (N : Nat) : Int := if decZ k F N = 0 then chkA (decA k F N) else decZ k F N
set_option maxHeartbeats 8000000 in
theorem decode_1 (F : Nat → Int) (q : Option Addr) (N c : Nat) (hF : ∀ j, j < N → inB (F j)) (hN : N ≤ 900) (w : World) (hq : Byt w q N F) :
    Calls Tryd.prog 36 #[.int .i64 1, .slice q N c] w fun e w' => (∃ M, e = .returned (.tuple #[(.agg #[.int .i64 1, .slice M.qv M.nv M.cv, .slice M.qu M.nu M.cu, .slice M.qt M.nt M.ct, .int .i64 0, .slice none 0 0, .int .i64 0, .int .i64 0, .int .i64 0, .int .i64 0, .int .i64 0, .int .i64 0, .int .i64 0, .int .i64 0, .int .i64 0, .int .i64 0, .int .i64 0, .int .i64 0, .int .i64 0, .int .i64 0, .int .i64 0, .int .i64 0, .int .i64 0, .int .i64 0]), .int .i64 (decE F N)]) ∧ MeshAt M w' ∧ DecM F N M) ∧ Below w.heap.size w w' := by
  have HQ := Lib.hid hq
  have CON := Lib.hid (Decode_any F q N c hF (by omega))
  have DM := Lib.hid (fun M (h : DecM F N M) => h)
  obtain ⟨z, ez⟩ : ∃ z, decE F N = z := ⟨_, rfl⟩
  rw [ez] at CON ⊢
  clear ez
  clear hF hN hq
  go_enter Tryd.func36, Tryd.ntmps36
  go_upto_region 1 with fail
  obtain ⟨W0, hW⟩ : ∃ W0, W0 = (w.alloc (.cells #[.int .i64 0, .slice none 0 0, .slice none 0 0, .slice none 0 0, .int .i64 0, .slice none 0 0, .int .i64 0, .int .i64 0, .int .i64 0, .int .i64 0, .int .i64 0, .int .i64 0, .int .i64 0, .int .i64 0, .int .i64 0, .int .i64 0, .int .i64 0, .int .i64 0, .int .i64 0, .int .i64 0, .int .i64 0, .int .i64 0, .int .i64 0, .int .i64 0] 37)) := ⟨_, rfl⟩
  have hB0 : Below w.heap.size w W0 := hW ▸ (Below.al (Below.refl _ _))
  have HP : Hid (Own w.heap.size ([.int .i64 0, .slice none 0 0, .slice none 0 0, .slice none 0 0, .int .i64 0, .slice none 0 0, .int .i64 0, .int .i64 0, .int .i64 0, .int .i64 0, .int .i64 0, .int .i64 0, .int .i64 0, .int .i64 0, .int .i64 0, .int .i64 0, .int .i64 0, .int .i64 0, .int .i64 0, .int .i64 0, .int .i64 0, .int .i64 0, .int .i64 0, .int .i64 0]) W0) := Lib.hid (hW ▸ (show Own w.heap.size ([.int .i64 0, .slice none 0 0, .slice none 0 0, .slice none 0 0, .int .i64 0, .slice none 0 0, .int .i64 0, .int .i64 0, .int .i64 0, .int .i64 0, .int .i64 0, .int .i64 0, .int .i64 0, .int .i64 0, .int .i64 0, .int .i64 0, .int .i64 0, .int .i64 0, .int .i64 0, .int .i64 0, .int .i64 0, .int .i64 0, .int .i64 0, .int .i64 0]) (w.alloc (.cells #[.int .i64 0, .slice none 0 0, .slice none 0 0, .slice none 0 0, .int .i64 0, .slice none 0 0, .int .i64 0, .int .i64 0, .int .i64 0, .int .i64 0, .int .i64 0, .int .i64 0, .int .i64 0, .int .i64 0, .int .i64 0, .int .i64 0, .int .i64 0, .int .i64 0, .int .i64 0, .int .i64 0, .int .i64 0, .int .i64 0, .int .i64 0, .int .i64 0] 37)) from Own.newAt (by simp)))
  rw [← hW]
  clear hW
  obtain ⟨P, eP⟩ : ∃ X, X = w.heap.size := ⟨_, rfl⟩
  rw [← eP] at HP ⊢
  have Pw : w.heap.size ≤ P := by omega
  clear eP
  have oP := HP.out
  have P0 := oP.at 0 _ rfl
  have Pf0 := oP.ok 0 (by simp)
  have Pl := oP.lt
  clear oP
  go_upto_region 2 with fail
  clear P0 Pf0 Pl
  rw [show (W0.setCell ⟨P, 0, none⟩ (.int .i64 1)) = W0.setCells P 0 [.int .i64 1] from rfl]
  have HP1 : Hid (Own P ([.int .i64 1, .slice none 0 0, .slice none 0 0, .slice none 0 0, .int .i64 0, .slice none 0 0, .int .i64 0, .int .i64 0, .int .i64 0, .int .i64 0, .int .i64 0, .int .i64 0, .int .i64 0, .int .i64 0, .int .i64 0, .int .i64 0, .int .i64 0, .int .i64 0, .int .i64 0, .int .i64 0, .int .i64 0, .int .i64 0, .int .i64 0, .int .i64 0]) (W0.setCells P 0 [.int .i64 1])) := Lib.hid (show Own P (over _ 0 [.int .i64 1]) _ from Own.part HP.out (by simp))
  have hB1 : Below w.heap.size w (W0.setCells P 0 [.int .i64 1]) := Below.setCells hB0 Pw _ _
  clear HP hB0
  generalize W0.setCells P 0 [.int .i64 1] = w1 at *
  go_wp2_with (fail)
  go_at_call 56
  refine (CON.out _ (HQ.out.later hB1)).mono ?_
  rintro e w2 ⟨⟨M, rfl, hM, hD⟩, hb⟩
  have HP2 := Lib.hid (HP1.out.later hb); have hB2 := Below.go hB1 hb
  have MM := Lib.hid hM; have DD := Lib.hid hD
  clear hM hD hb HP1 hB1 HQ CON DM
  have oP := HP2.out
  have P1 := oP.at 1 _ rfl
  have Pf1 := oP.ok 1 (by simp)
  have P2 := oP.at 2 _ rfl
  have Pf2 := oP.ok 2 (by simp)
  have P3 := oP.at 3 _ rfl
  have Pf3 := oP.ok 3 (by simp)
  have Pl := oP.lt
  clear oP
  go_upto_region 12 with fail
  clear P1 Pf1 P2 Pf2 P3 Pf3 Pl
  rw [show (((w2.setCell ⟨P, 1, none⟩ (.slice M.qv M.nv M.cv)).setCell ⟨P, 2, none⟩ (.slice M.qu M.nu M.cu)).setCell ⟨P, 3, none⟩ (.slice M.qt M.nt M.ct)) = w2.setCells P 1 [.slice M.qv M.nv M.cv, .slice M.qu M.nu M.cu, .slice M.qt M.nt M.ct] from rfl]
  have HP3 : Hid (Own P ([.int .i64 1, .slice M.qv M.nv M.cv, .slice M.qu M.nu M.cu, .slice M.qt M.nt M.ct, .int .i64 0, .slice none 0 0, .int .i64 0, .int .i64 0, .int .i64 0, .int .i64 0, .int .i64 0, .int .i64 0, .int .i64 0, .int .i64 0, .int .i64 0, .int .i64 0, .int .i64 0, .int .i64 0, .int .i64 0, .int .i64 0, .int .i64 0, .int .i64 0, .int .i64 0, .int .i64 0]) (w2.setCells P 1 [.slice M.qv M.nv M.cv, .slice M.qu M.nu M.cu, .slice M.qt M.nt M.ct])) := Lib.hid (show Own P (over _ 1 [.slice M.qv M.nv M.cv, .slice M.qu M.nu M.cu, .slice M.qt M.nt M.ct]) _ from Own.part HP2.out (by simp))
  have hB3 : Below w.heap.size w (w2.setCells P 1 [.slice M.qv M.nv M.cv, .slice M.qu M.nu M.cu, .slice M.qt M.nt M.ct]) := Below.setCells hB2 Pw _ _
  have MM3 := Lib.hid (MeshAt.far3 MM.out HP2.out (vs := [.slice M.qv M.nv M.cv, .slice M.qu M.nu M.cu, .slice M.qt M.nt M.ct]) rfl)
  clear HP2 hB2 MM
  generalize w2.setCells P 1 [.slice M.qv M.nv M.cv, .slice M.qu M.nu M.cu, .slice M.qt M.nt M.ct] = w3 at *
  go_wp2_with (first | (refine wpList_load_mid rfl 37 _ rfl P 0 rfl ([.int .i64 1, .slice M.qv M.nv M.cv, .slice M.qu M.nu M.cu, .slice M.qt M.nt M.ct, .int .i64 0, .slice none 0 0, .int .i64 0, .int .i64 0, .int .i64 0, .int .i64 0, .int .i64 0, .int .i64 0, .int .i64 0, .int .i64 0, .int .i64 0, .int .i64 0, .int .i64 0, .int .i64 0, .int .i64 0, .int .i64 0, .int .i64 0, .int .i64 0, .int .i64 0, .int .i64 0]) _ HP3.out.cell Tryd.underlying37 rfl (by kernel_rfl) ?_) | (refine wpList_store_mid rfl 37 _ _ rfl P 0 ([.int .i64 1, .slice M.qv M.nv M.cv, .slice M.qu M.nu M.cu, .slice M.qt M.nt M.ct, .int .i64 0, .slice none 0 0, .int .i64 0, .int .i64 0, .int .i64 0, .int .i64 0, .int .i64 0, .int .i64 0, .int .i64 0, .int .i64 0, .int .i64 0, .int .i64 0, .int .i64 0, .int .i64 0, .int .i64 0, .int .i64 0, .int .i64 0, .int .i64 0, .int .i64 0, .int .i64 0]).toArray rfl rfl HP3.out.free (by kernel_rfl) (by simp [Value.oneCell']) ?_; change wpList _ _ _ _ _ (w3.setCells P 0 ([.int .i64 1, .slice M.qv M.nv M.cv, .slice M.qu M.nu M.cu, .slice M.qt M.nt M.ct, .int .i64 0, .slice none 0 0, .int .i64 0, .int .i64 0, .int .i64 0, .int .i64 0, .int .i64 0, .int .i64 0, .int .i64 0, .int .i64 0, .int .i64 0, .int .i64 0, .int .i64 0, .int .i64 0, .int .i64 0, .int .i64 0, .int .i64 0, .int .i64 0, .int .i64 0, .int .i64 0])); have HPz : Hid (Own P ([.int .i64 1, .slice M.qv M.nv M.cv, .slice M.qu M.nu M.cu, .slice M.qt M.nt M.ct, .int .i64 0, .slice none 0 0, .int .i64 0, .int .i64 0, .int .i64 0, .int .i64 0, .int .i64 0, .int .i64 0, .int .i64 0, .int .i64 0, .int .i64 0, .int .i64 0, .int .i64 0, .int .i64 0, .int .i64 0, .int .i64 0, .int .i64 0, .int .i64 0, .int .i64 0, .int .i64 0]) (w3.setCells P 0 ([.int .i64 1, .slice M.qv M.nv M.cv, .slice M.qu M.nu M.cu, .slice M.qt M.nt M.ct, .int .i64 0, .slice none 0 0, .int .i64 0, .int .i64 0, .int .i64 0, .int .i64 0, .int .i64 0, .int .i64 0, .int .i64 0, .int .i64 0, .int .i64 0, .int .i64 0, .int .i64 0, .int .i64 0, .int .i64 0, .int .i64 0, .int .i64 0, .int .i64 0, .int .i64 0, .int .i64 0]))) := Lib.hid (Own.store HP3.out rfl); have MMz := Lib.hid (MeshAt.self MM3.out HP3.out); have hBz : Below w.heap.size w (w3.setCells P 0 ([.int .i64 1, .slice M.qv M.nv M.cv, .slice M.qu M.nu M.cu, .slice M.qt M.nt M.ct, .int .i64 0, .slice none 0 0, .int .i64 0, .int .i64 0, .int .i64 0, .int .i64 0, .int .i64 0, .int .i64 0, .int .i64 0, .int .i64 0, .int .i64 0, .int .i64 0, .int .i64 0, .int .i64 0, .int .i64 0, .int .i64 0, .int .i64 0, .int .i64 0, .int .i64 0, .int .i64 0])) := Below.setCells hB3 Pw _ _; generalize w3.setCells P 0 ([.int .i64 1, .slice M.qv M.nv M.cv, .slice M.qu M.nu M.cu, .slice M.qt M.nt M.ct, .int .i64 0, .slice none 0 0, .int .i64 0, .int .i64 0, .int .i64 0, .int .i64 0, .int .i64 0, .int .i64 0, .int .i64 0, .int .i64 0, .int .i64 0, .int .i64 0, .int .i64 0, .int .i64 0, .int .i64 0, .int .i64 0, .int .i64 0, .int .i64 0, .int .i64 0, .int .i64 0]) = wz at *))
  have hL := run_loadVar_mid (P := Tryd.prog) _ P 0 37 ([.int .i64 1, .slice M.qv M.nv M.cv, .slice M.qu M.nu M.cu, .slice M.qt M.nt M.ct, .int .i64 0, .slice none 0 0, .int .i64 0, .int .i64 0, .int .i64 0, .int .i64 0, .int .i64 0, .int .i64 0, .int .i64 0, .int .i64 0, .int .i64 0, .int .i64 0, .int .i64 0, .int .i64 0, .int .i64 0, .int .i64 0, .int .i64 0, .int .i64 0, .int .i64 0, .int .i64 0]) _ HPz.out.cell Tryd.underlying37 rfl (by kernel_rfl)
  exact bodyPost_ret (v := .tuple #[.agg ([.int .i64 1, .slice M.qv M.nv M.cv, .slice M.qu M.nu M.cu, .slice M.qt M.nt M.ct, .int .i64 0, .slice none 0 0, .int .i64 0, .int .i64 0, .int .i64 0, .int .i64 0, .int .i64 0, .int .i64 0, .int .i64 0, .int .i64 0, .int .i64 0, .int .i64 0, .int .i64 0, .int .i64 0, .int .i64 0, .int .i64 0, .int .i64 0, .int .i64 0, .int .i64 0, .int .i64 0]).toArray, .int .i64 z]) (res_two Tryd.results36 rfl hL rfl) rfl ⟨⟨M, rfl, MMz.out, DD.out⟩, hBz⟩
set_option maxHeartbeats 8000000 in
theorem decode_2 (F : Nat → Int) (q : Option Addr) (N c : Nat) (hF : ∀ j, j < N → inB (F j)) (hN : N ≤ 900) (w : World) (hq : Byt w q N F) :
    Calls Tryd.prog 36 #[.int .i64 2, .slice q N c] w fun e w' => (∃ M : Txr, e = .returned (.tuple #[(.agg #[.int .i64 2, .slice none 0 0, .slice none 0 0, .slice none 0 0, .int .i64 M.S, .slice M.q M.n M.c, .int .i64 0, .int .i64 0, .int .i64 0, .int .i64 0, .int .i64 0, .int .i64 0, .int .i64 0, .int .i64 0, .int .i64 0, .int .i64 0, .int .i64 0, .int .i64 0, .int .i64 0, .int .i64 0, .int .i64 0, .int .i64 0, .int .i64 0, .int .i64 0]), .int .i64 (tdecE F N)]) ∧ TxAt M w' ∧ DecO F N M) ∧ Below w.heap.size w w' := by
  have HQ := Lib.hid hq
  have CON := Lib.hid (tDecode_any q N c F hF (by omega))
  skip
  obtain ⟨z, ez⟩ : ∃ z, tdecE F N = z := ⟨_, rfl⟩
  rw [ez] at CON ⊢
  clear ez
  clear hF hN hq
  go_enter Tryd.func36, Tryd.ntmps36
  go_upto_region 1 with fail
  obtain ⟨W0, hW⟩ : ∃ W0, W0 = (w.alloc (.cells #[.int .i64 0, .slice none 0 0, .slice none 0 0, .slice none 0 0, .int .i64 0, .slice none 0 0, .int .i64 0, .int .i64 0, .int .i64 0, .int .i64 0, .int .i64 0, .int .i64 0, .int .i64 0, .int .i64 0, .int .i64 0, .int .i64 0, .int .i64 0, .int .i64 0, .int .i64 0, .int .i64 0, .int .i64 0, .int .i64 0, .int .i64 0, .int .i64 0] 37)) := ⟨_, rfl⟩
  have hB0 : Below w.heap.size w W0 := hW ▸ (Below.al (Below.refl _ _))
  have HP : Hid (Own w.heap.size ([.int .i64 0, .slice none 0 0, .slice none 0 0, .slice none 0 0, .int .i64 0, .slice none 0 0, .int .i64 0, .int .i64 0, .int .i64 0, .int .i64 0, .int .i64 0, .int .i64 0, .int .i64 0, .int .i64 0, .int .i64 0, .int .i64 0, .int .i64 0, .int .i64 0, .int .i64 0, .int .i64 0, .int .i64 0, .int .i64 0, .int .i64 0, .int .i64 0]) W0) := Lib.hid (hW ▸ (show Own w.heap.size ([.int .i64 0, .slice none 0 0, .slice none 0 0, .slice none 0 0, .int .i64 0, .slice none 0 0, .int .i64 0, .int .i64 0, .int .i64 0, .int .i64 0, .int .i64 0, .int .i64 0, .int .i64 0, .int .i64 0, .int .i64 0, .int .i64 0, .int .i64 0, .int .i64 0, .int .i64 0, .int .i64 0, .int .i64 0, .int .i64 0, .int .i64 0, .int .i64 0]) (w.alloc (.cells #[.int .i64 0, .slice none 0 0, .slice none 0 0, .slice none 0 0, .int .i64 0, .slice none 0 0, .int .i64 0, .int .i64 0, .int .i64 0, .int .i64 0, .int .i64 0, .int .i64 0, .int .i64 0, .int .i64 0, .int .i64 0, .int .i64 0, .int .i64 0, .int .i64 0, .int .i64 0, .int .i64 0, .int .i64 0, .int .i64 0, .int .i64 0, .int .i64 0] 37)) from Own.newAt (by simp)))
  rw [← hW]
  clear hW
  obtain ⟨P, eP⟩ : ∃ X, X = w.heap.size := ⟨_, rfl⟩
  rw [← eP] at HP ⊢
  have Pw : w.heap.size ≤ P := by omega
  clear eP
  have oP := HP.out
  have P0 := oP.at 0 _ rfl
  have Pf0 := oP.ok 0 (by simp)
  have Pl := oP.lt
  clear oP
  go_upto_region 2 with fail
  clear P0 Pf0 Pl
  rw [show (W0.setCell ⟨P, 0, none⟩ (.int .i64 2)) = W0.setCells P 0 [.int .i64 2] from rfl]
  have HP1 : Hid (Own P ([.int .i64 2, .slice none 0 0, .slice none 0 0, .slice none 0 0, .int .i64 0, .slice none 0 0, .int .i64 0, .int .i64 0, .int .i64 0, .int .i64 0, .int .i64 0, .int .i64 0, .int .i64 0, .int .i64 0, .int .i64 0, .int .i64 0, .int .i64 0, .int .i64 0, .int .i64 0, .int .i64 0, .int .i64 0, .int .i64 0, .int .i64 0, .int .i64 0]) (W0.setCells P 0 [.int .i64 2])) := Lib.hid (show Own P (over _ 0 [.int .i64 2]) _ from Own.part HP.out (by simp))
  have hB1 : Below w.heap.size w (W0.setCells P 0 [.int .i64 2]) := Below.setCells hB0 Pw _ _
  clear HP hB0
  generalize W0.setCells P 0 [.int .i64 2] = w1 at *
  go_wp2_with (fail)
  go_at_call 57
  refine (CON.out _ (HQ.out.later hB1)).mono ?_
  rintro e w2 ⟨M, rfl, ⟨hM, hD⟩, hb⟩
  have HP2 := Lib.hid (HP1.out.later hb); have hB2 := Below.go hB1 hb
  have MM := Lib.hid hM; have DD := Lib.hid hD
  clear hM hD hb HP1 hB1 HQ CON 
  have oP := HP2.out
  have P4 := oP.at 4 _ rfl
  have Pf4 := oP.ok 4 (by simp)
  have P5 := oP.at 5 _ rfl
  have Pf5 := oP.ok 5 (by simp)
  have Pl := oP.lt
  clear oP
  go_upto_region 12 with fail
  clear P4 Pf4 P5 Pf5 Pl
  rw [show ((w2.setCell ⟨P, 4, none⟩ (.int .i64 M.S)).setCell ⟨P, 5, none⟩ (.slice M.q M.n M.c)) = w2.setCells P 4 [.int .i64 M.S, .slice M.q M.n M.c] from rfl]
  have HP3 : Hid (Own P ([.int .i64 2, .slice none 0 0, .slice none 0 0, .slice none 0 0, .int .i64 M.S, .slice M.q M.n M.c, .int .i64 0, .int .i64 0, .int .i64 0, .int .i64 0, .int .i64 0, .int .i64 0, .int .i64 0, .int .i64 0, .int .i64 0, .int .i64 0, .int .i64 0, .int .i64 0, .int .i64 0, .int .i64 0, .int .i64 0, .int .i64 0, .int .i64 0, .int .i64 0]) (w2.setCells P 4 [.int .i64 M.S, .slice M.q M.n M.c])) := Lib.hid (show Own P (over _ 4 [.int .i64 M.S, .slice M.q M.n M.c]) _ from Own.part HP2.out (by simp))
  have hB3 : Below w.heap.size w (w2.setCells P 4 [.int .i64 M.S, .slice M.q M.n M.c]) := Below.setCells hB2 Pw _ _
  have MM3 := Lib.hid (TxAt.far3 MM.out HP2.out (vs := [.int .i64 M.S, .slice M.q M.n M.c]) rfl)
  clear HP2 hB2 MM
  generalize w2.setCells P 4 [.int .i64 M.S, .slice M.q M.n M.c] = w3 at *
  go_wp2_with (first | (refine wpList_load_mid rfl 37 _ rfl P 0 rfl ([.int .i64 2, .slice none 0 0, .slice none 0 0, .slice none 0 0, .int .i64 M.S, .slice M.q M.n M.c, .int .i64 0, .int .i64 0, .int .i64 0, .int .i64 0, .int .i64 0, .int .i64 0, .int .i64 0, .int .i64 0, .int .i64 0, .int .i64 0, .int .i64 0, .int .i64 0, .int .i64 0, .int .i64 0, .int .i64 0, .int .i64 0, .int .i64 0, .int .i64 0]) _ HP3.out.cell Tryd.underlying37 rfl (by kernel_rfl) ?_) | (refine wpList_store_mid rfl 37 _ _ rfl P 0 ([.int .i64 2, .slice none 0 0, .slice none 0 0, .slice none 0 0, .int .i64 M.S, .slice M.q M.n M.c, .int .i64 0, .int .i64 0, .int .i64 0, .int .i64 0, .int .i64 0, .int .i64 0, .int .i64 0, .int .i64 0, .int .i64 0, .int .i64 0, .int .i64 0, .int .i64 0, .int .i64 0, .int .i64 0, .int .i64 0, .int .i64 0, .int .i64 0, .int .i64 0]).toArray rfl rfl HP3.out.free (by kernel_rfl) (by simp [Value.oneCell']) ?_; change wpList _ _ _ _ _ (w3.setCells P 0 ([.int .i64 2, .slice none 0 0, .slice none 0 0, .slice none 0 0, .int .i64 M.S, .slice M.q M.n M.c, .int .i64 0, .int .i64 0, .int .i64 0, .int .i64 0, .int .i64 0, .int .i64 0, .int .i64 0, .int .i64 0, .int .i64 0, .int .i64 0, .int .i64 0, .int .i64 0, .int .i64 0, .int .i64 0, .int .i64 0, .int .i64 0, .int .i64 0, .int .i64 0])); have HPz : Hid (Own P ([.int .i64 2, .slice none 0 0, .slice none 0 0, .slice none 0 0, .int .i64 M.S, .slice M.q M.n M.c, .int .i64 0, .int .i64 0, .int .i64 0, .int .i64 0, .int .i64 0, .int .i64 0, .int .i64 0, .int .i64 0, .int .i64 0, .int .i64 0, .int .i64 0, .int .i64 0, .int .i64 0, .int .i64 0, .int .i64 0, .int .i64 0, .int .i64 0, .int .i64 0]) (w3.setCells P 0 ([.int .i64 2, .slice none 0 0, .slice none 0 0, .slice none 0 0, .int .i64 M.S, .slice M.q M.n M.c, .int .i64 0, .int .i64 0, .int .i64 0, .int .i64 0, .int .i64 0, .int .i64 0, .int .i64 0, .int .i64 0, .int .i64 0, .int .i64 0, .int .i64 0, .int .i64 0, .int .i64 0, .int .i64 0, .int .i64 0, .int .i64 0, .int .i64 0, .int .i64 0]))) := Lib.hid (Own.store HP3.out rfl); have MMz := Lib.hid (TxAt.self MM3.out HP3.out); have hBz : Below w.heap.size w (w3.setCells P 0 ([.int .i64 2, .slice none 0 0, .slice none 0 0, .slice none 0 0, .int .i64 M.S, .slice M.q M.n M.c, .int .i64 0, .int .i64 0, .int .i64 0, .int .i64 0, .int .i64 0, .int .i64 0, .int .i64 0, .int .i64 0, .int .i64 0, .int .i64 0, .int .i64 0, .int .i64 0, .int .i64 0, .int .i64 0, .int .i64 0, .int .i64 0, .int .i64 0, .int .i64 0])) := Below.setCells hB3 Pw _ _; generalize w3.setCells P 0 ([.int .i64 2, .slice none 0 0, .slice none 0 0, .slice none 0 0, .int .i64 M.S, .slice M.q M.n M.c, .int .i64 0, .int .i64 0, .int .i64 0, .int .i64 0, .int .i64 0, .int .i64 0, .int .i64 0, .int .i64 0, .int .i64 0, .int .i64 0, .int .i64 0, .int .i64 0, .int .i64 0, .int .i64 0, .int .i64 0, .int .i64 0, .int .i64 0, .int .i64 0]) = wz at *))
  have hL := run_loadVar_mid (P := Tryd.prog) _ P 0 37 ([.int .i64 2, .slice none 0 0, .slice none 0 0, .slice none 0 0, .int .i64 M.S, .slice M.q M.n M.c, .int .i64 0, .int .i64 0, .int .i64 0, .int .i64 0, .int .i64 0, .int .i64 0, .int .i64 0, .int .i64 0, .int .i64 0, .int .i64 0, .int .i64 0, .int .i64 0, .int .i64 0, .int .i64 0, .int .i64 0, .int .i64 0, .int .i64 0, .int .i64 0]) _ HPz.out.cell Tryd.underlying37 rfl (by kernel_rfl)
  exact bodyPost_ret (v := .tuple #[.agg ([.int .i64 2, .slice none 0 0, .slice none 0 0, .slice none 0 0, .int .i64 M.S, .slice M.q M.n M.c, .int .i64 0, .int .i64 0, .int .i64 0, .int .i64 0, .int .i64 0, .int .i64 0, .int .i64 0, .int .i64 0, .int .i64 0, .int .i64 0, .int .i64 0, .int .i64 0, .int .i64 0, .int .i64 0, .int .i64 0, .int .i64 0, .int .i64 0, .int .i64 0]).toArray, .int .i64 z]) (res_two Tryd.results36 rfl hL rfl) rfl ⟨⟨M, rfl, MMz.out, DD.out⟩, hBz⟩
set_option maxHeartbeats 8000000 in
theorem decode_3 (F : Nat → Int) (q : Option Addr) (N c : Nat) (hF : ∀ j, j < N → inB (F j)) (hN : N ≤ 900) (w : World) (hq : Byt w q N F) :
    Calls Tryd.prog 36 #[.int .i64 3, .slice q N c] w fun e w' => e = .returned (.tuple #[(.agg #[.int .i64 3, .slice none 0 0, .slice none 0 0, .slice none 0 0, .int .i64 0, .slice none 0 0, .int .i64 (decG F N 0), .int .i64 (decG F N 1), .int .i64 (decG F N 2), .int .i64 (decG F N 3), .int .i64 (decG F N 4), .int .i64 0, .int .i64 0, .int .i64 0, .int .i64 0, .int .i64 0, .int .i64 0, .int .i64 0, .int .i64 0, .int .i64 0, .int .i64 0, .int .i64 0, .int .i64 0, .int .i64 0]), .int .i64 (endE N 9 (erN N 9))]) ∧ Below w.heap.size w w' := by
  have HQ := Lib.hid hq
  have CON := Lib.hid (decMat_any F q N c hF (by omega))
  skip
  generalize decG F N 0 = x0 at *
  generalize decG F N 1 = x1 at *
  generalize decG F N 2 = x2 at *
  generalize decG F N 3 = x3 at *
  generalize decG F N 4 = x4 at *
  generalize endE N 9 (erN N 9) = z at *
  clear hF hN hq
  go_enter Tryd.func36, Tryd.ntmps36
  go_upto_region 1 with fail
  obtain ⟨W0, hW⟩ : ∃ W0, W0 = (w.alloc (.cells #[.int .i64 0, .slice none 0 0, .slice none 0 0, .slice none 0 0, .int .i64 0, .slice none 0 0, .int .i64 0, .int .i64 0, .int .i64 0, .int .i64 0, .int .i64 0, .int .i64 0, .int .i64 0, .int .i64 0, .int .i64 0, .int .i64 0, .int .i64 0, .int .i64 0, .int .i64 0, .int .i64 0, .int .i64 0, .int .i64 0, .int .i64 0, .int .i64 0] 37)) := ⟨_, rfl⟩
  have hB0 : Below w.heap.size w W0 := hW ▸ (Below.al (Below.refl _ _))
  have HP : Hid (Own w.heap.size ([.int .i64 0, .slice none 0 0, .slice none 0 0, .slice none 0 0, .int .i64 0, .slice none 0 0, .int .i64 0, .int .i64 0, .int .i64 0, .int .i64 0, .int .i64 0, .int .i64 0, .int .i64 0, .int .i64 0, .int .i64 0, .int .i64 0, .int .i64 0, .int .i64 0, .int .i64 0, .int .i64 0, .int .i64 0, .int .i64 0, .int .i64 0, .int .i64 0]) W0) := Lib.hid (hW ▸ (show Own w.heap.size ([.int .i64 0, .slice none 0 0, .slice none 0 0, .slice none 0 0, .int .i64 0, .slice none 0 0, .int .i64 0, .int .i64 0, .int .i64 0, .int .i64 0, .int .i64 0, .int .i64 0, .int .i64 0, .int .i64 0, .int .i64 0, .int .i64 0, .int .i64 0, .int .i64 0, .int .i64 0, .int .i64 0, .int .i64 0, .int .i64 0, .int .i64 0, .int .i64 0]) (w.alloc (.cells #[.int .i64 0, .slice none 0 0, .slice none 0 0, .slice none 0 0, .int .i64 0, .slice none 0 0, .int .i64 0, .int .i64 0, .int .i64 0, .int .i64 0, .int .i64 0, .int .i64 0, .int .i64 0, .int .i64 0, .int .i64 0, .int .i64 0, .int .i64 0, .int .i64 0, .int .i64 0, .int .i64 0, .int .i64 0, .int .i64 0, .int .i64 0, .int .i64 0] 37)) from Own.newAt (by simp)))
  rw [← hW]
  clear hW
  obtain ⟨P, eP⟩ : ∃ X, X = w.heap.size := ⟨_, rfl⟩
  rw [← eP] at HP ⊢
  have Pw : w.heap.size ≤ P := by omega
  clear eP
  have oP := HP.out
  have P0 := oP.at 0 _ rfl
  have Pf0 := oP.ok 0 (by simp)
  have Pl := oP.lt
  clear oP
  go_upto_region 2 with fail
  clear P0 Pf0 Pl
  rw [show (W0.setCell ⟨P, 0, none⟩ (.int .i64 3)) = W0.setCells P 0 [.int .i64 3] from rfl]
  have HP1 : Hid (Own P ([.int .i64 3, .slice none 0 0, .slice none 0 0, .slice none 0 0, .int .i64 0, .slice none 0 0, .int .i64 0, .int .i64 0, .int .i64 0, .int .i64 0, .int .i64 0, .int .i64 0, .int .i64 0, .int .i64 0, .int .i64 0, .int .i64 0, .int .i64 0, .int .i64 0, .int .i64 0, .int .i64 0, .int .i64 0, .int .i64 0, .int .i64 0, .int .i64 0]) (W0.setCells P 0 [.int .i64 3])) := Lib.hid (show Own P (over _ 0 [.int .i64 3]) _ from Own.part HP.out (by simp))
  have hB1 : Below w.heap.size w (W0.setCells P 0 [.int .i64 3]) := Below.setCells hB0 Pw _ _
  clear HP hB0
  generalize W0.setCells P 0 [.int .i64 3] = w1 at *
  go_wp2_with (fail)
  go_at_call 58
  refine (CON.out _ (HQ.out.later hB1)).mono ?_
  rintro e w2 ⟨rfl, hb⟩
  have HP2 := Lib.hid (HP1.out.later hb); have hB2 := Below.go hB1 hb
  skip
  clear  hb HP1 hB1 HQ CON 
  have oP := HP2.out
  have P6 := oP.at 6 _ rfl
  have Pf6 := oP.ok 6 (by simp)
  have P7 := oP.at 7 _ rfl
  have Pf7 := oP.ok 7 (by simp)
  have P8 := oP.at 8 _ rfl
  have Pf8 := oP.ok 8 (by simp)
  have P9 := oP.at 9 _ rfl
  have Pf9 := oP.ok 9 (by simp)
  have P10 := oP.at 10 _ rfl
  have Pf10 := oP.ok 10 (by simp)
  have Pl := oP.lt
  clear oP
  go_upto_region 12 with fail
  clear P6 Pf6 P7 Pf7 P8 Pf8 P9 Pf9 P10 Pf10 Pl
  rw [show (((((w2.setCell ⟨P, 6, none⟩ (.int .i64 x0)).setCell ⟨P, 7, none⟩ (.int .i64 x1)).setCell ⟨P, 8, none⟩ (.int .i64 x2)).setCell ⟨P, 9, none⟩ (.int .i64 x3)).setCell ⟨P, 10, none⟩ (.int .i64 x4)) = w2.setCells P 6 [.int .i64 x0, .int .i64 x1, .int .i64 x2, .int .i64 x3, .int .i64 x4] from rfl]
  have HP3 : Hid (Own P ([.int .i64 3, .slice none 0 0, .slice none 0 0, .slice none 0 0, .int .i64 0, .slice none 0 0, .int .i64 x0, .int .i64 x1, .int .i64 x2, .int .i64 x3, .int .i64 x4, .int .i64 0, .int .i64 0, .int .i64 0, .int .i64 0, .int .i64 0, .int .i64 0, .int .i64 0, .int .i64 0, .int .i64 0, .int .i64 0, .int .i64 0, .int .i64 0, .int .i64 0]) (w2.setCells P 6 [.int .i64 x0, .int .i64 x1, .int .i64 x2, .int .i64 x3, .int .i64 x4])) := Lib.hid (show Own P (over _ 6 [.int .i64 x0, .int .i64 x1, .int .i64 x2, .int .i64 x3, .int .i64 x4]) _ from Own.part HP2.out (by simp))
  have hB3 : Below w.heap.size w (w2.setCells P 6 [.int .i64 x0, .int .i64 x1, .int .i64 x2, .int .i64 x3, .int .i64 x4]) := Below.setCells hB2 Pw _ _
  clear HP2 hB2 
  generalize w2.setCells P 6 [.int .i64 x0, .int .i64 x1, .int .i64 x2, .int .i64 x3, .int .i64 x4] = w3 at *
  go_wp2_with (first | (refine wpList_load_mid rfl 37 _ rfl P 0 rfl ([.int .i64 3, .slice none 0 0, .slice none 0 0, .slice none 0 0, .int .i64 0, .slice none 0 0, .int .i64 x0, .int .i64 x1, .int .i64 x2, .int .i64 x3, .int .i64 x4, .int .i64 0, .int .i64 0, .int .i64 0, .int .i64 0, .int .i64 0, .int .i64 0, .int .i64 0, .int .i64 0, .int .i64 0, .int .i64 0, .int .i64 0, .int .i64 0, .int .i64 0]) _ HP3.out.cell Tryd.underlying37 rfl (by kernel_rfl) ?_) | (refine wpList_store_mid rfl 37 _ _ rfl P 0 ([.int .i64 3, .slice none 0 0, .slice none 0 0, .slice none 0 0, .int .i64 0, .slice none 0 0, .int .i64 x0, .int .i64 x1, .int .i64 x2, .int .i64 x3, .int .i64 x4, .int .i64 0, .int .i64 0, .int .i64 0, .int .i64 0, .int .i64 0, .int .i64 0, .int .i64 0, .int .i64 0, .int .i64 0, .int .i64 0, .int .i64 0, .int .i64 0, .int .i64 0]).toArray rfl rfl HP3.out.free (by kernel_rfl) (by simp [Value.oneCell']) ?_; change wpList _ _ _ _ _ (w3.setCells P 0 ([.int .i64 3, .slice none 0 0, .slice none 0 0, .slice none 0 0, .int .i64 0, .slice none 0 0, .int .i64 x0, .int .i64 x1, .int .i64 x2, .int .i64 x3, .int .i64 x4, .int .i64 0, .int .i64 0, .int .i64 0, .int .i64 0, .int .i64 0, .int .i64 0, .int .i64 0, .int .i64 0, .int .i64 0, .int .i64 0, .int .i64 0, .int .i64 0, .int .i64 0])); have HPz : Hid (Own P ([.int .i64 3, .slice none 0 0, .slice none 0 0, .slice none 0 0, .int .i64 0, .slice none 0 0, .int .i64 x0, .int .i64 x1, .int .i64 x2, .int .i64 x3, .int .i64 x4, .int .i64 0, .int .i64 0, .int .i64 0, .int .i64 0, .int .i64 0, .int .i64 0, .int .i64 0, .int .i64 0, .int .i64 0, .int .i64 0, .int .i64 0, .int .i64 0, .int .i64 0]) (w3.setCells P 0 ([.int .i64 3, .slice none 0 0, .slice none 0 0, .slice none 0 0, .int .i64 0, .slice none 0 0, .int .i64 x0, .int .i64 x1, .int .i64 x2, .int .i64 x3, .int .i64 x4, .int .i64 0, .int .i64 0, .int .i64 0, .int .i64 0, .int .i64 0, .int .i64 0, .int .i64 0, .int .i64 0, .int .i64 0, .int .i64 0, .int .i64 0, .int .i64 0, .int .i64 0]))) := Lib.hid (Own.store HP3.out rfl); have hBz : Below w.heap.size w (w3.setCells P 0 ([.int .i64 3, .slice none 0 0, .slice none 0 0, .slice none 0 0, .int .i64 0, .slice none 0 0, .int .i64 x0, .int .i64 x1, .int .i64 x2, .int .i64 x3, .int .i64 x4, .int .i64 0, .int .i64 0, .int .i64 0, .int .i64 0, .int .i64 0, .int .i64 0, .int .i64 0, .int .i64 0, .int .i64 0, .int .i64 0, .int .i64 0, .int .i64 0, .int .i64 0])) := Below.setCells hB3 Pw _ _; generalize w3.setCells P 0 ([.int .i64 3, .slice none 0 0, .slice none 0 0, .slice none 0 0, .int .i64 0, .slice none 0 0, .int .i64 x0, .int .i64 x1, .int .i64 x2, .int .i64 x3, .int .i64 x4, .int .i64 0, .int .i64 0, .int .i64 0, .int .i64 0, .int .i64 0, .int .i64 0, .int .i64 0, .int .i64 0, .int .i64 0, .int .i64 0, .int .i64 0, .int .i64 0, .int .i64 0]) = wz at *))
  have hL := run_loadVar_mid (P := Tryd.prog) _ P 0 37 ([.int .i64 3, .slice none 0 0, .slice none 0 0, .slice none 0 0, .int .i64 0, .slice none 0 0, .int .i64 x0, .int .i64 x1, .int .i64 x2, .int .i64 x3, .int .i64 x4, .int .i64 0, .int .i64 0, .int .i64 0, .int .i64 0, .int .i64 0, .int .i64 0, .int .i64 0, .int .i64 0, .int .i64 0, .int .i64 0, .int .i64 0, .int .i64 0, .int .i64 0]) _ HPz.out.cell Tryd.underlying37 rfl (by kernel_rfl)
  exact bodyPost_ret (v := .tuple #[.agg ([.int .i64 3, .slice none 0 0, .slice none 0 0, .slice none 0 0, .int .i64 0, .slice none 0 0, .int .i64 x0, .int .i64 x1, .int .i64 x2, .int .i64 x3, .int .i64 x4, .int .i64 0, .int .i64 0, .int .i64 0, .int .i64 0, .int .i64 0, .int .i64 0, .int .i64 0, .int .i64 0, .int .i64 0, .int .i64 0, .int .i64 0, .int .i64 0, .int .i64 0]).toArray, .int .i64 z]) (res_two Tryd.results36 rfl hL rfl) rfl ⟨rfl, hBz⟩
set_option maxHeartbeats 8000000 in
theorem decode_4 (F : Nat → Int) (q : Option Addr) (N c : Nat) (hF : ∀ j, j < N → inB (F j)) (hN : N ≤ 900) (w : World) (hq : Byt w q N F) :
    Calls Tryd.prog 36 #[.int .i64 4, .slice q N c] w fun e w' => e = .returned (.tuple #[(.agg #[.int .i64 4, .slice none 0 0, .slice none 0 0, .slice none 0 0, .int .i64 0, .slice none 0 0, .int .i64 0, .int .i64 0, .int .i64 0, .int .i64 0, .int .i64 0, .int .i64 (decLt F N 0), .int .i64 (decLt F N 1), .int .i64 (decLt F N 2), .int .i64 (decLt F N 3), .int .i64 (decLt F N 4), .int .i64 (decLt F N 5), .int .i64 (decLt F N 6), .int .i64 (decLt F N 7), .int .i64 (decLt F N 8), .int .i64 (decLt F N 9), .int .i64 (decLt F N 10), .int .i64 (decLt F N 11), .int .i64 (decLt F N 12)]), .int .i64 (endE N 31 (erN N 31))]) ∧ Below w.heap.size w w' := by
  have HQ := Lib.hid hq
  have CON := Lib.hid (decLgt_any F q N c hF (by omega))
  skip
  generalize decLt F N 0 = x0 at *
  generalize decLt F N 1 = x1 at *
  generalize decLt F N 2 = x2 at *
  generalize decLt F N 3 = x3 at *
  generalize decLt F N 4 = x4 at *
  generalize decLt F N 5 = x5 at *
  generalize decLt F N 6 = x6 at *
  generalize decLt F N 7 = x7 at *
  generalize decLt F N 8 = x8 at *
  generalize decLt F N 9 = x9 at *
  generalize decLt F N 10 = x10 at *
  generalize decLt F N 11 = x11 at *
  generalize decLt F N 12 = x12 at *
  generalize endE N 31 (erN N 31) = z at *
  clear hF hN hq
  go_enter Tryd.func36, Tryd.ntmps36
  go_upto_region 1 with fail
  obtain ⟨W0, hW⟩ : ∃ W0, W0 = (w.alloc (.cells #[.int .i64 0, .slice none 0 0, .slice none 0 0, .slice none 0 0, .int .i64 0, .slice none 0 0, .int .i64 0, .int .i64 0, .int .i64 0, .int .i64 0, .int .i64 0, .int .i64 0, .int .i64 0, .int .i64 0, .int .i64 0, .int .i64 0, .int .i64 0, .int .i64 0, .int .i64 0, .int .i64 0, .int .i64 0, .int .i64 0, .int .i64 0, .int .i64 0] 37)) := ⟨_, rfl⟩
  have hB0 : Below w.heap.size w W0 := hW ▸ (Below.al (Below.refl _ _))
  have HP : Hid (Own w.heap.size ([.int .i64 0, .slice none 0 0, .slice none 0 0, .slice none 0 0, .int .i64 0, .slice none 0 0, .int .i64 0, .int .i64 0, .int .i64 0, .int .i64 0, .int .i64 0, .int .i64 0, .int .i64 0, .int .i64 0, .int .i64 0, .int .i64 0, .int .i64 0, .int .i64 0, .int .i64 0, .int .i64 0, .int .i64 0, .int .i64 0, .int .i64 0, .int .i64 0]) W0) := Lib.hid (hW ▸ (show Own w.heap.size ([.int .i64 0, .slice none 0 0, .slice none 0 0, .slice none 0 0, .int .i64 0, .slice none 0 0, .int .i64 0, .int .i64 0, .int .i64 0, .int .i64 0, .int .i64 0, .int .i64 0, .int .i64 0, .int .i64 0, .int .i64 0, .int .i64 0, .int .i64 0, .int .i64 0, .int .i64 0, .int .i64 0, .int .i64 0, .int .i64 0, .int .i64 0, .int .i64 0]) (w.alloc (.cells #[.int .i64 0, .slice none 0 0, .slice none 0 0, .slice none 0 0, .int .i64 0, .slice none 0 0, .int .i64 0, .int .i64 0, .int .i64 0, .int .i64 0, .int .i64 0, .int .i64 0, .int .i64 0, .int .i64 0, .int .i64 0, .int .i64 0, .int .i64 0, .int .i64 0, .int .i64 0, .int .i64 0, .int .i64 0, .int .i64 0, .int .i64 0, .int .i64 0] 37)) from Own.newAt (by simp)))
  rw [← hW]
  clear hW
  obtain ⟨P, eP⟩ : ∃ X, X = w.heap.size := ⟨_, rfl⟩
  rw [← eP] at HP ⊢
  have Pw : w.heap.size ≤ P := by omega
  clear eP
  have oP := HP.out
  have P0 := oP.at 0 _ rfl
  have Pf0 := oP.ok 0 (by simp)
  have Pl := oP.lt
  clear oP
  go_upto_region 2 with fail
  clear P0 Pf0 Pl
  rw [show (W0.setCell ⟨P, 0, none⟩ (.int .i64 4)) = W0.setCells P 0 [.int .i64 4] from rfl]
  have HP1 : Hid (Own P ([.int .i64 4, .slice none 0 0, .slice none 0 0, .slice none 0 0, .int .i64 0, .slice none 0 0, .int .i64 0, .int .i64 0, .int .i64 0, .int .i64 0, .int .i64 0, .int .i64 0, .int .i64 0, .int .i64 0, .int .i64 0, .int .i64 0, .int .i64 0, .int .i64 0, .int .i64 0, .int .i64 0, .int .i64 0, .int .i64 0, .int .i64 0, .int .i64 0]) (W0.setCells P 0 [.int .i64 4])) := Lib.hid (show Own P (over _ 0 [.int .i64 4]) _ from Own.part HP.out (by simp))
  have hB1 : Below w.heap.size w (W0.setCells P 0 [.int .i64 4]) := Below.setCells hB0 Pw _ _
  clear HP hB0
  generalize W0.setCells P 0 [.int .i64 4] = w1 at *
  go_wp2_with (fail)
  go_at_call 59
  refine (CON.out _ (HQ.out.later hB1)).mono ?_
  rintro e w2 ⟨rfl, hb⟩
  have HP2 := Lib.hid (HP1.out.later hb); have hB2 := Below.go hB1 hb
  skip
  clear  hb HP1 hB1 HQ CON 
  have oP := HP2.out
  have P11 := oP.at 11 _ rfl
  have Pf11 := oP.ok 11 (by simp)
  have P12 := oP.at 12 _ rfl
  have Pf12 := oP.ok 12 (by simp)
  have P13 := oP.at 13 _ rfl
  have Pf13 := oP.ok 13 (by simp)
  have P14 := oP.at 14 _ rfl
  have Pf14 := oP.ok 14 (by simp)
  have P15 := oP.at 15 _ rfl
  have Pf15 := oP.ok 15 (by simp)
  have P16 := oP.at 16 _ rfl
  have Pf16 := oP.ok 16 (by simp)
  have P17 := oP.at 17 _ rfl
  have Pf17 := oP.ok 17 (by simp)
  have P18 := oP.at 18 _ rfl
  have Pf18 := oP.ok 18 (by simp)
  have P19 := oP.at 19 _ rfl
  have Pf19 := oP.ok 19 (by simp)
  have P20 := oP.at 20 _ rfl
  have Pf20 := oP.ok 20 (by simp)
  have P21 := oP.at 21 _ rfl
  have Pf21 := oP.ok 21 (by simp)
  have P22 := oP.at 22 _ rfl
  have Pf22 := oP.ok 22 (by simp)
  have P23 := oP.at 23 _ rfl
  have Pf23 := oP.ok 23 (by simp)
  have Pl := oP.lt
  clear oP
  go_upto_region 12 with fail
  clear P11 Pf11 P12 Pf12 P13 Pf13 P14 Pf14 P15 Pf15 P16 Pf16 P17 Pf17 P18 Pf18 P19 Pf19 P20 Pf20 P21 Pf21 P22 Pf22 P23 Pf23 Pl
  rw [show (((((((((((((w2.setCell ⟨P, 11, none⟩ (.int .i64 x0)).setCell ⟨P, 12, none⟩ (.int .i64 x1)).setCell ⟨P, 13, none⟩ (.int .i64 x2)).setCell ⟨P, 14, none⟩ (.int .i64 x3)).setCell ⟨P, 15, none⟩ (.int .i64 x4)).setCell ⟨P, 16, none⟩ (.int .i64 x5)).setCell ⟨P, 17, none⟩ (.int .i64 x6)).setCell ⟨P, 18, none⟩ (.int .i64 x7)).setCell ⟨P, 19, none⟩ (.int .i64 x8)).setCell ⟨P, 20, none⟩ (.int .i64 x9)).setCell ⟨P, 21, none⟩ (.int .i64 x10)).setCell ⟨P, 22, none⟩ (.int .i64 x11)).setCell ⟨P, 23, none⟩ (.int .i64 x12)) = w2.setCells P 11 [.int .i64 x0, .int .i64 x1, .int .i64 x2, .int .i64 x3, .int .i64 x4, .int .i64 x5, .int .i64 x6, .int .i64 x7, .int .i64 x8, .int .i64 x9, .int .i64 x10, .int .i64 x11, .int .i64 x12] from rfl]
  have HP3 : Hid (Own P ([.int .i64 4, .slice none 0 0, .slice none 0 0, .slice none 0 0, .int .i64 0, .slice none 0 0, .int .i64 0, .int .i64 0, .int .i64 0, .int .i64 0, .int .i64 0, .int .i64 x0, .int .i64 x1, .int .i64 x2, .int .i64 x3, .int .i64 x4, .int .i64 x5, .int .i64 x6, .int .i64 x7, .int .i64 x8, .int .i64 x9, .int .i64 x10, .int .i64 x11, .int .i64 x12]) (w2.setCells P 11 [.int .i64 x0, .int .i64 x1, .int .i64 x2, .int .i64 x3, .int .i64 x4, .int .i64 x5, .int .i64 x6, .int .i64 x7, .int .i64 x8, .int .i64 x9, .int .i64 x10, .int .i64 x11, .int .i64 x12])) := Lib.hid (show Own P (over _ 11 [.int .i64 x0, .int .i64 x1, .int .i64 x2, .int .i64 x3, .int .i64 x4, .int .i64 x5, .int .i64 x6, .int .i64 x7, .int .i64 x8, .int .i64 x9, .int .i64 x10, .int .i64 x11, .int .i64 x12]) _ from Own.part HP2.out (by simp))
  have hB3 : Below w.heap.size w (w2.setCells P 11 [.int .i64 x0, .int .i64 x1, .int .i64 x2, .int .i64 x3, .int .i64 x4, .int .i64 x5, .int .i64 x6, .int .i64 x7, .int .i64 x8, .int .i64 x9, .int .i64 x10, .int .i64 x11, .int .i64 x12]) := Below.setCells hB2 Pw _ _
  clear HP2 hB2 
  generalize w2.setCells P 11 [.int .i64 x0, .int .i64 x1, .int .i64 x2, .int .i64 x3, .int .i64 x4, .int .i64 x5, .int .i64 x6, .int .i64 x7, .int .i64 x8, .int .i64 x9, .int .i64 x10, .int .i64 x11, .int .i64 x12] = w3 at *
  go_wp2_with (first | (refine wpList_load_mid rfl 37 _ rfl P 0 rfl ([.int .i64 4, .slice none 0 0, .slice none 0 0, .slice none 0 0, .int .i64 0, .slice none 0 0, .int .i64 0, .int .i64 0, .int .i64 0, .int .i64 0, .int .i64 0, .int .i64 x0, .int .i64 x1, .int .i64 x2, .int .i64 x3, .int .i64 x4, .int .i64 x5, .int .i64 x6, .int .i64 x7, .int .i64 x8, .int .i64 x9, .int .i64 x10, .int .i64 x11, .int .i64 x12]) _ HP3.out.cell Tryd.underlying37 rfl (by kernel_rfl) ?_) | (refine wpList_store_mid rfl 37 _ _ rfl P 0 ([.int .i64 4, .slice none 0 0, .slice none 0 0, .slice none 0 0, .int .i64 0, .slice none 0 0, .int .i64 0, .int .i64 0, .int .i64 0, .int .i64 0, .int .i64 0, .int .i64 x0, .int .i64 x1, .int .i64 x2, .int .i64 x3, .int .i64 x4, .int .i64 x5, .int .i64 x6, .int .i64 x7, .int .i64 x8, .int .i64 x9, .int .i64 x10, .int .i64 x11, .int .i64 x12]).toArray rfl rfl HP3.out.free (by kernel_rfl) (by simp [Value.oneCell']) ?_; change wpList _ _ _ _ _ (w3.setCells P 0 ([.int .i64 4, .slice none 0 0, .slice none 0 0, .slice none 0 0, .int .i64 0, .slice none 0 0, .int .i64 0, .int .i64 0, .int .i64 0, .int .i64 0, .int .i64 0, .int .i64 x0, .int .i64 x1, .int .i64 x2, .int .i64 x3, .int .i64 x4, .int .i64 x5, .int .i64 x6, .int .i64 x7, .int .i64 x8, .int .i64 x9, .int .i64 x10, .int .i64 x11, .int .i64 x12])); have HPz : Hid (Own P ([.int .i64 4, .slice none 0 0, .slice none 0 0, .slice none 0 0, .int .i64 0, .slice none 0 0, .int .i64 0, .int .i64 0, .int .i64 0, .int .i64 0, .int .i64 0, .int .i64 x0, .int .i64 x1, .int .i64 x2, .int .i64 x3, .int .i64 x4, .int .i64 x5, .int .i64 x6, .int .i64 x7, .int .i64 x8, .int .i64 x9, .int .i64 x10, .int .i64 x11, .int .i64 x12]) (w3.setCells P 0 ([.int .i64 4, .slice none 0 0, .slice none 0 0, .slice none 0 0, .int .i64 0, .slice none 0 0, .int .i64 0, .int .i64 0, .int .i64 0, .int .i64 0, .int .i64 0, .int .i64 x0, .int .i64 x1, .int .i64 x2, .int .i64 x3, .int .i64 x4, .int .i64 x5, .int .i64 x6, .int .i64 x7, .int .i64 x8, .int .i64 x9, .int .i64 x10, .int .i64 x11, .int .i64 x12]))) := Lib.hid (Own.store HP3.out rfl); have hBz : Below w.heap.size w (w3.setCells P 0 ([.int .i64 4, .slice none 0 0, .slice none 0 0, .slice none 0 0, .int .i64 0, .slice none 0 0, .int .i64 0, .int .i64 0, .int .i64 0, .int .i64 0, .int .i64 0, .int .i64 x0, .int .i64 x1, .int .i64 x2, .int .i64 x3, .int .i64 x4, .int .i64 x5, .int .i64 x6, .int .i64 x7, .int .i64 x8, .int .i64 x9, .int .i64 x10, .int .i64 x11, .int .i64 x12])) := Below.setCells hB3 Pw _ _; generalize w3.setCells P 0 ([.int .i64 4, .slice none 0 0, .slice none 0 0, .slice none 0 0, .int .i64 0, .slice none 0 0, .int .i64 0, .int .i64 0, .int .i64 0, .int .i64 0, .int .i64 0, .int .i64 x0, .int .i64 x1, .int .i64 x2, .int .i64 x3, .int .i64 x4, .int .i64 x5, .int .i64 x6, .int .i64 x7, .int .i64 x8, .int .i64 x9, .int .i64 x10, .int .i64 x11, .int .i64 x12]) = wz at *))
  have hL := run_loadVar_mid (P := Tryd.prog) _ P 0 37 ([.int .i64 4, .slice none 0 0, .slice none 0 0, .slice none 0 0, .int .i64 0, .slice none 0 0, .int .i64 0, .int .i64 0, .int .i64 0, .int .i64 0, .int .i64 0, .int .i64 x0, .int .i64 x1, .int .i64 x2, .int .i64 x3, .int .i64 x4, .int .i64 x5, .int .i64 x6, .int .i64 x7, .int .i64 x8, .int .i64 x9, .int .i64 x10, .int .i64 x11, .int .i64 x12]) _ HPz.out.cell Tryd.underlying37 rfl (by kernel_rfl)
  exact bodyPost_ret (v := .tuple #[.agg ([.int .i64 4, .slice none 0 0, .slice none 0 0, .slice none 0 0, .int .i64 0, .slice none 0 0, .int .i64 0, .int .i64 0, .int .i64 0, .int .i64 0, .int .i64 0, .int .i64 x0, .int .i64 x1, .int .i64 x2, .int .i64 x3, .int .i64 x4, .int .i64 x5, .int .i64 x6, .int .i64 x7, .int .i64 x8, .int .i64 x9, .int .i64 x10, .int .i64 x11, .int .i64 x12]).toArray, .int .i64 z]) (res_two Tryd.results36 rfl hL rfl) rfl ⟨rfl, hBz⟩
end Go.Proofs.YtokfhhngnpbdkaaDoor
