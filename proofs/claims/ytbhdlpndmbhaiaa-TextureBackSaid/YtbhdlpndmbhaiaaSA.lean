/- mesh: what a mesh is in memory, and what is asked of it: numbers. -/
import Derived.Test.YtbhdlpndmbhaiaaDP
namespace Go.Proofs.Ytbhdlpndmbhaiaa
set_option linter.unusedVariables false
set_option maxRecDepth 2000
set_option linter.unusedSimpArgs false
open Go.RowKit
/-- a slice of n elements of s whole numbers each -/
def NmS (w : World) (s : Nat) (q : Option Addr) (n : Nat) (f : Nat → Int) : Prop := n = 0 ∨ ∃ b off, q = some ⟨b, off, none⟩ ∧ Has b off (nums .i64 f (n * s)) w
theorem NmS.later {w w' : World} {s : Nat} {q : Option Addr} {n : Nat} {f : Nat → Int} (h : NmS w s q n f) (hb : Below w.heap.size w w') : NmS w' s q n f := by
  rcases h with h | ⟨b, off, h1, h2⟩
  · exact .inl h
  · exact .inr ⟨b, off, h1, h2.later hb⟩
theorem NmS.at {w : World} {s : Nat} {q : Option Addr} {n i : Nat} {f : Nat → Int} (h : NmS w s q n f) (hi : i < n) : ∃ D o, q = some ⟨D, o, none⟩ ∧ D < w.heap.size ∧ Has D (o + i * s) (nums .i64 (fun j => f (i * s + j)) s) w := by
  obtain ⟨D, o, h1, h2⟩ := h.resolve_left (by omega)
  refine ⟨D, o, h1, h2.lt, has_drop h2 ?_⟩
  have : (i + 1) * s ≤ n * s := Nat.mul_le_mul_right _ hi
  rw [Nat.succ_mul] at this
  exact this
theorem NmS.at3 {w : World} {q : Option Addr} {n i : Nat} {f : Nat → Int} (h : NmS w 3 q n f) (hi : i < n) : ∃ D o, q = some ⟨D, o, none⟩ ∧ D < w.heap.size ∧ w.cell? ⟨D, o + i * 3, none⟩ = some (.int .i64 (f (i * 3))) ∧ w.cell? ⟨D, o + i * 3 + 1, none⟩ = some (.int .i64 (f (i * 3 + 1))) ∧ w.cell? ⟨D, o + i * 3 + 2, none⟩ = some (.int .i64 (f (i * 3 + 2))) := by
  obtain ⟨D, o, h1, h2, h3⟩ := h.at hi
  exact ⟨D, o, h1, h2, h3.at 0 _ rfl, h3.at 1 _ rfl, h3.at 2 _ rfl⟩
theorem NmS.at2 {w : World} {q : Option Addr} {n i : Nat} {f : Nat → Int} (h : NmS w 2 q n f) (hi : i < n) : ∃ D o, q = some ⟨D, o, none⟩ ∧ D < w.heap.size ∧ w.cell? ⟨D, o + i * 2, none⟩ = some (.int .i64 (f (i * 2))) ∧ w.cell? ⟨D, o + i * 2 + 1, none⟩ = some (.int .i64 (f (i * 2 + 1))) := by
  obtain ⟨D, o, h1, h2, h3⟩ := h.at hi
  exact ⟨D, o, h1, h2, h3.at 0 _ rfl, h3.at 1 _ rfl⟩
theorem NmS.take {w : World} {s : Nat} {q : Option Addr} {n m : Nat} {f : Nat → Int} (h : NmS w s q n f) (hm : m ≤ n) : NmS w s q m f := by
  by_cases h0 : m = 0
  · exact .inl h0
  · obtain ⟨b, off, h1, h2⟩ := h.resolve_left (by omega)
    exact .inr ⟨b, off, h1, has_take h2 (Nat.mul_le_mul_right _ hm)⟩
/-- a mesh -/
structure Msh where
  qv : Option Addr
  nv : Nat
  cv : Nat
  V : Nat → Int
  qu : Option Addr
  nu : Nat
  cu : Nat
  U : Nat → Int
  qt : Option Addr
  nt : Nat
  ct : Nat
  R : Nat → Int
structure MeshAt (M : Msh) (w : World) : Prop where
  v : NmS w 3 M.qv M.nv M.V
  u : NmS w 2 M.qu M.nu M.U
  t : NmS w 3 M.qt M.nt M.R
  lv : M.nv ≤ M.cv
  lu : M.nu ≤ M.cu
  lt : M.nt ≤ M.ct
  mv : M.cv ≤ 9223372036854775807
  mu : M.cu ≤ 9223372036854775807
  mt : M.ct ≤ 9223372036854775807
theorem MeshAt.later {M : Msh} {w w' : World} (h : MeshAt M w) (hb : Below w.heap.size w w') : MeshAt M w' := ⟨h.v.later hb, h.u.later hb, h.t.later hb, h.lv, h.lu, h.lt, h.mv, h.mu, h.mt⟩
/-- its numbers are ints -/
structure InMesh (M : Msh) : Prop where
  v : ∀ j, j < M.nv * 3 → -9223372036854775808 ≤ M.V j ∧ M.V j ≤ 9223372036854775807
  u : ∀ j, j < M.nu * 2 → -9223372036854775808 ≤ M.U j ∧ M.U j ≤ 9223372036854775807
  t : ∀ j, j < M.nt * 3 → -9223372036854775808 ≤ M.R j ∧ M.R j ≤ 9223372036854775807
/-- what is asked of a place, of a pair, of a triangle -/
def okP (x y z : Int) : Bool := decide ((-4096 ≤ x ∧ x ≤ 4096) ∧ (-4096 ≤ y ∧ y ≤ 4096) ∧ (-4096 ≤ z ∧ z ≤ 4096))
def okU (x y : Int) : Bool := decide ((0 ≤ x ∧ x ≤ 65535) ∧ (0 ≤ y ∧ y ≤ 65535))
def okT (n : Nat) (x y z : Int) : Bool := decide ((0 ≤ x ∧ x < (n : Int)) ∧ (0 ≤ y ∧ y < (n : Int)) ∧ (0 ≤ z ∧ z < (n : Int)) ∧ x ≠ y ∧ y ≠ z ∧ z ≠ x)
def okPs (V : Nat → Int) (i : Nat) : Bool := okP (V (i * 3)) (V (i * 3 + 1)) (V (i * 3 + 2))
def okUs (U : Nat → Int) (i : Nat) : Bool := okU (U (i * 2)) (U (i * 2 + 1))
def okTs (n : Nat) (R : Nat → Int) (i : Nat) : Bool := okT n (R (i * 3)) (R (i * 3 + 1)) (R (i * 3 + 2))
/-- the error of a mesh -/
def chkF (nv nu nt : Nat) (V U R : Nat → Int) : Int :=
  if 64 < nv ∨ 64 < nt then 3 else if nv = 0 ∨ nt = 0 ∨ nu ≠ nv then 5 else if allB (okPs V) nv = false then 8 else if allB (okUs U) nu = false then 5 else if allB (okTs nv R) nt = false then 5 else 0
def chkM (M : Msh) : Int := chkF M.nv M.nu M.nt M.V M.U M.R
/-- what a mesh without a fault is -/
structure GoodM (nv nu nt : Nat) (V U R : Nat → Int) : Prop where
  hn : 1 ≤ nv ∧ nv ≤ 64
  ht : 1 ≤ nt ∧ nt ≤ 64
  hu : nu = nv
  v : ∀ j, j < nv * 3 → -4096 ≤ V j ∧ V j ≤ 4096
  u : ∀ j, j < nu * 2 → 0 ≤ U j ∧ U j ≤ 65535
  t : ∀ j, j < nt * 3 → 0 ≤ R j ∧ R j < (nv : Int)
theorem by3 {p : Nat → Prop} {n : Nat} (h : ∀ i, i < n → p (i * 3) ∧ p (i * 3 + 1) ∧ p (i * 3 + 2)) (j : Nat) (hj : j < n * 3) : p j := by
  have h1 := h (j / 3) (by omega)
  rcases (show j % 3 = 0 ∨ j % 3 = 1 ∨ j % 3 = 2 by omega) with e | e | e
  · have := h1.1; rwa [show j / 3 * 3 = j by omega] at this
  · have := h1.2.1; rwa [show j / 3 * 3 + 1 = j by omega] at this
  · have := h1.2.2; rwa [show j / 3 * 3 + 2 = j by omega] at this
theorem by2 {p : Nat → Prop} {n : Nat} (h : ∀ i, i < n → p (i * 2) ∧ p (i * 2 + 1)) (j : Nat) (hj : j < n * 2) : p j := by
  have h1 := h (j / 2) (by omega)
  rcases (show j % 2 = 0 ∨ j % 2 = 1 by omega) with e | e
  · have := h1.1; rwa [show j / 2 * 2 = j by omega] at this
  · have := h1.2; rwa [show j / 2 * 2 + 1 = j by omega] at this
theorem chk_1 {nv nu nt : Nat} {V U R : Nat → Int} (h : 64 < nv ∨ 64 < nt) : chkF nv nu nt V U R = 3 := if_pos h
theorem chk_2 {nv nu nt : Nat} {V U R : Nat → Int} (h : ¬(64 < nv ∨ 64 < nt)) (h2 : nv = 0 ∨ nt = 0 ∨ nu ≠ nv) : chkF nv nu nt V U R = 5 := by unfold chkF; rw [if_neg h, if_pos h2]
theorem chk_3 {nv nu nt : Nat} {V U R : Nat → Int} (h : ¬(64 < nv ∨ 64 < nt)) (h2 : ¬(nv = 0 ∨ nt = 0 ∨ nu ≠ nv)) (h3 : allB (okPs V) nv = false) : chkF nv nu nt V U R = 8 := by unfold chkF; rw [if_neg h, if_neg h2, if_pos h3]
theorem chk_4 {nv nu nt : Nat} {V U R : Nat → Int} (h : ¬(64 < nv ∨ 64 < nt)) (h2 : ¬(nv = 0 ∨ nt = 0 ∨ nu ≠ nv)) (h3 : allB (okPs V) nv = true) (h4 : allB (okUs U) nu = false) : chkF nv nu nt V U R = 5 := by unfold chkF; rw [if_neg h, if_neg h2, if_neg (by simp [h3]), if_pos h4]
theorem chk_5 {nv nu nt : Nat} {V U R : Nat → Int} (h : ¬(64 < nv ∨ 64 < nt)) (h2 : ¬(nv = 0 ∨ nt = 0 ∨ nu ≠ nv)) (h3 : allB (okPs V) nv = true) (h4 : allB (okUs U) nu = true) (h5 : allB (okTs nv R) nt = false) : chkF nv nu nt V U R = 5 := by unfold chkF; rw [if_neg h, if_neg h2, if_neg (by simp [h3]), if_neg (by simp [h4]), if_pos h5]
theorem chk_6 {nv nu nt : Nat} {V U R : Nat → Int} (h : ¬(64 < nv ∨ 64 < nt)) (h2 : ¬(nv = 0 ∨ nt = 0 ∨ nu ≠ nv)) (h3 : allB (okPs V) nv = true) (h4 : allB (okUs U) nu = true) (h5 : allB (okTs nv R) nt = true) : chkF nv nu nt V U R = 0 := by unfold chkF; rw [if_neg h, if_neg h2, if_neg (by simp [h3]), if_neg (by simp [h4]), if_neg (by simp [h5])]
theorem chk_good {nv nu nt : Nat} {V U R : Nat → Int} (h : chkF nv nu nt V U R = 0) : GoodM nv nu nt V U R := by
  by_cases h1 : 64 < nv ∨ 64 < nt
  · rw [chk_1 h1] at h; omega
  by_cases h2 : nv = 0 ∨ nt = 0 ∨ nu ≠ nv
  · rw [chk_2 h1 h2] at h; omega
  cases h3 : allB (okPs V) nv with
  | false => rw [chk_3 h1 h2 h3] at h; omega
  | true =>
    cases h4 : allB (okUs U) nu with
    | false => rw [chk_4 h1 h2 h3 h4] at h; omega
    | true =>
      cases h5 : allB (okTs nv R) nt with
      | false => rw [chk_5 h1 h2 h3 h4 h5] at h; omega
      | true =>
        have a3 := allB_iff.1 h3; have a4 := allB_iff.1 h4; have a5 := allB_iff.1 h5
        refine ⟨by omega, by omega, by omega, by3 fun i hi => ?_, by2 fun i hi => ?_, by3 fun i hi => ?_⟩
        · have := of_decide_eq_true (a3 i hi); exact this
        · have := of_decide_eq_true (a4 i hi); exact this
        · have := of_decide_eq_true (a5 i hi); exact ⟨this.1, this.2.1, this.2.2.1⟩
theorem chk_congr {nv nu nt : Nat} {V U R V' U' R' : Nat → Int} (hv : ∀ j, j < nv * 3 → V j = V' j) (hu : ∀ j, j < nu * 2 → U j = U' j) (ht : ∀ j, j < nt * 3 → R j = R' j) : chkF nv nu nt V U R = chkF nv nu nt V' U' R' := by
  have e1 : allB (okPs V) nv = allB (okPs V') nv := allB_congr fun i hi => by unfold okPs; rw [hv _ (by omega), hv _ (by omega), hv _ (by omega)]
  have e2 : allB (okUs U) nu = allB (okUs U') nu := allB_congr fun i hi => by unfold okUs; rw [hu _ (by omega), hu _ (by omega)]
  have e3 : allB (okTs nv R) nt = allB (okTs nv R') nt := allB_congr fun i hi => by unfold okTs; rw [ht _ (by omega), ht _ (by omega), ht _ (by omega)]
  unfold chkF
  rw [e1, e2, e3]
end Go.Proofs.Ytbhdlpndmbhaiaa
