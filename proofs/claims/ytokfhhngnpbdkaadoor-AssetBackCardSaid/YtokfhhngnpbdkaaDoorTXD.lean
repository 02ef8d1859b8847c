/- ZI ZJ ZK ZL ZN MUD, in one text. -/
import Derived.Test.YtokfhhngnpbdkaaDoorTXA
import Derived.Test.YtokfhhngnpbdkaaDoorMB1
import Derived.Test.YtokfhhngnpbdkaaDoorTXB
import Derived.Lib.Hide
import Derived.Deep.Onto
import Derived.Deep.RegionHeld3
import Derived.Deep.QuietTactic
import Derived.BigQuiet
import Derived.Great.BuildSlice
import Derived.LoopN
import Derived.LoopTactic
/- ZI -/
namespace Go.Proofs.YtokfhhngnpbdkaaDoor
set_option linter.unusedVariables false
set_option maxRecDepth 2000
set_option linter.unusedSimpArgs false
open Go.RowKit
/-- the side that is read -/
def sdN (F : Nat → Int) (N : Nat) : Nat := (valN F N 0 1).toNat
/-- how many bytes it asks for -/
def needT (F : Nat → Int) (N : Nat) : Nat := 1 + sdN F N * sdN F N * 3
/-- the error of some bytes -/
def tdecE (F : Nat → Int) (N : Nat) : Int := if N < needT F N then 4 else if needT F N < N then 5 else chkT (sdN F N) (sdN F N * sdN F N) (fun j => F (1 + j))
theorem sdN_val {F : Nat → Int} {N : Nat} (hF : ∀ j, j < N → inB (F j)) : valN F N 0 1 = (sdN F N : Int) ∧ sdN F N ≤ 255 := by
  have h := in_valN hF 0 1
  have p := pw_vals.1
  unfold sdN
  omega
/-- what is decoded -/
def dcS (F : Nat → Int) (N : Nat) : Nat := if tdecE F N = 0 then sdN F N else 0
structure DecO (F : Nat → Int) (N : Nat) (Z : Txr) : Prop where
  S : Z.S = (dcS F N : Int)
  n : Z.n = dcS F N * dcS F N
  f : ∀ j, j < Z.n * 3 → Z.f j = F (1 + j)
theorem tdec_zero {F : Nat → Int} {N : Nat} (h : tdecE F N ≠ 0) : DecO F N ⟨0, none, 0, 0, fun _ => 0⟩ :=
  ⟨by show (0 : Int) = _; rw [show dcS F N = 0 from if_neg h]; rfl, by show 0 = _; rw [show dcS F N = 0 from if_neg h], fun j hj => absurd hj (Nat.not_lt_zero j)⟩
theorem dec_4 {F : Nat → Int} {N : Nat} (h : N < needT F N) : tdecE F N = 4 := if_pos h
theorem dec_5 {F : Nat → Int} {N : Nat} (h : needT F N < N) : tdecE F N = 5 := by unfold tdecE; rw [if_neg (by omega), if_pos h]
theorem dec_c {F : Nat → Int} {N : Nat} (h : N = needT F N) : tdecE F N = chkT (sdN F N) (sdN F N * sdN F N) (fun j => F (1 + j)) := by unfold tdecE; rw [if_neg (by omega), if_neg (by omega)]
set_option maxHeartbeats 4000000 in
theorem Chunk_any (p : Option Addr) (n c : Nat) (w : World) : Calls Tryd.prog 74 #[.slice p n c, .int .i64 3] w fun e w' => ∃ B1 B2, e = .returned (.func (.func 91) #[] #[.pointer (some ⟨B1, 0, none⟩), .pointer (some ⟨B2, 0, none⟩)]) ∧ w.heap.size ≤ B1 ∧ w.heap.size ≤ B2 ∧ Own B1 [.slice p n c] w' ∧ Own B2 [.int .i64 3] w' ∧ Below w.heap.size w w' := by
  have hmf : ∀ (fn : Fn) (first cap : Array Value) (w : World), (Instr.makeFunc fn first cap).run Tryd.prog w = .ok (.func fn first cap) w := fun _ _ _ _ => rfl
  go_enter Tryd.func74, Tryd.ntmps74
  go_wp2_with (fail)
  go_ret
  exact ⟨_, _, rfl, Nat.le_refl _, Nat.le_succ _, (Own.newAt rfl).alloc, Own.newAt (by simp), Below.al (Below.al (Below.refl _ _))⟩
end Go.Proofs.YtokfhhngnpbdkaaDoor

/- ZJ -/
namespace Go.Proofs.YtokfhhngnpbdkaaDoor
set_option linter.unusedVariables false
set_option maxRecDepth 2000
set_option linter.unusedSimpArgs false
open Go.RowKit
/-- the decoder's blocks, while the loop over the chunks goes on -/
structure DcP where
  Q : Nat
  T : Nat
  B1 : Nat
  B2 : Nat
  D : Nat
  RB : Nat
  S : Int
  n : Nat
  G : Nat → Int
  p : Option Addr
  c : Nat
structure DcO (w : World) (P : DcP) : Prop where
  q : w.heap.size ≤ P.Q ∧ P.Q < P.RB
  t : w.heap.size ≤ P.T ∧ P.T < P.RB
  b1 : P.B1 < P.RB
  b2 : P.B2 < P.RB
  d : P.D < P.RB
  nQ : P.Q ≠ P.T
  n1 : P.B1 ≠ P.T
  n2 : P.B2 ≠ P.T
  nD : P.D ≠ P.T
  nn : P.n ≤ 100000
  cc : P.n * 3 ≤ P.c ∧ P.c ≤ 9223372036854775807
structure DcJ (w : World) (P : DcP) (k : Nat) (W : World) : Prop where
  q : Own P.Q [.int .i64 0, .slice none 0 0] W
  t : ∃ p c, Own P.T [.int .i64 P.S, .slice p k c] W ∧ W.ownsRow P.RB 29 3 (.slice p k c) k (nums .i64 P.G (k * 3))
  b1 : Own P.B1 [.slice P.p (P.n * 3) P.c] W
  b2 : Own P.B2 [.int .i64 3] W
  d : P.n = 0 ∨ (P.p = some ⟨P.D, 0, none⟩ ∧ Has P.D 0 (nums .u8 P.G (P.n * 3)) W)
  z : Below w.heap.size w W
  r : P.RB ≤ W.heap.size
theorem DcJ.later {w : World} {P : DcP} {k : Nat} {W W' : World} (h : DcJ w P k W) (hb : Below W.heap.size W W') : DcJ w P k W' := by
  obtain ⟨p, c, h1, h2⟩ := h.t
  exact ⟨h.q.later hb, ⟨p, c, h1.later hb, row_later h2 hb⟩, h.b1.later hb, h.b2.later hb, h.d.imp id (fun x => ⟨x.1, x.2.later hb⟩), Below.go h.z hb, Nat.le_trans h.r hb.size⟩
theorem DcJ.odd {w : World} {P : DcP} {k l : Nat} {W : World} {o : Obj} (h : DcJ w P k W) (hw : w.heap.size ≤ l) (hl : Odd l W) : DcJ w P k (W.putObj l o) := by
  obtain ⟨p, c, h1, h2⟩ := h.t
  refine ⟨h.q.odd hl, ⟨p, c, h1.odd hl, row_odd h2 hl⟩, h.b1.odd hl, h.b2.odd hl, ?_, putObj_below h.z hw, by rw [World.putObj_size]; exact h.r⟩
  rcases h.d with h0 | ⟨e, hh⟩
  · exact .inl h0
  · rcases Nat.eq_zero_or_pos P.n with h0 | h0
    · exact .inl h0
    · refine .inr ⟨e, ?_⟩
      obtain ⟨m, hm⟩ : ∃ m, P.n * 3 = m + 1 := ⟨P.n * 3 - 1, by omega⟩
      rw [hm] at hh ⊢
      exact hh.but But.putObj (odd_ne hl (hh.at 0 (.int .u8 (P.G 0)) (nums_at _ _ (by omega))))
/-- the body's append and store -/
theorem DcJ.body {w : World} {P : DcP} {k : Nat} {W W' : World} {p : Option Addr} {c : Nat} {v' : Value} (O : DcO w P) (h : DcJ w P k W)
    (hr : W.ownsRow P.RB 29 3 (.slice p k c) k (nums .i64 P.G (k * 3))) (hg : W.grownBy W' (Value.slice p k c).ownBlock) (hb : Own P.T [.int .i64 P.S, .slice p k c] W)
    (hr' : W'.ownsRow P.RB 29 3 v' (k + 1) (nums .i64 P.G ((k + 1) * 3))) : DcJ w P (k + 1) (W'.setCells P.T 1 [v']) := by
  obtain ⟨q, d, rfl, _⟩ := row_form hr'
  have nb : ∀ {b : Nat}, b < P.RB → (Value.slice p k c).ownBlock ≠ some b := fun hb => row_ne hr hb
  refine ⟨(h.q.grown hg (nb O.q.2)).far O.nQ, ⟨q, d, ?_, row_far hr' (row_ne hr' O.t.2) 1 _⟩, (h.b1.grown hg (nb O.b1)).far O.n1, (h.b2.grown hg (nb O.b2)).far O.n2, h.d.imp id (fun x => ⟨x.1, (x.2.grown hg (nb O.d)).far O.nD⟩), ?_, ?_⟩
  · exact (show Own P.T (over _ 1 [.slice q (k + 1) d]) _ from Own.part (hb.grown hg (nb O.t.2)) (by simp))
  · exact Below.setCells (h.z.grown hg h.z.size (fun j hj => Nat.le_trans (by have := O.t; omega) (row_ge hr j hj))) O.t.1 _ _
  · rw [size_setCells]; exact Nat.le_trans h.r hg.size
set_option maxHeartbeats 8000000 in
theorem chunk1_in (n : Nat) (w : World) (P : DcP) (O : DcO w P) (l : Nat) (Bk : World → Prop) (W1 : World)
    (hBk : ∀ W W', Bk W → KeepsOthers W W' → Bk W') (b1 : Bk W1) (hI : DcJ w P 0 W1)
    (hY : ∀ k x W, Bk W → DcJ w P k W → (x = k ∧ k < P.n) → YieldAt Fence.wide (n - 1) Tryd.prog l #[.slice (some ⟨P.D, x * 3, none⟩) 3 3] W fun e W' => e = .returned (.bool true) ∧ Bk W' ∧ DcJ w P (k + 1) W') :
    CallsIn Fence.wide n Tryd.prog 91 #[.func (.yield l) #[] #[], .pointer (some ⟨P.B1, 0, none⟩), .pointer (some ⟨P.B2, 0, none⟩)] W1 fun e W' => (∃ v, e = .returned v) ∧ Bk W' ∧ DcJ w P P.n W' := by
  obtain ⟨Q, T, B1, B2, D, RB, S, m, G, p, c⟩ := P
  have OO := Lib.hid O; have HK := Lib.hid b1; have HI := Lib.hid hI
  dsimp only at *
  clear O b1 hI
  refine callsIn_of_wp Tryd.func91 rfl trivial ?_ rfl
  simp only [Tryd.ntmps91, List.size_toArray, List.length_cons, List.length_nil, Nat.reduceAdd, Nat.reduceSub, Array.replicate_succ, Array.replicate_zero, List.push_toArray, List.append_toArray, List.nil_append, List.cons_append]
  gi_wp2
  gi_loopw [4] (fun iv wr => ∃ (k t : Nat), k ≤ m ∧ Hid (t = k * 3) ∧ iv = .int .i64 t ∧ Hid (DcJ w ⟨Q, T, B1, B2, D, RB, S, m, G, p, c⟩ k wr) ∧ Hid (Bk wr)) (fun iv _ => (m * 3 - (intOf iv).toNat))
  case atStart => exact ⟨0, 0, Nat.zero_le _, Lib.hid rfl, rfl, HI, HK⟩
  case round =>
    clear HI HK
    obtain ⟨k, t, hk, HT, rfl, HJ, HK⟩ := hrel
    have c0 := HJ.out.b1.at 0 _ rfl; have cl := HJ.out.b1.lt
    have d0 := HJ.out.b2.at 0 _ rfl; have dl := HJ.out.b2.lt
    dsimp only at c0 cl d0 dl
    by_cases hlt : k < m
    · obtain rfl : p = some ⟨D, 0, none⟩ := by
        rcases HJ.out.d with h | h
        · exact absurd h (by show m ≠ 0; omega)
        · exact h.1
      have hti : (t : Int) < ((m * 3 : Nat) : Int) := by have := HT.out; omega
      have t0 : (0 : Int) ≤ (t : Int) := by omega
      have HLT := Lib.hid hlt
      gi_wp2
      refine wpIn_wide.2 ?_
      go_quiet (fail)
      have h3 : min (3 : Int) ((m * 3 - t : Nat) : Int) = 3 := by have := HT.out; have := HLT.out; omega
      have hw3 : IntKind.i64.wrap ((t : Int) + 3) = (t : Int) + 3 := by
        have := HT.out; have := OO.out.nn; dsimp only at this
        rw [IntKind.wrap_i64]
        omega
      rw [h3]
      clear h3
      have J2 := Lib.hid (HJ.out.later (below_drewN (Below.refl wr.heap.size wr) nq))
      have K2 := Lib.hid (hBk _ _ HK.out (⟨Nat.le_refl _, fun i o hi _ => hi⟩ : KeepsOthers wr (wr.drewN nq)))
      clear HJ HK c0 cl d0 dl
      generalize wr.drewN nq = wq at *
      have c0 := J2.out.b1.at 0 _ rfl; have cl := J2.out.b1.lt
      have d0 := J2.out.b2.at 0 _ rfl; have dl := J2.out.b2.lt
      dsimp only at c0 cl d0 dl
      obtain ⟨fn, tmps, assign, body, hy, hR⟩ := hY k k wq K2.out J2.out ⟨rfl, hlt⟩
      rw [← HT.out] at hy
      have hb : (t : Int) + 3 ≤ (c : Int) := by have := HT.out; have := OO.out.cc; dsimp only at this; omega
      gi_wp2
      refine ⟨(fun h => by cases h), hR.mono ?_⟩
      rintro e W3 ⟨rfl, hb3, hj3⟩
      have B3 := Lib.hid hb3; have J3 := Lib.hid hj3
      clear hb3 hj3 hR hy c0 cl d0 dl J2 K2 hb
      have d0 := J3.out.b2.at 0 _ rfl; have dl := J3.out.b2.lt
      dsimp only at d0 dl
      gi_wp2
      go_roundw
      case rel => exact ⟨k + 1, t + 3, HLT.out, Lib.hid (by have := HT.out; omega), by simp, J3, B3⟩
      case measure => simp [intOf]; have := HT.out; have := HLT.out; omega
    · obtain rfl : k = m := by omega
      have hd : decide ((t : Int) < (k : Int) * 3) = false := decide_eq_false (by have := HT.out; omega)
      gi_wp2
      go_end0
      exact ⟨⟨_, rfl⟩, HK.out, HJ.out⟩
end Go.Proofs.YtokfhhngnpbdkaaDoor

/- ZK -/
namespace Go.Proofs.YtokfhhngnpbdkaaDoor
set_option linter.unusedVariables false
set_option maxRecDepth 2000
set_option linter.unusedSimpArgs false
open Go.RowKit
theorem dec_three (s : Nat) : (3 * (s : Int) * (s : Int)) = ((s * s * 3 : Nat) : Int) := by
  rw [Int.mul_assoc, Int.mul_comm, Int.natCast_mul, Int.natCast_mul]
  rfl
theorem dec_ss {s : Nat} (h : s ≤ 255) : s * s ≤ 65025 := Nat.mul_le_mul h h
theorem dec_short {s N : Nat} (h : N < 1 + s * s * 3) : nxE N 1 (erN N 1) (3 * (s : Int) * (s : Int)) 0 9223372036854775807 = 4 ∨ 255 < s := by
  rcases Nat.lt_or_ge 255 s with h2 | h2
  · exact .inr h2
  refine .inl ?_
  have := dec_ss h2
  rw [dec_three]
  unfold nxE erN
  by_cases h1 : 1 ≤ N
  · rw [if_pos h1, if_neg (by omega), if_neg (by omega), if_pos (by omega)]
  · rw [if_neg h1, if_pos (by decide)]
theorem dec_long {s N : Nat} (h : 1 + s * s * 3 ≤ N) (h2 : s ≤ 255) : nxE N 1 (erN N 1) (3 * (s : Int) * (s : Int)) 0 9223372036854775807 = 0 := by
  have := dec_ss h2
  rw [dec_three]
  unfold nxE erN
  rw [if_pos (show 1 ≤ N by omega), if_neg (by omega), if_neg (by omega), if_neg (by omega)]
/-- what comes behind the taking -/
theorem tdec_end {F : Nat → Int} {N s : Nat} (es : sdN F N = s) (h2 : s ≤ 255) : ∃ E L A, nxE N 1 (erN N 1) (3 * (s : Int) * (s : Int)) 0 9223372036854775807 = E ∧ nxL (3 * (s : Int) * (s : Int)) E = L ∧ nxA 1 (3 * (s : Int) * (s : Int)) E = A ∧ L ≤ 200000 ∧
    ((endE N A E ≠ 0 ∧ tdecE F N = endE N A E) ∨ (endE N A E = 0 ∧ L = s * s * 3 ∧ N = 1 + s * s * 3 ∧ tdecE F N = chkT s (s * s) (fun j => F (1 + j)))) := by
  have hs := dec_ss h2
  have hn : needT F N = 1 + s * s * 3 := by unfold needT; rw [es]
  rcases Nat.lt_or_ge N (1 + s * s * 3) with h | h
  · have e4 := (dec_short h).resolve_right (by omega)
    refine ⟨4, 0, 1, e4, by simp [nxL], by simp [nxA], by omega, .inl ?_⟩
    rw [dec_4 (by omega)]
    simp [endE]
  · have e0 := dec_long h h2
    refine ⟨0, s * s * 3, 1 + s * s * 3, e0, ?_, ?_, by omega, ?_⟩
    · rw [dec_three]; simp [nxL]; omega
    · rw [dec_three]; simp [nxA]; omega
    · rcases Nat.lt_or_ge (1 + s * s * 3) N with h3 | h3
      · refine .inl ?_
        rw [dec_5 (by omega)]
        simp [endE, h3]
      · refine .inr ⟨by simp [endE]; omega, rfl, by omega, ?_⟩
        rw [dec_c (by omega), es]
/-- the three bytes of a chunk, held -/
def S3 (D x : Nat) (G : Nat → Int) (w : World) : Prop := (w.cell? ⟨D, x * 3, none⟩ = some (.int .u8 (G (x * 3))) ∧ w.cell? ⟨D, x * 3 + 1, none⟩ = some (.int .u8 (G (x * 3 + 1)))) ∧ w.cell? ⟨D, x * 3 + 2, none⟩ = some (.int .u8 (G (x * 3 + 2))) ∧ D < w.heap.size
theorem s3_of {D n x : Nat} {G : Nat → Int} {w : World} (h : Has D 0 (nums .u8 G (n * 3)) w) (hx : x < n) : S3 D x G w := by
  have c := fun j hj => h.cell j _ (nums_at .u8 G (n := n * 3) (i := j) hj)
  simp only [Nat.zero_add] at c
  exact ⟨⟨c _ (by omega), c _ (by omega)⟩, c _ (by omega), h.lt⟩
set_option maxHeartbeats 16000000 in
theorem tDecode_any (q : Option Addr) (N c : Nat) (F : Nat → Int) (hF : ∀ j, j < N → inB (F j)) (hN : N ≤ 100000) (w : World) (hq : Byt w q N F) :
    Calls Tryd.prog 57 #[.slice q N c] w fun e w' => ∃ Z : Txr, e = .returned (.tuple #[.agg #[.int .i64 Z.S, .slice Z.q Z.n Z.c], .int .i64 (tdecE F N)]) ∧ (TxAt Z w' ∧ DecO F N Z) ∧ Below w.heap.size w w' := by
  have HQ0 := Lib.hid hq
  have NW := Lib.hid (fun w hq => New_any q N c F (by omega) w hq)
  have c0 := sdN_val hF
  have S0 := Lib.hid (fun K D w h => Num_next (K := K) (D := D) (N := N) (t := 0) (F := F) (w := w) 1 1 1 rfl rfl (by decide) (by decide) hF h)
  rw [c0.1] at S0
  obtain ⟨s, es⟩ : ∃ s, sdN F N = s := ⟨_, rfl⟩
  have h255 : s ≤ 255 := by rw [← es]; exact c0.2
  rw [es] at S0
  have hss := dec_ss h255
  have TK := Lib.hid (fun K D w h => Take_any (K := K) (D := D) (N := N) (at_ := 1) (er := erN N 1) (F := F) (w := w) (3 * (s : Int) * (s : Int)) (by omega) h)
  obtain ⟨E, L, A, eE, eL, eA, hL, hcase⟩ := tdec_end es h255
  rw [eE, eL, eA] at TK
  have ED := Lib.hid (fun K D w h => End_any (K := K) (D := D) (N := N) (at_ := A) (er := E) (F := F) (w := w) h)
  have HC := Lib.hid hcase
  have HE := Lib.hid es; have HL := Lib.hid hL; have H255 := Lib.hid h255; have HSS := Lib.hid hss
  have HFB := Lib.hid hF
  obtain ⟨er, eer⟩ : ∃ er, er = endE N A E := ⟨_, rfl⟩
  rw [← eer] at ED HC
  have ws : IntKind.i64.wrap (s : Int) = (s : Int) := IntWalk.i64_in _ (by omega)
  have w1 : IntKind.i64.wrap (3 * (s : Int)) = 3 * (s : Int) := IntWalk.i64_in _ (by omega)
  have w2 : IntKind.i64.wrap (3 * (s : Int) * (s : Int)) = 3 * (s : Int) * (s : Int) := by rw [dec_three]; exact IntWalk.i64_in _ (by omega)
  clear hq hN c0 es h255 hss eE eL eA hL hcase hF eer
  refine callsIn_wide.1 (callsIn_of_wp_marks (F := Fence.wide) (n := 6) Tryd.func57 rfl trivial (wpIn_wide.2 ?_) rfl)
  simp only [Tryd.ntmps57, List.size_toArray, List.length_cons, List.length_nil, Nat.reduceAdd, Nat.reduceSub, Array.replicate_succ, Array.replicate_zero, List.push_toArray, List.append_toArray, List.nil_append, List.cons_append]
  go_upto_region 1 with fail
  obtain ⟨W0, hW⟩ : ∃ W0, W0 = (w.alloc (.cells #[.int .i64 0, .slice none 0 0] 28)) := ⟨_, rfl⟩
  have hB0 : Below w.heap.size w W0 := hW ▸ (Below.al (Below.refl _ _))
  have HQ : Hid (Own w.heap.size [.int .i64 0, .slice none 0 0] W0) := Lib.hid (hW ▸ (Own.newAt (by simp)))
  rw [← hW]
  clear hW
  obtain ⟨Q, eQ⟩ : ∃ X, X = w.heap.size := ⟨_, rfl⟩
  rw [← eQ] at HQ ⊢
  have QW := Lib.hid (show w.heap.size ≤ Q by omega)
  clear eQ
  have hq0 := HQ0.out.later hB0
  go_wp2_with (fail)
  go_at_call 69
  refine (NW.out _ hq0).mono ?_
  rintro e v1 ⟨K, D, rfl, hK, hD, hDl, hR, hb⟩
  have HQ1 := Lib.hid (HQ.out.later hb)
  have HB1 := Lib.hid (Below.go hB0 hb)
  have nKQ : K ≠ Q := by have := HQ.out.lt; omega
  have nDQ : D ≠ Q := by have := HQ.out.lt; omega
  have KW := Lib.hid (show w.heap.size ≤ K by have := hB0.size; omega)
  have HR1 := Lib.hid (show Rd v1 K D F N 0 (erN N 0) by rw [show erN N 0 = 0 from if_pos (Nat.zero_le _)]; exact hR)
  have HDl := Lib.hid hDl
  clear hb hR hDl hK hD hB0 hq0 HQ HQ0 NW
  go_wp2_with (fail)
  go_at_call 72
  refine (S0.out _ _ _ HR1.out).mono ?_
  rintro e v2 ⟨rfl, hR, hb⟩
  have HQ2 := Lib.hid (HQ1.out.but hb nKQ.symm)
  have HB2 := Lib.hid (HB1.out.trans (hb.below.mono KW.out))
  have HR2 := Lib.hid hR
  have HDl2 := Lib.hid (Nat.lt_of_lt_of_le HDl.out hb.below.size)
  clear hb hR HQ1 HB1 HR1 S0 HDl
  go_upto_region 3 with fail
  obtain ⟨v3, hW⟩ : ∃ W, W = v2.alloc (.cells #[.int .i64 (s : Int), .slice none 0 0] 28) := ⟨_, rfl⟩
  have hb3 : Below v2.heap.size v2 v3 := hW ▸ Below.al (Below.refl _ _)
  have HT3 : Hid (Own v2.heap.size [.int .i64 (s : Int), .slice none 0 0] v3) := Lib.hid (hW ▸ Own.newAt (by simp))
  have HQ3 := Lib.hid (HQ2.out.later hb3); have HB3 := Lib.hid (Below.go HB2.out hb3); have HR3 := Lib.hid (HR2.out.later hb3)
  have TQ := Lib.hid (show Q < v2.heap.size from HQ2.out.lt)
  have TK3 : Hid (K < v2.heap.size ∧ D < v2.heap.size) := Lib.hid ⟨HR2.out.lt, HDl2.out⟩
  have TW : Hid (w.heap.size ≤ v2.heap.size) := Lib.hid HB2.out.size
  rw [← hW]
  clear hW hb3 HQ2 HB2 HR2
  obtain ⟨T, eT⟩ : ∃ X, X = v2.heap.size := ⟨_, rfl⟩
  rw [← eT] at HT3 TQ TK3 TW ⊢
  clear eT
  have t0 := HT3.out.at 0 _ rfl; have tl := HT3.out.lt
  go_wp2_with (fail)
  go_at_call 73
  refine (TK.out _ _ _ HR3.out).mono ?_
  rintro e v4 ⟨v, rfl, hrow, hR, hb⟩
  have nQK : Q ≠ K := nKQ.symm
  have nTK : T ≠ K := by have := TK3.out; omega
  obtain ⟨g, d, rfl, _⟩ := row_form hrow
  have HQ4 := Lib.hid (HQ3.out.but hb nQK); have HT4 := Lib.hid (HT3.out.but hb nTK)
  have HB4 := Lib.hid (HB3.out.trans (hb.below.mono KW.out))
  have HR4 := Lib.hid hR; have ROW4 := Lib.hid hrow
  have VS : Hid (v3.heap.size ≤ v4.heap.size ∧ T < v3.heap.size) := Lib.hid ⟨hb.below.size, HT3.out.lt⟩
  clear hb hR hrow HQ3 HB3 HR3 HT3 t0 tl TK
  go_wp2_with (fail)
  go_at_call 71
  refine (ED.out _ _ _ HR4.out).mono ?_
  rintro e v5 ⟨rfl, rfl⟩
  clear HR4 ED
  rcases HC.out with ⟨hne, hde⟩ | ⟨rfl, hLs, hNs, hde⟩
  · have hd : (er != 0) = true := by simpa using hne
    have q0 := HQ4.out.at 0 _ rfl; have qf0 := HQ4.out.ok 0 (by simp); have q1 := HQ4.out.at 1 _ rfl; have qf1 := HQ4.out.ok 1 (by simp); have ql := HQ4.out.lt
    go_wp2_with (fail)
    clear q0 qf0 q1 qf1 ql
    rw [show ((v5.setCell ⟨Q, 0, none⟩ (.int .i64 0)).setCell ⟨Q, 1, none⟩ (.slice none 0 0)) = v5.setCells Q 0 [.int .i64 0, .slice none 0 0] from rfl]
    have HQ5 : Hid (Own Q [.int .i64 0, .slice none 0 0] (v5.setCells Q 0 [.int .i64 0, .slice none 0 0])) := Lib.hid (Own.store HQ4.out rfl)
    have HB5 : Below w.heap.size w (v5.setCells Q 0 [.int .i64 0, .slice none 0 0]) := Below.setCells HB4.out QW.out _ _
    generalize v5.setCells Q 0 [.int .i64 0, .slice none 0 0] = W5 at *
    have hL := run_loadVar_mid (P := Tryd.prog) _ Q 0 28 [.int .i64 0, .slice none 0 0] _ HQ5.out.cell Tryd.underlying28 rfl (by kernel_rfl)
    refine ⟨.tuple #[.agg ([.int .i64 0, .slice none 0 0] : List Value).toArray, .int .i64 er], res_two Tryd.results57 rfl hL rfl, ⟨0, none, 0, 0, fun _ => 0⟩, ?_, ⟨⟨.inl rfl, Nat.le_refl _, by decide⟩, tdec_zero (by rw [hde]; exact hne)⟩, HB5⟩
    rw [hde]
  · clear HC
    subst hLs
    go_wp2_with (fail)
    go_at_call 74
    refine (Chunk_any g (s * s * 3) d v5).mono ?_
    rintro e v6 ⟨B1, B2, rfl, hB1, hB2, o1, o2, hb⟩
    have HQ6 := Lib.hid (HQ4.out.later hb); have HT6 := Lib.hid (HT4.out.later hb); have ROW6 := Lib.hid (row_later ROW4.out hb)
    have HB6 := Lib.hid (Below.go HB4.out hb)
    have cap := row_cap_ ROW6.out
    obtain ⟨D', hD', hDQ, hDT⟩ : ∃ D' : Nat, ((s * s = 0 ∨ (g = some ⟨D', 0, none⟩ ∧ Has D' 0 (nums .u8 (fun j => F (1 + j)) (s * s * 3)) v6)) ∧ D' < v6.heap.size) ∧ D' ≠ T ∧ True := by
      rcases ROW6.out.2 with ⟨_, h0⟩ | ⟨g', cap', cur, hv, _⟩
      · refine ⟨Q, ⟨.inl (by omega), HQ6.out.lt⟩, ?_, trivial⟩
        exact Nat.ne_of_lt TQ.out
      · have e : g = some ⟨g', 0, none⟩ := by injection hv
        subst e
        have hh := (row_has' ROW6.out).1
        refine ⟨g', ⟨.inr ⟨rfl, hh⟩, hh.lt⟩, ?_, trivial⟩
        intro e
        exact row_ne ROW6.out VS.out.2 (by rw [← e]; rfl)
    have GB : Hid (∀ j, j < s * s * 3 → inB (F (1 + j))) := Lib.hid fun j hj => HFB.out _ (by omega)
    have HDE : Hid (tdecE F N = chkT s (s * s) (fun j => F (1 + j))) := Lib.hid hde
    obtain ⟨G, eG⟩ : ∃ G, G = (fun j => F (1 + j)) := ⟨_, rfl⟩
    have GG : Hid (∀ j, G j = F (1 + j)) := Lib.hid fun j => by rw [eG]
    simp only [← GG.out] at hD' GB ROW6 HDE
    have HNS := Lib.hid hNs
    obtain ⟨n, en⟩ : ∃ n, n = s * s := ⟨_, rfl⟩
    have EN := Lib.hid en
    simp only [← en] at hD' GB ROW6 HDE HSS o1 cap HNS ⊢
    have OO : Hid (DcO w ⟨Q, T, B1, B2, D', v6.heap.size, s, n, G, g, d⟩) := Lib.hid ⟨⟨QW.out, HQ6.out.lt⟩, ⟨TW.out, HT6.out.lt⟩, o1.lt, o2.lt, hD'.2, Nat.ne_of_lt TQ.out, (show B1 ≠ T by have := VS.out; omega), (show B2 ≠ T by have := VS.out; omega), hDQ, (by have := HSS.out; show n ≤ 100000; omega), cap⟩
    have JJ : Hid (DcJ w ⟨Q, T, B1, B2, D', v6.heap.size, s, n, G, g, d⟩ 0 v6) := Lib.hid ⟨HQ6.out, ⟨none, 0, HT6.out, World.ownsRow_nil _ _ _ _⟩, o1, o2, hD'.1, HB6.out, Nat.le_refl _⟩
    clear en
    clear hb hB1 hB2 o1 o2 HQ6 HT6 ROW6 HB6 cap hD' hDQ hDT hde eG HQ4 HT4 ROW4 HB4 VS TQ TK3 HDl2
    go_wp2_with (fail)
    have W6 : Hid (w.heap.size ≤ v6.heap.size) := Lib.hid JJ.out.z.size
    obtain ⟨i0, hi, hz0, hz1, hz2⟩ := infoX_parts
    refine wpIn_wide.1 (range_book (n := 6) (gf := 91) (lb := #[.pointer (some ⟨B1, 0, none⟩), .pointer (some ⟨B2, 0, none⟩)]) rfl (fun _ _ => rfl) (encs := fun x : Nat => #[.slice (some ⟨D', x * 3, none⟩) 3 3]) (fun _ => rfl)
      (DcJ w ⟨Q, T, B1, B2, D', v6.heap.size, s, n, G, g, d⟩ 0) (DcJ w ⟨Q, T, B1, B2, D', v6.heap.size, s, n, G, g, d⟩) (fun k x => x = k ∧ k < n) (fun k _ => k + 1) (DcJ w ⟨Q, T, B1, B2, D', v6.heap.size, s, n, G, g, d⟩ n) ?h0 ?hJ ?hD ?hround ?hiter ?hdone)
    case h0 => exact fun o o' => (JJ.out.later (Below.al (Below.refl _ _))).later (Below.al (Below.refl _ _))
    case hJ => exact fun k W l o h hl ho => h.odd (Nat.le_trans W6.out hl) ho
    case hD => exact fun W l o h hl ho => h.odd (Nat.le_trans W6.out hl) ho
    case hiter => exact fun l Bk W1 _ hBk b1 hI hY => chunk1_in 5 w _ OO.out l Bk W1 hBk b1 hI hY
    case hround =>
      clear JJ
      rintro l k x W hl hj ⟨hx, hk⟩ hodd
      subst hx
      have OD := Lib.hid hodd; have HJ := Lib.hid hj; have HK := Lib.hid hk
      have lW : w.heap.size ≤ l := by have := W6.out; omega
      clear hk hj hl hodd
      refine region_round then_lets rfl ?_
      go_wp2_with (fail)
      refine ⟨⟨Nat.le_refl _, fun i o hi _ => hi⟩, fun o => ?_⟩
      have J2 := Lib.hid (HJ.out.odd (o := o) lW OD.out)
      clear OD HJ lW
      generalize W.putObj l o = W2 at *
      have J3 := Lib.hid (J2.out.later (Below.refl _ _).drew)
      have KO : Hid (KeepsOthers W2 W2.drew) := Lib.hid ⟨Nat.le_refl _, fun i o hi _ => hi⟩
      refine wpIn_block (held_round (S := S3 D' x G) (by kernel_rfl) block_lets (by kernel_rfl) ?_)
      clear J2
      generalize W2.drew = z0 at *
      obtain ⟨rfl, HH⟩ : g = some ⟨D', 0, none⟩ ∧ Has D' 0 (nums .u8 G (n * 3)) z0 := J3.out.d.resolve_left (by have := HK.out; show n ≠ 0; omega)
      have HS := s3_of HH HK.out
      have BB : Hid (∀ j, j < 3 → inB (G (x * 3 + j))) := Lib.hid fun j hj => GB.out _ (by have := HK.out; omega)
      have b0 : IntKind.i64.wrap (G (x * 3)) = G (x * 3) := IntWalk.i64_in _ (by have h : inB (G (x * 3)) := BB.out 0 (by decide); unfold inB at h; omega)
      have b1 : IntKind.i64.wrap (G (x * 3 + 1)) = G (x * 3 + 1) := IntWalk.i64_in _ (by have h : inB (G (x * 3 + 1)) := BB.out 1 (by decide); unfold inB at h; omega)
      have b2 : IntKind.i64.wrap (G (x * 3 + 2)) = G (x * 3 + 2) := IntWalk.i64_in _ (by have h : inB (G (x * 3 + 2)) := BB.out 2 (by decide); unfold inB at h; omega)
      refine wpAnyH_take (i := 0) (v := .pointer (some ⟨T, 1, none⟩)) rfl (by kernel_rfl) (by kernel_rfl) (by kernel_rfl) (fun _ _ _ h => h) (Or.inl ⟨by rfl, fun w hSw => ?_⟩) (by assumption) ?_
      · obtain ⟨⟨s0, s1⟩, s2, sl⟩ := hSw; go_simp
      try simp only [Act.put, List.getElem_toArray, List.getElem_cons_zero, List.getElem_cons_succ, List.setIfInBounds_toArray, List.set_cons_zero, List.set_cons_succ]
      refine wpAnyH_take (i := 2) (v := (.slice (some ⟨D', x * 3, none⟩) 3 3)) rfl (by kernel_rfl) (by kernel_rfl) (by kernel_rfl) (fun _ _ _ h => h) (Or.inl ⟨by rfl, fun w hSw => ?_⟩) (by assumption) ?_
      · obtain ⟨⟨s0, s1⟩, s2, sl⟩ := hSw; go_simp
      try simp only [Act.put, List.getElem_toArray, List.getElem_cons_zero, List.getElem_cons_succ, List.setIfInBounds_toArray, List.set_cons_zero, List.set_cons_succ]
      refine wpAnyH_take (i := 3) (v := .pointer (some ⟨D', x * 3, none⟩)) rfl (by kernel_rfl) (by kernel_rfl) (by kernel_rfl) (fun _ _ _ h => h) (Or.inl ⟨by rfl, fun w hSw => ?_⟩) (by assumption) ?_
      · obtain ⟨⟨s0, s1⟩, s2, sl⟩ := hSw; go_simp
      try simp only [Act.put, List.getElem_toArray, List.getElem_cons_zero, List.getElem_cons_succ, List.setIfInBounds_toArray, List.set_cons_zero, List.set_cons_succ]
      refine wpAnyH_take (i := 4) (v := .int .u8 (G (x * 3))) rfl (by kernel_rfl) (by kernel_rfl) (by kernel_rfl) (fun _ _ _ h => h) (Or.inl ⟨by rfl, fun w hSw => ?_⟩) (by assumption) ?_
      · obtain ⟨⟨s0, s1⟩, s2, sl⟩ := hSw; go_simp
      try simp only [Act.put, List.getElem_toArray, List.getElem_cons_zero, List.getElem_cons_succ, List.setIfInBounds_toArray, List.set_cons_zero, List.set_cons_succ]
      refine wpAnyH_take (i := 5) (v := .int .i64 (G (x * 3))) rfl (by kernel_rfl) (by kernel_rfl) (by kernel_rfl) (fun _ _ _ h => h) (Or.inl ⟨by rfl, fun w hSw => ?_⟩) (by assumption) ?_
      · obtain ⟨⟨s0, s1⟩, s2, sl⟩ := hSw; go_simp
      try simp only [Act.put, List.getElem_toArray, List.getElem_cons_zero, List.getElem_cons_succ, List.setIfInBounds_toArray, List.set_cons_zero, List.set_cons_succ]
      refine wpAnyH_take (i := 6) (v := (.slice (some ⟨D', x * 3, none⟩) 3 3)) rfl (by kernel_rfl) (by kernel_rfl) (by kernel_rfl) (fun _ _ _ h => h) (Or.inl ⟨by rfl, fun w hSw => ?_⟩) (by assumption) ?_
      · obtain ⟨⟨s0, s1⟩, s2, sl⟩ := hSw; go_simp
      try simp only [Act.put, List.getElem_toArray, List.getElem_cons_zero, List.getElem_cons_succ, List.setIfInBounds_toArray, List.set_cons_zero, List.set_cons_succ]
      refine wpAnyH_take (i := 7) (v := .pointer (some ⟨D', x * 3 + 1, none⟩)) rfl (by kernel_rfl) (by kernel_rfl) (by kernel_rfl) (fun _ _ _ h => h) (Or.inl ⟨by rfl, fun w hSw => ?_⟩) (by assumption) ?_
      · obtain ⟨⟨s0, s1⟩, s2, sl⟩ := hSw; go_simp
      try simp only [Act.put, List.getElem_toArray, List.getElem_cons_zero, List.getElem_cons_succ, List.setIfInBounds_toArray, List.set_cons_zero, List.set_cons_succ]
      refine wpAnyH_take (i := 8) (v := .int .u8 (G (x * 3 + 1))) rfl (by kernel_rfl) (by kernel_rfl) (by kernel_rfl) (fun _ _ _ h => h) (Or.inl ⟨by rfl, fun w hSw => ?_⟩) (by assumption) ?_
      · obtain ⟨⟨s0, s1⟩, s2, sl⟩ := hSw; go_simp
      try simp only [Act.put, List.getElem_toArray, List.getElem_cons_zero, List.getElem_cons_succ, List.setIfInBounds_toArray, List.set_cons_zero, List.set_cons_succ]
      refine wpAnyH_take (i := 9) (v := .int .i64 (G (x * 3 + 1))) rfl (by kernel_rfl) (by kernel_rfl) (by kernel_rfl) (fun _ _ _ h => h) (Or.inl ⟨by rfl, fun w hSw => ?_⟩) (by assumption) ?_
      · obtain ⟨⟨s0, s1⟩, s2, sl⟩ := hSw; go_simp
      try simp only [Act.put, List.getElem_toArray, List.getElem_cons_zero, List.getElem_cons_succ, List.setIfInBounds_toArray, List.set_cons_zero, List.set_cons_succ]
      refine wpAnyH_take (i := 10) (v := (.slice (some ⟨D', x * 3, none⟩) 3 3)) rfl (by kernel_rfl) (by kernel_rfl) (by kernel_rfl) (fun _ _ _ h => h) (Or.inl ⟨by rfl, fun w hSw => ?_⟩) (by assumption) ?_
      · obtain ⟨⟨s0, s1⟩, s2, sl⟩ := hSw; go_simp
      try simp only [Act.put, List.getElem_toArray, List.getElem_cons_zero, List.getElem_cons_succ, List.setIfInBounds_toArray, List.set_cons_zero, List.set_cons_succ]
      refine wpAnyH_take (i := 11) (v := .pointer (some ⟨D', x * 3 + 2, none⟩)) rfl (by kernel_rfl) (by kernel_rfl) (by kernel_rfl) (fun _ _ _ h => h) (Or.inl ⟨by rfl, fun w hSw => ?_⟩) (by assumption) ?_
      · obtain ⟨⟨s0, s1⟩, s2, sl⟩ := hSw; go_simp
      try simp only [Act.put, List.getElem_toArray, List.getElem_cons_zero, List.getElem_cons_succ, List.setIfInBounds_toArray, List.set_cons_zero, List.set_cons_succ]
      refine wpAnyH_take (i := 12) (v := .int .u8 (G (x * 3 + 2))) rfl (by kernel_rfl) (by kernel_rfl) (by kernel_rfl) (fun _ _ _ h => h) (Or.inl ⟨by rfl, fun w hSw => ?_⟩) (by assumption) ?_
      · obtain ⟨⟨s0, s1⟩, s2, sl⟩ := hSw; go_simp
      try simp only [Act.put, List.getElem_toArray, List.getElem_cons_zero, List.getElem_cons_succ, List.setIfInBounds_toArray, List.set_cons_zero, List.set_cons_succ]
      refine wpAnyH_take (i := 13) (v := .int .i64 (G (x * 3 + 2))) rfl (by kernel_rfl) (by kernel_rfl) (by kernel_rfl) (fun _ _ _ h => h) (Or.inl ⟨by rfl, fun w hSw => ?_⟩) (by assumption) ?_
      · obtain ⟨⟨s0, s1⟩, s2, sl⟩ := hSw; go_simp
      try simp only [Act.put, List.getElem_toArray, List.getElem_cons_zero, List.getElem_cons_succ, List.setIfInBounds_toArray, List.set_cons_zero, List.set_cons_succ]
      refine wpAnyH_take (i := 14) (v := .agg #[.int .i64 (G (x * 3)), .int .i64 (G (x * 3 + 1)), .int .i64 (G (x * 3 + 2))]) rfl (by kernel_rfl) (by kernel_rfl) (by kernel_rfl) (fun _ _ _ h => h) (Or.inl ⟨by rfl, fun w hSw => ?_⟩) (by assumption) ?_
      · obtain ⟨⟨s0, s1⟩, s2, sl⟩ := hSw; go_simp
      try simp only [Act.put, List.getElem_toArray, List.getElem_cons_zero, List.getElem_cons_succ, List.setIfInBounds_toArray, List.set_cons_zero, List.set_cons_succ]
      clear b0 b1 b2 BB
      have XS : Hid (nums .i64 G (x * 3) ++ [.int .i64 (G (x * 3)), .int .i64 (G (x * 3 + 1)), .int .i64 (G (x * 3 + 2))] = nums .i64 G ((x + 1) * 3)) := Lib.hid (by
        rw [show (x + 1) * 3 = x * 3 + 3 by omega]
        refine nums_append .i64 G (fun j => [G (x * 3), G (x * 3 + 1), G (x * 3 + 2)].getD j 0) (x * 3) 3 (fun j hj => ?_)
        match j, hj with
        | 0, _ => rfl
        | 1, _ => rfl
        | 2, _ => rfl)
      have N63 := Lib.hid (show x + 1 ≤ maxLen by have := HK.out; have := HSS.out; unfold maxLen; omega)
      have NBY := Lib.hid (show (x + 1) * 24 ≤ 140737488355328 by have := HK.out; have := HSS.out; omega)
      obtain ⟨p1, c1, hO1, hR1⟩ := J3.out.t
      dsimp only at hO1 hR1
      obtain ⟨x0, e0⟩ : ∃ z, z = G (x * 3) := ⟨_, rfl⟩
      obtain ⟨x1, e1⟩ : ∃ z, z = G (x * 3 + 1) := ⟨_, rfl⟩
      obtain ⟨x2, e2⟩ : ∃ z, z = G (x * 3 + 2) := ⟨_, rfl⟩
      rw [← e0, ← e1, ← e2] at XS ⊢
      clear e0 e1 e2
      have HO := Lib.hid hO1; have HR := Lib.hid hR1
      clear hO1 hR1
      refine wpAnyH_ready (rs := [1, 15]) (by kernel_rfl) (by simp) ?_
      refine (AllReadyH.cons rfl (fun K_ hK => ?_) (AllReadyH.cons rfl (fun K_ hK => ?_) AllReadyH.nil))
      · have t1 := HO.out.at 1 _ rfl
        have tl := HO.out.lt
        go_simp
        clear t1 tl
        refine hK.out _ _ HS (fun _ => ?_)
        clear hK K_
        try simp only [Act.put, List.getElem_toArray, List.getElem_cons_zero, List.getElem_cons_succ, List.setIfInBounds_toArray, List.set_cons_zero, List.set_cons_succ]
        refine wpAnyH_ready (rs := [15]) (by kernel_rfl) (by simp) ?_
        refine AllReadyH.cons rfl (fun K_ hK => ?_) AllReadyH.nil
        go_simp
        have hal := Below.al (o := .cells #[.int .i64 x0, .int .i64 x1, .int .i64 x2] 29) (Below.refl z0.heap.size z0)
        have HN : Own z0.heap.size [.int .i64 x0, .int .i64 x1, .int .i64 x2] (z0.alloc (.cells #[.int .i64 x0, .int .i64 x1, .int .i64 x2] 29)) := Own.newAt rfl
        have J4 := Lib.hid (J3.out.later hal); have HO4 := Lib.hid (HO.out.later hal); have HR4 := Lib.hid (row_later HR.out hal); have HH4 := HH.later hal; have HS4 := s3_of HH4 HK.out
        have KO4 : Hid (KeepsOthers W2 (z0.alloc (.cells #[.int .i64 x0, .int .i64 x1, .int .i64 x2] 29))) := Lib.hid (KO.out.trans (KeepsOthers.alloc _ _))
        clear hal HS HH HO HR J3 KO
        generalize (z0.alloc (.cells #[.int .i64 x0, .int .i64 x1, .int .i64 x2] 29)) = z4 at *
        obtain ⟨Z, eZ⟩ : ∃ Z, Z = z0.heap.size := ⟨_, rfl⟩
        rw [← eZ] at HN ⊢
        clear eZ
        refine hK.out _ _ HS4 (fun _ => ?_)
        clear hK K_
        try simp only [Act.put, List.getElem_toArray, List.getElem_cons_zero, List.getElem_cons_succ, List.setIfInBounds_toArray, List.set_cons_zero, List.set_cons_succ]
        refine wpAnyH_ready (rs := [16]) (by kernel_rfl) (by simp) ?_
        refine AllReadyH.cons rfl (fun K_ hK => ?_) AllReadyH.nil
        refine step_append_to rfl _ _ 24 rfl 29 i0 (.agg #[.int .i64 0, .int .i64 0, .int .i64 0]) 3 24 Tryd.underlying24 hi hz0 hz1 hz2 rfl (by decide) v6.heap.size _ x _ rfl HR4.out ⟨Z, 0, none⟩ 1 1 [.int .i64 x0, .int .i64 x1, .int .i64 x2] rfl rfl HN.news (by simp [Value.oneCell']) N63.out NBY.out J4.out.r ?_
        intro v' z6 hrow hgr
        rw [XS.out] at hrow
        obtain ⟨p2, c2, rfl, _⟩ := row_form hrow
        have nb : ∀ {b : Nat}, b < v6.heap.size → (Value.slice p1 x c1).ownBlock ≠ some b := fun hb => row_ne HR4.out hb
        have HH6 : Has D' 0 (nums .u8 G (n * 3)) z6 := HH4.grown hgr (nb OO.out.d)
        have HO6 := Lib.hid (HO4.out.grown hgr (nb OO.out.t.2))
        have J6 := Lib.hid (J4.out.body OO.out HR4.out hgr HO4.out hrow)
        have KO6 := Lib.hid ((KO4.out.trans (KeepsOthers.of_grownBy hgr (row_cells HR4.out))).trans (KeepsOthers.setCell z6 ⟨T, 1, none⟩ (.slice p2 (x + 1) c2)))
        dsimp only at J6
        have HS6 := s3_of HH6 HK.out
        clear hrow hgr nb HO4 HR4 J4 KO4 HS4 HH4 HN XS N63 NBY HH6
        refine hK.out _ _ HS6 (fun _ => ?_)
        clear hK K_
        try simp only [Act.put, List.getElem_toArray, List.getElem_cons_zero, List.getElem_cons_succ, List.setIfInBounds_toArray, List.set_cons_zero, List.set_cons_succ]
        refine wpAnyH_take (i := 17) (v := .pointer (some ⟨T, 1, none⟩)) rfl (by kernel_rfl) (by kernel_rfl) (by kernel_rfl) (fun _ _ _ h => h) (Or.inl ⟨by rfl, fun w hSw => ?_⟩) (by assumption) ?_
        · obtain ⟨⟨s0, s1⟩, s2, sl⟩ := hSw; go_simp
        try simp only [Act.put, List.getElem_toArray, List.getElem_cons_zero, List.getElem_cons_succ, List.setIfInBounds_toArray, List.set_cons_zero, List.set_cons_succ]
        refine wpAnyH_ready (rs := [18]) (by kernel_rfl) (by simp) ?_
        refine AllReadyH.cons rfl (fun K_ hK => ?_) AllReadyH.nil
        have t1 := HO6.out.at 1 _ rfl
        have tf := HO6.out.ok 1 (by simp)
        have tl := HO6.out.lt
        go_simp
        clear t1 tf tl
        rw [show z6.setCell ⟨T, 1, none⟩ (.slice p2 (x + 1) c2) = z6.setCells T 1 [.slice p2 (x + 1) c2] from rfl] at KO6 ⊢
        refine hK.out _ _ (s3_of (J6.out.d.resolve_left (by have := HK.out; show n ≠ 0; omega)).2 HK.out) (fun _ => ?_)
        clear hK K_
        try simp only [Act.put, List.getElem_toArray, List.getElem_cons_zero, List.getElem_cons_succ, List.setIfInBounds_toArray, List.set_cons_zero, List.set_cons_succ]
        refine wpAnyH_done (by kernel_rfl) ?_ _
        exact ⟨KO6.out, J6.out⟩
      · go_simp
        have hal := Below.al (o := .cells #[.int .i64 x0, .int .i64 x1, .int .i64 x2] 29) (Below.refl z0.heap.size z0)
        have HN : Own z0.heap.size [.int .i64 x0, .int .i64 x1, .int .i64 x2] (z0.alloc (.cells #[.int .i64 x0, .int .i64 x1, .int .i64 x2] 29)) := Own.newAt rfl
        have J4 := Lib.hid (J3.out.later hal); have HO4 := Lib.hid (HO.out.later hal); have HR4 := Lib.hid (row_later HR.out hal); have HH4 := HH.later hal; have HS4 := s3_of HH4 HK.out
        have KO4 : Hid (KeepsOthers W2 (z0.alloc (.cells #[.int .i64 x0, .int .i64 x1, .int .i64 x2] 29))) := Lib.hid (KO.out.trans (KeepsOthers.alloc _ _))
        clear hal HS HH HO HR J3 KO
        generalize (z0.alloc (.cells #[.int .i64 x0, .int .i64 x1, .int .i64 x2] 29)) = z4 at *
        obtain ⟨Z, eZ⟩ : ∃ Z, Z = z0.heap.size := ⟨_, rfl⟩
        rw [← eZ] at HN ⊢
        clear eZ
        refine hK.out _ _ HS4 (fun _ => ?_)
        clear hK K_
        try simp only [Act.put, List.getElem_toArray, List.getElem_cons_zero, List.getElem_cons_succ, List.setIfInBounds_toArray, List.set_cons_zero, List.set_cons_succ]
        refine wpAnyH_ready (rs := [1]) (by kernel_rfl) (by simp) ?_
        refine AllReadyH.cons rfl (fun K_ hK => ?_) AllReadyH.nil
        have t1 := HO4.out.at 1 _ rfl
        have tl := HO4.out.lt
        go_simp
        clear t1 tl
        refine hK.out _ _ HS4 (fun _ => ?_)
        clear hK K_
        try simp only [Act.put, List.getElem_toArray, List.getElem_cons_zero, List.getElem_cons_succ, List.setIfInBounds_toArray, List.set_cons_zero, List.set_cons_succ]
        refine wpAnyH_ready (rs := [16]) (by kernel_rfl) (by simp) ?_
        refine AllReadyH.cons rfl (fun K_ hK => ?_) AllReadyH.nil
        refine step_append_to rfl _ _ 24 rfl 29 i0 (.agg #[.int .i64 0, .int .i64 0, .int .i64 0]) 3 24 Tryd.underlying24 hi hz0 hz1 hz2 rfl (by decide) v6.heap.size _ x _ rfl HR4.out ⟨Z, 0, none⟩ 1 1 [.int .i64 x0, .int .i64 x1, .int .i64 x2] rfl rfl HN.news (by simp [Value.oneCell']) N63.out NBY.out J4.out.r ?_
        intro v' z6 hrow hgr
        rw [XS.out] at hrow
        obtain ⟨p2, c2, rfl, _⟩ := row_form hrow
        have nb : ∀ {b : Nat}, b < v6.heap.size → (Value.slice p1 x c1).ownBlock ≠ some b := fun hb => row_ne HR4.out hb
        have HH6 : Has D' 0 (nums .u8 G (n * 3)) z6 := HH4.grown hgr (nb OO.out.d)
        have HO6 := Lib.hid (HO4.out.grown hgr (nb OO.out.t.2))
        have J6 := Lib.hid (J4.out.body OO.out HR4.out hgr HO4.out hrow)
        have KO6 := Lib.hid ((KO4.out.trans (KeepsOthers.of_grownBy hgr (row_cells HR4.out))).trans (KeepsOthers.setCell z6 ⟨T, 1, none⟩ (.slice p2 (x + 1) c2)))
        dsimp only at J6
        have HS6 := s3_of HH6 HK.out
        clear hrow hgr nb HO4 HR4 J4 KO4 HS4 HH4 HN XS N63 NBY HH6
        refine hK.out _ _ HS6 (fun _ => ?_)
        clear hK K_
        try simp only [Act.put, List.getElem_toArray, List.getElem_cons_zero, List.getElem_cons_succ, List.setIfInBounds_toArray, List.set_cons_zero, List.set_cons_succ]
        refine wpAnyH_take (i := 17) (v := .pointer (some ⟨T, 1, none⟩)) rfl (by kernel_rfl) (by kernel_rfl) (by kernel_rfl) (fun _ _ _ h => h) (Or.inl ⟨by rfl, fun w hSw => ?_⟩) (by assumption) ?_
        · obtain ⟨⟨s0, s1⟩, s2, sl⟩ := hSw; go_simp
        try simp only [Act.put, List.getElem_toArray, List.getElem_cons_zero, List.getElem_cons_succ, List.setIfInBounds_toArray, List.set_cons_zero, List.set_cons_succ]
        refine wpAnyH_ready (rs := [18]) (by kernel_rfl) (by simp) ?_
        refine AllReadyH.cons rfl (fun K_ hK => ?_) AllReadyH.nil
        have t1 := HO6.out.at 1 _ rfl
        have tf := HO6.out.ok 1 (by simp)
        have tl := HO6.out.lt
        go_simp
        clear t1 tf tl
        rw [show z6.setCell ⟨T, 1, none⟩ (.slice p2 (x + 1) c2) = z6.setCells T 1 [.slice p2 (x + 1) c2] from rfl] at KO6 ⊢
        refine hK.out _ _ (s3_of (J6.out.d.resolve_left (by have := HK.out; show n ≠ 0; omega)).2 HK.out) (fun _ => ?_)
        clear hK K_
        try simp only [Act.put, List.getElem_toArray, List.getElem_cons_zero, List.getElem_cons_succ, List.setIfInBounds_toArray, List.set_cons_zero, List.set_cons_succ]
        refine wpAnyH_done (by kernel_rfl) ?_ _
        exact ⟨KO6.out, J6.out⟩
    case hdone =>
      clear JJ
      rintro DD W hD hd hK
      have HJ := Lib.hid hd; have DW := Lib.hid hD; have KD := Lib.hid hK
      clear hd hD hK
      obtain ⟨p1, c1, hO1, hR1⟩ := HJ.out.t
      dsimp only at hO1 hR1
      have cap := row_cap_ hR1
      have TA : TxAt ⟨s, p1, n, c1, G⟩ W := by
        rcases Nat.eq_zero_or_pos n with h0 | h0
        · exact ⟨.inl h0, cap.1, cap.2⟩
        · exact (show RowT ⟨s, p1, n, c1, G⟩ W from ⟨h0, _, hR1⟩).at
      have HTA := Lib.hid TA; have HO := Lib.hid hO1; have HQ := Lib.hid HJ.out.q; have HB := Lib.hid HJ.out.z
      dsimp only at HQ
      have HRW := Lib.hid hR1
      clear TA cap hR1 HJ
      have t0 := hO1.at 0 _ rfl; have t1 := hO1.at 1 _ rfl; have tl := hO1.lt
      clear hO1
      go_wp2_with (fail)
      go_at_call 67
      refine (tCheck_any ⟨s, p1, n, c1, G⟩ W HTA.out).mono ?_
      rintro e W2 ⟨rfl, hb⟩
      have HQ2 := Lib.hid (HQ.out.later hb); have HO2 := Lib.hid (HO.out.later hb); have HB2 := Lib.hid (Below.go HB.out hb); have HTA2 := HTA.out.later hb
      have KD2 : Hid (W2.heap[DD]? = some (.deferred (some []))) := Lib.hid ((hb.block _ (Array.getElem?_eq_some_iff.1 KD.out).1).trans KD.out)
      have RB2 : Hid (Q < v6.heap.size) := Lib.hid OO.out.q.2
      have HRW2 := Lib.hid (row_later HRW.out hb)
      clear hb t0 t1 tl HQ HO HB HTA KD HRW HTA2
      have q0 := HQ2.out.at 0 _ rfl; have qf0 := HQ2.out.ok 0 (by simp); have q1 := HQ2.out.at 1 _ rfl; have qf1 := HQ2.out.ok 1 (by simp); have ql := HQ2.out.lt
      dsimp only
      obtain ⟨z, ez⟩ : ∃ z, z = chkT (s : Int) n G := ⟨_, rfl⟩
      rw [← ez] at HDE ⊢
      by_cases h0 : z = 0
      · subst h0
        have t0 := HO2.out.at 0 _ rfl; have t1 := HO2.out.at 1 _ rfl; have tl := HO2.out.lt
        go_wp2_with (fail)
        clear q0 qf0 q1 qf1 ql t0 t1 tl
        rw [show ((W2.setCell ⟨Q, 0, none⟩ (.int .i64 (s : Int))).setCell ⟨Q, 1, none⟩ (.slice p1 n c1)) = W2.setCells Q 0 [.int .i64 (s : Int), .slice p1 n c1] from rfl]
        have nDQ2 : DD ≠ Q := by
          intro e
          have o := HQ2.out.at 0 _ rfl
          rw [← e] at o
          exact odd_ne ⟨_, KD2.out, rfl⟩ o rfl
        have HQ5 := (show Own Q [.int .i64 (s : Int), .slice p1 n c1] (W2.setCells Q 0 [.int .i64 (s : Int), .slice p1 n c1]) from Own.store HQ2.out rfl)
        have hbt : But Q W2 (W2.setCells Q 0 [.int .i64 (s : Int), .slice p1 n c1]) := But.store
        have KD5 : (W2.setCells Q 0 [.int .i64 (s : Int), .slice p1 n c1]).heap[DD]? = some (.deferred (some [])) := (hbt.2 DD (Array.getElem?_eq_some_iff.1 KD2.out).1 nDQ2).trans KD2.out
        have HB5 : Below w.heap.size w (W2.setCells Q 0 [.int .i64 (s : Int), .slice p1 n c1]) := Below.setCells HB2.out QW.out _ _
        have HR5 := row_but HRW2.out hbt (row_ne HRW2.out RB2.out)
        clear hbt
        generalize W2.setCells Q 0 [.int .i64 (s : Int), .slice p1 n c1] = W5 at *
        have od : Odd DD W5 := ⟨_, KD5, rfl⟩
        refine ⟨by simp, .inl ⟨_, _, rfl, run_takeDeferred KD5, ?_⟩⟩
        have HQ6 := HQ5.odd (o := .deferred none) od
        have HR6 := row_odd (o := .deferred none) HR5 od
        have HB6 := putObj_below (o := .deferred none) HB5 (show w.heap.size ≤ DD by have := W6.out; have := DW.out; omega)
        clear HQ5 HR5 HB5 od KD5
        generalize W5.putObj DD (.deferred none) = W7 at *
        have hL := run_loadVar_mid (P := Tryd.prog) _ Q 0 28 [.int .i64 (s : Int), .slice p1 n c1] _ HQ6.cell Tryd.underlying28 rfl (by kernel_rfl)
        refine ⟨.tuple #[.agg ([.int .i64 (s : Int), .slice p1 n c1] : List Value).toArray, .int .i64 0], res_two Tryd.results57 rfl hL rfl, ?_⟩
        have cap := row_cap_ HR6
        have TA : TxAt ⟨s, p1, n, c1, G⟩ W7 := by
          rcases Nat.eq_zero_or_pos n with h0 | h0
          · exact ⟨.inl h0, cap.1, cap.2⟩
          · exact (show RowT ⟨s, p1, n, c1, G⟩ W7 from ⟨h0, _, HR6⟩).at
        have e1 : dcS F N = s := by unfold dcS; rw [HDE.out, if_pos rfl, HE.out]
        refine ⟨⟨s, p1, n, c1, G⟩, by rw [HDE.out], ⟨TA, ⟨by rw [e1], by rw [e1]; exact EN.out, fun j _ => GG.out j⟩⟩, HB6⟩
      · have hd : (z != 0) = true := by simpa using h0
        go_wp2_with (fail)
        clear q0 qf0 q1 qf1 ql
        rw [show ((W2.setCell ⟨Q, 0, none⟩ (.int .i64 0)).setCell ⟨Q, 1, none⟩ (.slice none 0 0)) = W2.setCells Q 0 [.int .i64 0, .slice none 0 0] from rfl]
        have nDQ2 : DD ≠ Q := by
          intro e
          have o := HQ2.out.at 0 _ rfl
          rw [← e] at o
          exact odd_ne ⟨_, KD2.out, rfl⟩ o rfl
        have HQ5 := (show Own Q [.int .i64 0, .slice none 0 0] (W2.setCells Q 0 [.int .i64 0, .slice none 0 0]) from Own.store HQ2.out rfl)
        have hbt : But Q W2 (W2.setCells Q 0 [.int .i64 0, .slice none 0 0]) := But.store
        have KD5 : (W2.setCells Q 0 [.int .i64 0, .slice none 0 0]).heap[DD]? = some (.deferred (some [])) := (hbt.2 DD (Array.getElem?_eq_some_iff.1 KD2.out).1 nDQ2).trans KD2.out
        have HB5 : Below w.heap.size w (W2.setCells Q 0 [.int .i64 0, .slice none 0 0]) := Below.setCells HB2.out QW.out _ _
        have HR5 := row_but HRW2.out hbt (row_ne HRW2.out RB2.out)
        clear hbt
        generalize W2.setCells Q 0 [.int .i64 0, .slice none 0 0] = W5 at *
        have od : Odd DD W5 := ⟨_, KD5, rfl⟩
        refine ⟨by simp, .inl ⟨_, _, rfl, run_takeDeferred KD5, ?_⟩⟩
        have HQ6 := HQ5.odd (o := .deferred none) od
        have HR6 := row_odd (o := .deferred none) HR5 od
        have HB6 := putObj_below (o := .deferred none) HB5 (show w.heap.size ≤ DD by have := W6.out; have := DW.out; omega)
        clear HQ5 HR5 HB5 od KD5
        generalize W5.putObj DD (.deferred none) = W7 at *
        have hL := run_loadVar_mid (P := Tryd.prog) _ Q 0 28 [.int .i64 0, .slice none 0 0] _ HQ6.cell Tryd.underlying28 rfl (by kernel_rfl)
        refine ⟨.tuple #[.agg ([.int .i64 0, .slice none 0 0] : List Value).toArray, .int .i64 z], res_two Tryd.results57 rfl hL rfl, ?_⟩
        exact ⟨⟨0, none, 0, 0, fun _ => 0⟩, by rw [HDE.out], ⟨⟨.inl rfl, Nat.le_refl _, by decide⟩, tdec_zero (by rw [HDE.out]; exact h0)⟩, HB6⟩
end Go.Proofs.YtokfhhngnpbdkaaDoor

/- ZL -/
namespace Go.Proofs.YtokfhhngnpbdkaaDoor
set_option linter.unusedVariables false
set_option maxRecDepth 2000
set_option linter.unusedSimpArgs false
open Go.RowKit
theorem TREnd_any {S D N T : Nat} {F : Nat → Int} {w : World} (h : RRn w S D F N T) : Calls Tryd.prog 41 #[.pointer (some ⟨S, 0, none⟩)] w fun e w' => e = .returned (.int .i64 (endE N T (erN N T))) ∧ Below w.heap.size w w' := by
  obtain ⟨a, hr, ha⟩ := h
  refine (REnd_any hr).mono ?_
  rintro e w' ⟨he, m, rfl⟩
  refine ⟨?_, below_drewN (Below.refl _ _) _⟩
  by_cases hT : T ≤ N
  · rw [ha hT] at he; exact he
  · rw [he, show erN N T = 4 from if_neg hT]
    rfl
/-- the document's decoder, while its loop goes on -/
structure RdJ (w : World) (Q T S D RB : Nat) (s : Int) (F : Nat → Int) (N : Nat) (G : Nat → Int) (k : Nat) (W : World) : Prop where
  q : Own Q [.int .i64 0, .slice none 0 0] W
  t : ∃ p c, Own T [.int .i64 s, .slice p k c] W ∧ W.ownsRow RB 29 3 (.slice p k c) k (nums .i64 G (k * 3))
  r : RRn W S D F N (1 + k * 3)
  z : Below w.heap.size w W
  b : RB ≤ W.heap.size
theorem endE_le {N t : Nat} (h : N < t) : endE N t (erN N t) = 4 := by
  unfold endE
  rw [show erN N t = 4 from if_neg (by omega), if_pos (by decide)]
theorem dec_ss2 {s : Nat} (h : s ≤ 255) : s * s ≤ 65025 := Nat.mul_le_mul h h
/-- what the loop leaves -/
theorem rdec_end {F : Nat → Int} {N s n k : Nat} (es : sdN F N = s) (en : n = s * s) (hk : k = n ∨ N < 1 + k * 3) (hk2 : k ≤ n) :
    (endE N (1 + k * 3) (erN N (1 + k * 3)) ≠ 0 ∧ tdecE F N = endE N (1 + k * 3) (erN N (1 + k * 3))) ∨ (endE N (1 + k * 3) (erN N (1 + k * 3)) = 0 ∧ k = n ∧ N = 1 + n * 3 ∧ tdecE F N = chkT s n (fun j => F (1 + j))) := by
  have hn : needT F N = 1 + n * 3 := by unfold needT; rw [es, en]
  rcases Nat.lt_or_ge N (1 + n * 3) with h | h
  · have e4 : endE N (1 + k * 3) (erN N (1 + k * 3)) = 4 := endE_le (by omega)
    rw [e4]
    exact .inl ⟨by decide, dec_4 (by omega)⟩
  · obtain rfl : k = n := by omega
    rcases Nat.lt_or_ge (1 + k * 3) N with h3 | h3
    · refine .inl ?_
      rw [dec_5 (by omega)]
      have e5 : endE N (1 + k * 3) (erN N (1 + k * 3)) = 5 := by
        unfold endE erN
        rw [if_pos (show 1 + k * 3 ≤ N by omega), if_neg (by decide), if_pos h3]
      rw [e5]
      exact ⟨by decide, rfl⟩
    · refine .inr ⟨?_, rfl, by omega, ?_⟩
      · unfold endE erN
        rw [if_pos (show 1 + k * 3 ≤ N by omega), if_neg (by decide), if_neg (by omega)]
      · rw [dec_c (by omega), es, ← en]
theorem Own.unde {B b : Nat} {cs : List Value} {W W' : World} (h : Own b cs W) (hb : Below B W W') (hB : b < B) : Own b cs W' where
  lt := Nat.lt_of_lt_of_le h.lt hb.size
  cell := fun j v hv => by rw [hb.cell (p := ⟨b, 0 + j, none⟩) hB]; exact h.cell j v hv
  free := fun j hj => by rw [hb.cell (p := ⟨b, 0 + j, none⟩) hB, hb.frozen (p := ⟨b, 0 + j, none⟩) hB]; exact h.free j hj
theorem RRn.unde {B S D N t : Nat} {F : Nat → Int} {w w' : World} (h : RRn w S D F N t) (hb : Below B w w') (hS : S < B) (hD : D < B) : RRn w' S D F N t := by
  obtain ⟨a, ⟨⟨p, c, h1, h2, h3, h4⟩, hle⟩, ha⟩ := h
  refine ⟨a, ⟨⟨p, c, h1.unde hb hS, ?_, h3, h4⟩, hle⟩, ha⟩
  rcases h2 with h2 | ⟨off, e1, e2, e3⟩
  · exact .inl h2
  · exact .inr ⟨off, e1, e2, e3.below hb hD⟩
theorem leN_w1 (f : Nat → Int) : leN f 1 = f 0 := by unfold leN leN; rw [pw_zero]; omega
theorem rd_at {S : Int} {p : Option Addr} {k c RB : Nat} {G : Nat → Int} {W : World} (h0 : 0 < k) (hr : W.ownsRow RB 29 3 (.slice p k c) k (nums .i64 G (k * 3))) : TxAt ⟨S, p, k, c, G⟩ W := by
  have hc := row_cap_ hr
  rcases hr.2 with ⟨_, h1⟩ | ⟨g, cap, cur, hv, _⟩
  · omega
  · have e : p = some ⟨g, 0, none⟩ := by injection hv
    subst e
    exact ⟨.inr ⟨g, 0, rfl, (row_has' hr).1⟩, hc.1, hc.2⟩
theorem chkT_congr {S : Int} {n : Nat} {f g : Nat → Int} (h : ∀ j, j < n * 3 → f j = g j) : chkT S n f = chkT S n g := by
  have e : allB (okXs f) n = allB (okXs g) n := allB_congr fun i hi => by
    unfold okXs
    rw [h (i * 3) (by omega), h (i * 3 + 1) (by omega), h (i * 3 + 2) (by omega)]
  unfold chkT
  rw [e]
set_option maxHeartbeats 16000000 in
theorem tRDecode_any (q : Option Addr) (N c : Nat) (F : Nat → Int) (hF : ∀ j, j < N → inB (F j)) (hNc : N ≤ c) (hcx : c ≤ 9223372036854775807) (w : World) (hq : Byt w q N F) :
    Calls Tryd.prog 38 #[.slice q N c] w fun e w' => ∃ Z : Txr, e = .returned (.tuple #[.agg #[.int .i64 Z.S, .slice Z.q Z.n Z.c], .int .i64 (tdecE F N)]) ∧ (TxAt Z w' ∧ DecO F N Z) ∧ Below w.heap.size w w' := by
  have HQ0 := Lib.hid hq
  have HQL : Hid (∀ b off, N ≠ 0 → q = some ⟨b, off, none⟩ → b < w.heap.size) := Lib.hid (fun b off hn e => by
    rcases hq with h | ⟨b2, o2, e1, e2⟩
    · exact absurd h hn
    · rw [e] at e1; cases e1; exact e2.lt)
  have c0 := sdN_val hF
  have S0 := Lib.hid (fun S D w h => RNum_nx (S := S) (D := D) (N := N) (t := 0) (F := F) (w := w) 1 1 1 rfl rfl (by decide) (by decide) hF h)
  rw [c0.1] at S0
  obtain ⟨s, es⟩ : ∃ s, sdN F N = s := ⟨_, rfl⟩
  have h255 : s ≤ 255 := by rw [← es]; exact c0.2
  rw [es] at S0
  have hss := dec_ss2 h255
  obtain ⟨n, en⟩ : ∃ n, n = s * s := ⟨_, rfl⟩
  rw [← en] at hss
  obtain ⟨G, eG⟩ : ∃ G, G = (fun j => valN F N (1 + j) 1) := ⟨_, rfl⟩
  have GG : Hid (∀ j, G j = valN F N (1 + j) 1) := Lib.hid fun j => by rw [eG]
  have NX := Lib.hid (fun t S D w h => RNum_nx (S := S) (D := D) (N := N) (t := t) (F := F) (w := w) 1 (t + 1) 1 rfl rfl (by decide) (by decide) hF h)
  have BT := Lib.hid (fun t => show IntKind.i64.wrap (valN F N t 1) = valN F N t 1 from IntWalk.i64_in _ (by have := in_valN hF t 1; have := pw_vals.1; omega))
  have RE := Lib.hid (fun k => rdec_end (N := N) (k := k) es en)
  have HE := Lib.hid es; have EN := Lib.hid en; have HSS := Lib.hid hss; have HNC := Lib.hid hNc; have HCX := Lib.hid hcx
  have HFB := Lib.hid hF
  have ws : IntKind.i64.wrap (s : Int) = (s : Int) := IntWalk.i64_in _ (by omega)
  have wss : IntKind.i64.wrap ((s : Int) * (s : Int)) = (n : Int) := by rw [en, Int.natCast_mul]; refine IntWalk.i64_in _ ?_; rw [← Int.natCast_mul, ← en]; omega
  obtain ⟨i0, hi, hz0, hz1, hz2⟩ := infoX_parts
  clear hq c0 es h255 hss hF en eG hNc hcx
  go_enter Tryd.func38, Tryd.ntmps38
  go_upto_region 1 with fail
  obtain ⟨W0, hW⟩ : ∃ W0, W0 = (w.alloc (.cells #[.int .i64 0, .slice none 0 0] 28)) := ⟨_, rfl⟩
  have hB0 : Below w.heap.size w W0 := hW ▸ (Below.al (Below.refl _ _))
  have HQ : Hid (Own w.heap.size [.int .i64 0, .slice none 0 0] W0) := Lib.hid (hW ▸ (Own.newAt (by simp)))
  rw [← hW]
  clear hW
  obtain ⟨Q, eQ⟩ : ∃ X, X = w.heap.size := ⟨_, rfl⟩
  rw [← eQ] at HQ ⊢
  have QW := Lib.hid (show w.heap.size ≤ Q by omega)
  clear eQ
  have HQ1 := Lib.hid (HQ0.out.later hB0)
  have HB := Lib.hid hB0
  clear HQ0 hB0
  go_upto_region 2 with fail
  obtain ⟨w2, hW⟩ : ∃ w2, w2 = (W0.alloc (.cells #[.slice q N c, .int .i64 0, .int .i64 0] 77)) := ⟨_, rfl⟩
  have hBx : Below W0.heap.size W0 w2 := hW ▸ (Below.al (Below.refl _ _))
  have HS : Hid (Own W0.heap.size ([.slice q N c, .int .i64 0, .int .i64 0]) w2) := Lib.hid (hW ▸ (Own.newAt (by simp)))
  rw [← hW]
  clear hW
  obtain ⟨S, eS⟩ : ∃ X, X = W0.heap.size := ⟨_, rfl⟩
  rw [← eS] at HS ⊢
  have nQS : Q ≠ S := by have := HQ.out.lt; omega
  have SW : Hid (w.heap.size ≤ S) := Lib.hid (by have := HB.out.size; omega)
  clear eS
  obtain ⟨D, hD, hbd⟩ : ∃ D, (D = S ∨ D < w.heap.size) ∧ BytD w2 q N F S D := by
    by_cases h0 : N = 0
    · exact ⟨S, .inl rfl, .inl h0⟩
    · obtain ⟨b, off, e1, e2⟩ := HQ1.out.resolve_left h0
      have hb := HQL.out b off h0 e1
      exact ⟨b, .inr hb, .inr ⟨off, e1, by have := SW.out; omega, e2.later hBx⟩⟩
  have RN : Hid (RRn w2 S D F N 0) := Lib.hid ⟨0, ⟨⟨q, c, by rw [show erN N 0 = 0 from if_pos (Nat.zero_le _)]; exact HS.out, hbd, HNC.out, HCX.out⟩, Nat.zero_le _⟩, fun _ => rfl⟩
  have HDD := Lib.hid hD
  have HQ2 := Lib.hid (HQ.out.later hBx); have HB2 := Lib.hid (Below.go HB.out hBx)
  clear HQ HB HS HQ1 HQL hBx hbd hD
  go_wp2_with (fail)
  go_at_call 39
  refine (S0.out S D _ RN.out).mono ?_
  rintro e w3 ⟨rfl, h1, h2⟩
  have HQ3 := Lib.hid (HQ2.out.but h2 nQS)
  have HB3 := Lib.hid (HB2.out.trans (h2.below.mono SW.out))
  have RN3 := Lib.hid h1
  clear h1 h2 RN HB2 HQ2 S0
  go_upto_region 3 with fail
  obtain ⟨w4, hW⟩ : ∃ W, W = w3.alloc (.cells #[.int .i64 (s : Int), .slice none 0 0] 28) := ⟨_, rfl⟩
  have hb4 : Below w3.heap.size w3 w4 := hW ▸ Below.al (Below.refl _ _)
  have HT4 : Hid (Own w3.heap.size [.int .i64 (s : Int), .slice none 0 0] w4) := Lib.hid (hW ▸ Own.newAt (by simp))
  have HQ4 := Lib.hid (HQ3.out.later hb4); have HB4 := Lib.hid (Below.go HB3.out hb4); have RN4 := Lib.hid (RN3.out.later hb4)
  have TQ : Hid (Q < w3.heap.size ∧ S < w3.heap.size ∧ D < w3.heap.size ∧ w.heap.size ≤ w3.heap.size) := Lib.hid ⟨HQ3.out.lt, RN3.out.lt, (by have := HDD.out; have := RN3.out.lt; have := HB3.out.size; omega), HB3.out.size⟩
  rw [← hW]
  clear hW hb4 HQ3 HB3 RN3 HDD
  obtain ⟨T, eT⟩ : ∃ X, X = w3.heap.size := ⟨_, rfl⟩
  rw [← eT] at HT4 TQ ⊢
  clear eT
  obtain ⟨RB, eB⟩ : ∃ X, X = w4.heap.size := ⟨_, rfl⟩
  have TB : Hid (T < RB) := Lib.hid (by rw [eB]; exact HT4.out.lt)
  have J0 : Hid (RdJ w Q T S D RB s F N G 0 w4) := Lib.hid ⟨HQ4.out, ⟨none, 0, HT4.out, World.ownsRow_nil _ _ _ _⟩, RN4.out, HB4.out, by rw [eB]; exact Nat.le_refl _⟩
  clear eB HQ4 HT4 RN4 HB4
  go_wp2_with (fail)
  go_loopw [6] (fun iv wr => ∃ (k : Nat), k ≤ n ∧ iv = .int .i64 k ∧ Hid (RdJ w Q T S D RB s F N G k wr)) (fun iv _ => (n - (intOf iv).toNat))
  case atStart => exact ⟨0, Nat.zero_le _, rfl, J0⟩
  case round =>
    clear J0
    obtain ⟨k, hk, rfl, HJ⟩ := hrel
    obtain ⟨p1, c1, hO, hR⟩ := HJ.out.t
    have HO := Lib.hid hO; have HR := Lib.hid hR
    obtain ⟨a, hrd, haE⟩ := HJ.out.r
    obtain ⟨p2, c2, hS, _⟩ := hrd.ex
    have t0 := hO.at 0 _ rfl; have tl := hO.lt
    have s2 := hS.at 2 _ rfl; have sl := hS.lt
    clear hO hR hrd hS
    by_cases hlt : k < n
    · have hki : (k : Int) < (n : Int) := by omega
      by_cases he : 1 + k * 3 ≤ N
      · rw [show erN N (1 + k * 3) = 0 from if_pos he] at s2
        have XS0 : Hid (nums .i64 G (k * 3) ++ [.int .i64 (G (k * 3)), .int .i64 (G (k * 3 + 1)), .int .i64 (G (k * 3 + 2))] = nums .i64 G ((k + 1) * 3)) := Lib.hid (by
          rw [show (k + 1) * 3 = k * 3 + 3 by omega]
          refine nums_append .i64 G (fun j => [G (k * 3), G (k * 3 + 1), G (k * 3 + 2)].getD j 0) (k * 3) 3 (fun j hj => ?_)
          match j, hj with
          | 0, _ => rfl
          | 1, _ => rfl
          | 2, _ => rfl)
        have e0 : valN F N (1 + k * 3) 1 = G (k * 3) := (GG.out (k * 3)).symm
        have wx0 := BT.out (1 + k * 3)
        have C0 := Lib.hid (fun w h => NX.out (1 + k * 3) S D w h)
        rw [e0] at wx0 C0
        obtain ⟨x0, ex0⟩ : ∃ z, z = G (k * 3) := ⟨_, rfl⟩
        rw [← ex0] at wx0 C0 XS0
        have e1 : valN F N (1 + k * 3 + 1) 1 = G (k * 3 + 1) := (GG.out (k * 3 + 1)).symm
        have wx1 := BT.out (1 + k * 3 + 1)
        have C1 := Lib.hid (fun w h => NX.out (1 + k * 3 + 1) S D w h)
        rw [e1] at wx1 C1
        obtain ⟨x1, ex1⟩ : ∃ z, z = G (k * 3 + 1) := ⟨_, rfl⟩
        rw [← ex1] at wx1 C1 XS0
        have e2 : valN F N (1 + k * 3 + 1 + 1) 1 = G (k * 3 + 2) := (GG.out (k * 3 + 2)).symm
        have wx2 := BT.out (1 + k * 3 + 1 + 1)
        have C2 := Lib.hid (fun w h => NX.out (1 + k * 3 + 1 + 1) S D w h)
        rw [e2] at wx2 C2
        obtain ⟨x2, ex2⟩ : ∃ z, z = G (k * 3 + 2) := ⟨_, rfl⟩
        rw [← ex2] at wx2 C2 XS0
        have XS := XS0
        clear XS0 e0 e1 e2 ex0 ex1 ex2
        have HLT := Lib.hid hlt
        have N63 := Lib.hid (show k + 1 ≤ maxLen by have := HSS.out; unfold maxLen; omega)
        have NBY := Lib.hid (show (k + 1) * 24 ≤ 140737488355328 by have := HSS.out; omega)
        have wk : IntKind.i64.wrap ((k : Int) + 1) = (k : Int) + 1 := IntWalk.i64_in _ (by have := HSS.out; omega)
        have HQ := Lib.hid HJ.out.q; have HB := Lib.hid HJ.out.z; have HZ := Lib.hid HJ.out.b; have RN := Lib.hid HJ.out.r
        have nTS : T ≠ S := by have := TQ.out; omega
        have nQT : Q ≠ T := by have := TQ.out; omega
        have nST : S ≠ T := nTS.symm
        have nDT : D ≠ T := by have := TQ.out; omega
        have SB : Hid (S < RB) := Lib.hid (by have := TQ.out; have := TB.out; omega)
        have QB : Hid (Q < RB) := Lib.hid (by have := TQ.out; have := TB.out; omega)
        have DB : Hid (D < RB) := Lib.hid (by have := TQ.out; have := TB.out; omega)
        clear haE he hk hlt HJ
        go_wp2_with (fail)
        clear t0 tl s2 sl
        go_at_call 39
        refine (C0.out _ RN.out).mono ?_
        rintro e y0 ⟨rfl, h1, h2⟩
        have HO_ := Lib.hid (HO.out.but h2 nTS); have HQ_ := Lib.hid (HQ.out.but h2 nQS); have HR_ := Lib.hid (row_but HR.out h2 (row_ne HR.out SB.out)); have HB_ := Lib.hid (HB.out.trans (h2.below.mono SW.out)); have HZ_ := Lib.hid (Nat.le_trans HZ.out h2.below.size); have RN_ := Lib.hid h1
        clear HO HQ HR HB HZ RN h1 h2 C0
        have HO := HO_; have HQ := HQ_; have HR := HR_; have HB := HB_; have HZ := HZ_; have RN := RN_
        clear HO_ HQ_ HR_ HB_ HZ_ RN_
        go_wp2_with (fail)
        go_at_call 39
        refine (C1.out _ RN.out).mono ?_
        rintro e y1 ⟨rfl, h1, h2⟩
        have HO_ := Lib.hid (HO.out.but h2 nTS); have HQ_ := Lib.hid (HQ.out.but h2 nQS); have HR_ := Lib.hid (row_but HR.out h2 (row_ne HR.out SB.out)); have HB_ := Lib.hid (HB.out.trans (h2.below.mono SW.out)); have HZ_ := Lib.hid (Nat.le_trans HZ.out h2.below.size); have RN_ := Lib.hid h1
        clear HO HQ HR HB HZ RN h1 h2 C1
        have HO := HO_; have HQ := HQ_; have HR := HR_; have HB := HB_; have HZ := HZ_; have RN := RN_
        clear HO_ HQ_ HR_ HB_ HZ_ RN_
        go_wp2_with (fail)
        go_at_call 39
        refine (C2.out _ RN.out).mono ?_
        rintro e y2 ⟨rfl, h1, h2⟩
        have HO_ := Lib.hid (HO.out.but h2 nTS); have HQ_ := Lib.hid (HQ.out.but h2 nQS); have HR_ := Lib.hid (row_but HR.out h2 (row_ne HR.out SB.out)); have HB_ := Lib.hid (HB.out.trans (h2.below.mono SW.out)); have HZ_ := Lib.hid (Nat.le_trans HZ.out h2.below.size); have RN_ := Lib.hid h1
        clear HO HQ HR HB HZ RN h1 h2 C2
        have HO := HO_; have HQ := HQ_; have HR := HR_; have HB := HB_; have HZ := HZ_; have RN := RN_
        clear HO_ HQ_ HR_ HB_ HZ_ RN_
        have t1 := HO.out.at 1 _ rfl; have tl := HO.out.lt
        have HS2 : Hid (RB ≤ (y2.alloc (.cells #[.int .i64 x0, .int .i64 x1, .int .i64 x2] 29)).heap.size) := Lib.hid (Nat.le_trans HZ.out (Below.al (Below.refl _ _)).size)
        go_wp2_with (at_builtin; refine wpList_append_own _ rfl _ _ 24 rfl RB 29 i0 (.agg #[.int .i64 0, .int .i64 0, .int .i64 0]) 3 24 Tryd.underlying24 hi hz0 hz1 hz2 rfl (by decide) _ k _ rfl (row_later HR.out (Below.al (Below.refl _ _))) ⟨y2.heap.size, 0, none⟩ 1 1 [.int .i64 x0, .int .i64 x1, .int .i64 x2] rfl rfl (Own.newAt (by rfl)).news (by simp [Value.oneCell']) N63.out NBY.out HS2.out ?_; intro v' z6 hrow hgr _; rw [XS.out] at hrow; obtain ⟨p4, c4, rfl, _⟩ := row_form hrow; have o6 := Lib.hid hrow; have og := Lib.hid hgr; have RL := row_later HR.out (Below.al (o := .cells #[.int .i64 x0, .int .i64 x1, .int .i64 x2] 29) (Below.refl y2.heap.size y2)); have B6 := (HO.out.alloc (o := .cells #[.int .i64 x0, .int .i64 x1, .int .i64 x2] 29)).grown hgr (row_ne RL TB.out); have Q6 := Lib.hid ((HQ.out.alloc (o := .cells #[.int .i64 x0, .int .i64 x1, .int .i64 x2] 29)).grown hgr (row_ne RL QB.out)); have h6 : Below RB y2 z6 := Below.grown ((Below.al (Below.refl _ _)).mono HZ.out) hgr HS2.out (fun j hj => row_ge RL j hj); have HB6 := Lib.hid (HB.out.trans (h6.mono (by have := TQ.out; have := TB.out; omega))); have HZ6 := Lib.hid (Nat.le_trans HZ.out h6.size); have RN6 := Lib.hid (RN.out.unde h6 SB.out DB.out); have O6 := Lib.hid B6; have e0 := B6.at 1 _ rfl; have ef := B6.ok 1 (by simp); have el := B6.lt; clear hrow hgr RL B6 h6)
        clear t1 tl e0 ef el HO HQ HR HB HZ RN HS2
        rw [show z6.setCell ⟨T, 1, none⟩ (.slice p4 (k + 1) c4) = z6.setCells T 1 [.slice p4 (k + 1) c4] from rfl]
        have hbm : But T z6 (z6.setCells T 1 [.slice p4 (k + 1) c4]) := But.store
        have JJ : Hid (RdJ w Q T S D RB s F N G (k + 1) (z6.setCells T 1 [.slice p4 (k + 1) c4])) := Lib.hid ⟨Q6.out.but hbm nQT, ⟨p4, c4, (show Own T (over _ 1 [.slice p4 (k + 1) c4]) _ from Own.part O6.out (by simp)), row_but o6.out hbm (row_ne o6.out TB.out)⟩, (show RRn _ S D F N (1 + (k + 1) * 3) by rw [show 1 + (k + 1) * 3 = 1 + k * 3 + 1 + 1 + 1 by omega]; exact RN6.out.far hbm nST nDT), Below.setCells HB6.out (by have := TQ.out; omega) _ _, Nat.le_trans HZ6.out hbm.below.size⟩
        clear hbm O6 o6 og Q6 HB6 HZ6 RN6
        generalize z6.setCells T 1 [.slice p4 (k + 1) c4] = z7 at *
        go_roundw
        case rel => (first | exact ⟨k + 1, HLT.out, by go_num, JJ⟩ | ((repeat apply Exists.intro); exact ⟨⟨k + 1, HLT.out, by go_num, JJ⟩, rfl⟩))
        case measure => (have := HLT.out; simp [intOf]; omega)
      · have HC := RE.out k (.inr (by omega)) hk
        rw [show erN N (1 + k * 3) = 4 from if_neg he] at s2
        have QB : Hid (Q < RB) := Lib.hid (by have := TQ.out; have := TB.out; omega)
        have HQ1 := Lib.hid HJ.out.q; have HB1 := Lib.hid HJ.out.z; have RN := Lib.hid HJ.out.r
        clear HJ haE
        generalize hee : endE N (1 + k * 3) (erN N (1 + k * 3)) = er at HC
        have EE := Lib.hid (TREnd_any RN.out)
        rw [hee] at EE
        clear hee
        go_wp2_with (fail)
        clear t0 tl s2 sl
        go_at_call 41
        refine EE.out.mono ?_
        rintro e u1 ⟨rfl, hb⟩
        have HQ2 := Lib.hid (HQ1.out.later hb); have HO2 := Lib.hid (HO.out.later hb); have HB2 := Lib.hid (Below.go HB1.out hb); have HR2 := Lib.hid (row_later HR.out hb)
        clear hb HQ1 HO HB1 HR RN EE
        rcases HC with ⟨hne, hde⟩ | ⟨rfl, hkn, hN, hde⟩
        · have hd : (er != 0) = true := by simpa using hne
          have q0 := HQ2.out.at 0 _ rfl; have qf0 := HQ2.out.ok 0 (by simp); have q1 := HQ2.out.at 1 _ rfl; have qf1 := HQ2.out.ok 1 (by simp); have ql := HQ2.out.lt
          go_wp2_with (fail)
          clear q0 qf0 q1 qf1 ql
          rw [show ((u1.setCell ⟨Q, 0, none⟩ (.int .i64 0)).setCell ⟨Q, 1, none⟩ (.slice none 0 0)) = u1.setCells Q 0 [.int .i64 0, .slice none 0 0] from rfl]
          have HQ6 := (show Own Q [.int .i64 0, .slice none 0 0] (u1.setCells Q 0 [.int .i64 0, .slice none 0 0]) from Own.store HQ2.out rfl)
          have HB6 : Below w.heap.size w (u1.setCells Q 0 [.int .i64 0, .slice none 0 0]) := Below.setCells HB2.out QW.out _ _
          have HR6 := row_far HR2.out (row_ne HR2.out QB.out) 0 [.int .i64 0, .slice none 0 0]
          generalize u1.setCells Q 0 [.int .i64 0, .slice none 0 0] = W7 at *
          have hL := run_loadVar_mid (P := Tryd.prog) _ Q 0 28 [.int .i64 0, .slice none 0 0] _ HQ6.cell Tryd.underlying28 rfl (by kernel_rfl)
          refine bodyPost_ret (v := .tuple #[.agg ([.int .i64 0, .slice none 0 0] : List Value).toArray, .int .i64 er]) (res_two Tryd.results38 rfl hL rfl) rfl ?_
          exact ⟨⟨0, none, 0, 0, fun _ => 0⟩, by rw [hde], ⟨⟨.inl rfl, Nat.le_refl _, by decide⟩, tdec_zero (by rw [hde]; exact hne)⟩, HB6⟩
        · omega
    · have HC := RE.out k (.inl (by omega)) hk
      have hki : decide ((k : Int) < (n : Int)) = false := decide_eq_false (by omega)
      have QB : Hid (Q < RB) := Lib.hid (by have := TQ.out; have := TB.out; omega)
      have HQ1 := Lib.hid HJ.out.q; have HB1 := Lib.hid HJ.out.z; have RN := Lib.hid HJ.out.r
      clear HJ haE
      generalize hee : endE N (1 + k * 3) (erN N (1 + k * 3)) = er at HC
      have EE := Lib.hid (TREnd_any RN.out)
      rw [hee] at EE
      clear hee
      go_wp2_with (fail)
      clear t0 tl s2 sl
      go_at_call 41
      refine EE.out.mono ?_
      rintro e u1 ⟨rfl, hb⟩
      have HQ2 := Lib.hid (HQ1.out.later hb); have HO2 := Lib.hid (HO.out.later hb); have HB2 := Lib.hid (Below.go HB1.out hb); have HR2 := Lib.hid (row_later HR.out hb)
      clear hb HQ1 HO HB1 HR RN EE
      rcases HC with ⟨hne, hde⟩ | ⟨rfl, hkn, hN, hde⟩
      · have hd : (er != 0) = true := by simpa using hne
        have q0 := HQ2.out.at 0 _ rfl; have qf0 := HQ2.out.ok 0 (by simp); have q1 := HQ2.out.at 1 _ rfl; have qf1 := HQ2.out.ok 1 (by simp); have ql := HQ2.out.lt
        go_wp2_with (fail)
        clear q0 qf0 q1 qf1 ql
        rw [show ((u1.setCell ⟨Q, 0, none⟩ (.int .i64 0)).setCell ⟨Q, 1, none⟩ (.slice none 0 0)) = u1.setCells Q 0 [.int .i64 0, .slice none 0 0] from rfl]
        have HQ6 := (show Own Q [.int .i64 0, .slice none 0 0] (u1.setCells Q 0 [.int .i64 0, .slice none 0 0]) from Own.store HQ2.out rfl)
        have HB6 : Below w.heap.size w (u1.setCells Q 0 [.int .i64 0, .slice none 0 0]) := Below.setCells HB2.out QW.out _ _
        have HR6 := row_far HR2.out (row_ne HR2.out QB.out) 0 [.int .i64 0, .slice none 0 0]
        generalize u1.setCells Q 0 [.int .i64 0, .slice none 0 0] = W7 at *
        have hL := run_loadVar_mid (P := Tryd.prog) _ Q 0 28 [.int .i64 0, .slice none 0 0] _ HQ6.cell Tryd.underlying28 rfl (by kernel_rfl)
        refine bodyPost_ret (v := .tuple #[.agg ([.int .i64 0, .slice none 0 0] : List Value).toArray, .int .i64 er]) (res_two Tryd.results38 rfl hL rfl) rfl ?_
        exact ⟨⟨0, none, 0, 0, fun _ => 0⟩, by rw [hde], ⟨⟨.inl rfl, Nat.le_refl _, by decide⟩, tdec_zero (by rw [hde]; exact hne)⟩, HB6⟩
      · subst hkn
        have GF : Hid (∀ j, j < k * 3 → G j = F (1 + j)) := Lib.hid fun j hj => by
          rw [GG.out]
          unfold valN
          rw [if_pos (by omega)]
          exact leN_w1 _
        have HDE : Hid (tdecE F N = chkT s k G) := Lib.hid (by
          rw [hde]
          exact (chkT_congr fun j hj => GF.out j hj).symm)
        clear hde hN
        have cap := row_cap_ HR2.out
        have TA : TxAt ⟨s, p1, k, c1, G⟩ u1 := by
          rcases Nat.eq_zero_or_pos k with h0 | h0
          · exact ⟨.inl h0, cap.1, cap.2⟩
          · exact rd_at h0 HR2.out
        have HTA := Lib.hid TA
        clear TA cap
        have t0 := HO2.out.at 0 _ rfl; have t1 := HO2.out.at 1 _ rfl; have tl := HO2.out.lt
        go_wp2_with (fail)
        go_at_call 31
        refine (tRCheck_any ⟨s, p1, k, c1, G⟩ u1 HTA.out).mono ?_
        rintro e u2 ⟨rfl, hb⟩
        clear t0 t1 tl HTA
        have HQ3 := Lib.hid (HQ2.out.later hb); have HO3 := Lib.hid (HO2.out.later hb); have HB3 := Lib.hid (Below.go HB2.out hb); have HR3 := Lib.hid (row_later HR2.out hb)
        clear hb HQ2 HO2 HB2 HR2
        have HQ2 := HQ3; have HO2 := HO3; have HB2 := HB3; have HR2 := HR3
        clear HQ3 HO3 HB3 HR3
        dsimp only
        obtain ⟨z, ez⟩ : ∃ z, z = chkT (s : Int) k G := ⟨_, rfl⟩
        rw [← ez] at HDE ⊢
        have hde := HDE.out
        have q0 := HQ2.out.at 0 _ rfl; have qf0 := HQ2.out.ok 0 (by simp); have q1 := HQ2.out.at 1 _ rfl; have qf1 := HQ2.out.ok 1 (by simp); have ql := HQ2.out.lt
        by_cases h0 : z = 0
        · subst h0
          have t0 := HO2.out.at 0 _ rfl; have t1 := HO2.out.at 1 _ rfl; have tl := HO2.out.lt
          clear HDE
          have HDE := Lib.hid hde
          clear hde
          go_wp2_with (fail)
          have hde := HDE.out
          clear t0 t1 tl
          clear q0 qf0 q1 qf1 ql
          rw [show ((u2.setCell ⟨Q, 0, none⟩ (.int .i64 (s : Int))).setCell ⟨Q, 1, none⟩ (.slice p1 k c1)) = u2.setCells Q 0 [.int .i64 (s : Int), .slice p1 k c1] from rfl]
          have HQ6 := (show Own Q [.int .i64 (s : Int), .slice p1 k c1] (u2.setCells Q 0 [.int .i64 (s : Int), .slice p1 k c1]) from Own.store HQ2.out rfl)
          have HB6 : Below w.heap.size w (u2.setCells Q 0 [.int .i64 (s : Int), .slice p1 k c1]) := Below.setCells HB2.out QW.out _ _
          have HR6 := row_far HR2.out (row_ne HR2.out QB.out) 0 [.int .i64 (s : Int), .slice p1 k c1]
          generalize u2.setCells Q 0 [.int .i64 (s : Int), .slice p1 k c1] = W7 at *
          have hL := run_loadVar_mid (P := Tryd.prog) _ Q 0 28 [.int .i64 (s : Int), .slice p1 k c1] _ HQ6.cell Tryd.underlying28 rfl (by kernel_rfl)
          refine bodyPost_ret (v := .tuple #[.agg ([.int .i64 (s : Int), .slice p1 k c1] : List Value).toArray, .int .i64 0]) (res_two Tryd.results38 rfl hL rfl) rfl ?_
          have cap := row_cap_ HR6
          have TA : TxAt ⟨s, p1, k, c1, G⟩ W7 := by
            rcases Nat.eq_zero_or_pos k with h0 | h0
            · exact ⟨.inl h0, cap.1, cap.2⟩
            · exact rd_at h0 HR6
          have e1 : dcS F N = s := by unfold dcS; rw [hde, if_pos rfl, HE.out]
          refine ⟨⟨s, p1, k, c1, G⟩, by rw [hde], ⟨TA, ⟨by rw [e1], by rw [e1]; exact EN.out, fun j hj => ?_⟩⟩, HB6⟩
          exact GF.out j hj
        · have hd : (z != 0) = true := by simpa using h0
          have hne := h0
          clear hde
          go_wp2_with (fail)
          have hde := HDE.out
          clear q0 qf0 q1 qf1 ql
          rw [show ((u2.setCell ⟨Q, 0, none⟩ (.int .i64 0)).setCell ⟨Q, 1, none⟩ (.slice none 0 0)) = u2.setCells Q 0 [.int .i64 0, .slice none 0 0] from rfl]
          have HQ6 := (show Own Q [.int .i64 0, .slice none 0 0] (u2.setCells Q 0 [.int .i64 0, .slice none 0 0]) from Own.store HQ2.out rfl)
          have HB6 : Below w.heap.size w (u2.setCells Q 0 [.int .i64 0, .slice none 0 0]) := Below.setCells HB2.out QW.out _ _
          have HR6 := row_far HR2.out (row_ne HR2.out QB.out) 0 [.int .i64 0, .slice none 0 0]
          generalize u2.setCells Q 0 [.int .i64 0, .slice none 0 0] = W7 at *
          have hL := run_loadVar_mid (P := Tryd.prog) _ Q 0 28 [.int .i64 0, .slice none 0 0] _ HQ6.cell Tryd.underlying28 rfl (by kernel_rfl)
          refine bodyPost_ret (v := .tuple #[.agg ([.int .i64 0, .slice none 0 0] : List Value).toArray, .int .i64 z]) (res_two Tryd.results38 rfl hL rfl) rfl ?_
          exact ⟨⟨0, none, 0, 0, fun _ => 0⟩, by rw [hde], ⟨⟨.inl rfl, Nat.le_refl _, by decide⟩, tdec_zero (by rw [hde]; exact hne)⟩, HB6⟩
end Go.Proofs.YtokfhhngnpbdkaaDoor

/- ZN -/
namespace Go.Proofs.YtokfhhngnpbdkaaDoor
set_option linter.unusedVariables false
set_option maxRecDepth 2000
set_option linter.unusedSimpArgs false
open Go.RowKit
theorem tbyt_take_ {w : World} {q : Option Addr} {n m : Nat} {f : Nat → Int} (h : Byt w q n f) (hm : m ≤ n) : Byt w q m f := by
  by_cases h0 : m = 0
  · exact .inl h0
  · obtain ⟨b, off, h1, h2⟩ := h.resolve_left (by omega)
    exact .inr ⟨b, off, h1, has_take h2 hm⟩
theorem dec_n {F : Nat → Int} {N : Nat} {Z : Txr} (h : DecO F N Z) : Z.n * 3 ≤ N := by
  rw [h.n]
  unfold dcS
  split
  · rename_i h0
    rcases Nat.lt_or_ge N (needT F N) with h1 | h1
    · rw [dec_4 h1] at h0; cases h0
    · unfold needT at h1; omega
  · omega
attribute [local go_sem ↓ high] sliced_head
end Go.Proofs.YtokfhhngnpbdkaaDoor

