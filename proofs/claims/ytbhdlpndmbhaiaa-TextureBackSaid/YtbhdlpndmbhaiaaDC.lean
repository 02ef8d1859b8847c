/- codec: put, of numbers and of signed ones. -/
import Derived.Test.YtbhdlpndmbhaiaaDB
import Derived.Lib.Hide
import Derived.LoopN
import Derived.LoopTactic
import Derived.Deep.Onto
import Derived.Deep.WholeRow
import Derived.Laws.MakeOwn
namespace Go.Proofs.Ytbhdlpndmbhaiaa
set_option linter.unusedVariables false
set_option maxRecDepth 2000
set_option linter.unusedSimpArgs false
open Go.RowKit
attribute [local go_sem] nums_length
/-- a slice that holds f's first n numbers of a kind -/
def Nm (w : World) (k : IntKind) (q : Option Addr) (n : Nat) (f : Nat → Int) : Prop := n = 0 ∨ ∃ b off, q = some ⟨b, off, none⟩ ∧ Has b off (nums k f n) w
theorem Nm.later {w w' : World} {k : IntKind} {q : Option Addr} {n : Nat} {f : Nat → Int} (h : Nm w k q n f) (hb : Below w.heap.size w w') : Nm w' k q n f := by
  rcases h with h | ⟨b, off, h1, h2⟩
  · exact .inl h
  · exact .inr ⟨b, off, h1, h2.later hb⟩
theorem Nm.at {w : World} {k : IntKind} {q : Option Addr} {n i : Nat} {f : Nat → Int} (h : Nm w k q n f) (hi : i < n) : ∃ D o, q = some ⟨D, o, none⟩ ∧ D < w.heap.size ∧ w.cell? ⟨D, o + i, none⟩ = some (.int k (f i)) := by
  obtain ⟨D, o, h1, h2⟩ := h.resolve_left (by omega)
  exact ⟨D, o, h1, h2.lt, h2.at i _ (nums_at _ _ hi)⟩
theorem byt_of_row {w : World} {base n : Nat} {e : TypeId} {q : Option Addr} {m c : Nat} {f : Nat → Int} (h : w.ownsRow base e 1 (.slice q m c) n (nums .u8 f n)) : m = n ∧ Byt w q n f ∧ m ≤ c ∧ c ≤ 9223372036854775807 := by
  obtain ⟨h1, h2⟩ := byt_row h
  subst h1
  exact ⟨rfl, h2, row_cap_ h⟩

set_option maxHeartbeats 8000000 in
theorem PutU_any (q p : Option Addr) (m c n c2 : Nat) (wd : Int) (f g : Nat → Int) (B : Nat) (hg : ∀ k, k < n → 0 ≤ g k ∧ g k ≤ 18446744073709551615) (hmc : m ≤ c) (hc : c ≤ 9223372036854775807) (hnc : n ≤ c2) (hc2 : c2 ≤ 9223372036854775807) (hsz : m + 8 * n ≤ 70368744177664) (w : World) (hB : Has B 0 [.int .i64 wd] w) (hq : Byt w q m f) (hp : Nm w .u64 p n g) :
    Calls Try.prog 41 #[.slice q m c, .int .i64 wd, .slice p n c2, .func (.func 42) #[] #[.pointer (some ⟨B, 0, none⟩)]] w fun e w' => ∃ v, e = .returned (.tuple #[v, .int .i64 (putE fitU wd n g)]) ∧ w'.ownsRow w.heap.size 5 1 v (putL m n wd (putE fitU wd n g)) (nums .u8 (outF f m wd.toNat g) (putL m n wd (putE fitU wd n g))) ∧ Below w.heap.size w w' := by
  have HG := Lib.hid hg; have HMC := Lib.hid hmc; have HC := Lib.hid hc; have HNC := Lib.hid hnc; have HC2 := Lib.hid hc2; have HSZ := Lib.hid hsz; have HQ := Lib.hid hq; have HP := Lib.hid hp; have HB0 := Lib.hid hB
  clear hg hmc hc hnc hc2 hsz hq hp hB
  obtain ⟨i0, hi, hz0, hz1, hz2⟩ := infoB_parts
  by_cases hbad : wd < 1 ∨ 8 < wd
  · have E : putE fitU wd n g = 2 := by unfold putE badW; rw [if_pos (by simpa using hbad)]
    have L0 : putL m n wd 2 = 0 := rfl
    rw [E, L0]
    by_cases h1 : wd < 1
    · clear hbad E
      go_enter Try.func41, Try.ntmps41
      go_wp2_with (fail)
      exact bodyPost_ret (v := .tuple #[.slice none 0 0, .int .i64 2]) (by simp [results, Try.results41, go_sem]) rfl ⟨_, rfl, World.ownsRow_nil _ _ _ _, Below.refl _ _⟩
    · have h8 : 8 < wd := by omega
      clear hbad E
      go_enter Try.func41, Try.ntmps41
      go_wp2_with (fail)
      exact bodyPost_ret (v := .tuple #[.slice none 0 0, .int .i64 2]) (by simp [results, Try.results41, go_sem]) rfl ⟨_, rfl, World.ownsRow_nil _ _ _ _, Below.refl _ _⟩
  · obtain ⟨W, rfl⟩ : ∃ W : Nat, wd = (W : Int) := ⟨wd.toNat, by omega⟩
    have h1 : 1 ≤ W := by omega
    have h8 : W ≤ 8 := by omega
    have g1 : ¬((W : Int) < 1) := by omega
    have g8 : ¬(8 < (W : Int)) := by omega
    have EE : putE fitU (W : Int) n g = if allB (fun k => fitU W (g k)) n then 0 else 3 := by unfold putE badW; rw [if_neg (by simpa using hbad), Int.toNat_natCast]
    rw [EE, Int.toNat_natCast]
    obtain ⟨E, eE⟩ : ∃ E, (if allB (fun k => fitU W (g k)) n then (0 : Int) else 3) = E := ⟨_, rfl⟩
    rw [eE]
    have HE := Lib.hid eE
    have H1 := Lib.hid h1; have H8 := Lib.hid h8
    have kB := HB0.out.at 0 _ rfl
    rw [Nat.add_zero] at kB
    have KB := Lib.hid kB
    clear hbad EE h1 h8 kB eE
    go_enter Try.func41, Try.ntmps41
    go_wp2_with (fail)
    go_loopw [24] (fun iv wr => ∃ (k : Nat), k ≤ n ∧ iv = .int .i64 k ∧ Hid (∀ j, j < k → fitU W (g j) = true) ∧ w = wr) (fun iv _ => (n - (intOf iv).toNat))
    case atStart => exact ⟨0, Nat.zero_le _, rfl, Lib.hid (fun j hj => absurd hj (Nat.not_lt_zero j)), rfl⟩
    case round =>
      obtain ⟨k, hk, rfl, ALL, rfl⟩ := hrel
      by_cases hlt : k < n
      · obtain ⟨D, o, rfl, hD, hcell⟩ := HP.out.at hlt
        have hki : (k : Int) < (n : Int) := by omega
        have k0 : (0 : Int) ≤ (k : Int) := by omega
        have wk : IntKind.i64.wrap ((k : Int) + 1) = (k : Int) + 1 := IntWalk.i64_in _ (by have := HNC.out; have := HC2.out; omega)
        have FT := Lib.hid (FitU_any W (g k) B H1.out H8.out (HG.out k hlt).1 (by have := (HG.out k hlt).2; omega) w KB.out)
        have HLT := Lib.hid hlt
        obtain ⟨x, ex⟩ : ∃ x, g k = x := ⟨_, rfl⟩
        rw [ex] at hcell FT
        have EX := Lib.hid ex
        clear hlt hk ex
        go_wp2_with (fail)
        go_at_call 42
        refine (FT.out).mono ?_
        rintro e w1 ⟨rfl, hw⟩
        obtain rfl : w = w1 := hw.symm
        cases hft : fitU W x with
        | false =>
          have A0 : allB (fun k => fitU W (g k)) n = false := allB_not HLT.out (by rw [EX.out]; exact hft)
          obtain rfl : E = 3 := (by rw [← HE.out, A0]; rfl)
          clear A0 HE
          go_wp2_with (fail)
          exact bodyPost_ret (v := .tuple #[.slice none 0 0, .int .i64 3]) (by simp [results, Try.results41, go_sem]) rfl ⟨_, rfl, World.ownsRow_nil _ _ _ _, Below.refl _ _⟩
        | true =>
          have ALL2 : Hid (∀ j, j < k + 1 → fitU W (g j) = true) := Lib.hid fun j hj => (Nat.lt_succ_iff_lt_or_eq.1 hj).elim (ALL.out j) (fun e => by rw [e, EX.out]; exact hft)
          go_wp2_with (fail)
          go_roundw
          case rel => (first | exact ⟨k + 1, HLT.out, by go_num, ALL2, (by first | rfl | trivial)⟩ | ((repeat apply Exists.intro); exact ⟨⟨k + 1, HLT.out, by go_num, ALL2, (by first | rfl | trivial)⟩, rfl⟩))
          case measure => (have := HLT.out; simp [intOf]; omega)
      · obtain rfl : k = n := by omega
        have A1 : allB (fun j => fitU W (g j)) k = true := allB_iff.2 ALL.out
        obtain rfl : E = 0 := (by rw [← HE.out, A1]; rfl)
        have PL : putL m k (W : Int) 0 = m + W * k := by simp [putL]
        obtain ⟨P, eP⟩ : ∃ P, W * k = P := ⟨_, rfl⟩
        obtain ⟨Q, eQ⟩ : ∃ Q, m + P = Q := ⟨_, rfl⟩
        have P8 : P ≤ 8 * k := by rw [← eP]; exact Nat.mul_le_mul_right _ H8.out
        have w1 : IntKind.i64.wrap ((W : Int) * (k : Int)) = (P : Int) := by rw [show (W : Int) * (k : Int) = ((W * k : Nat) : Int) by push_cast; rfl, eP]; exact IntWalk.i64_in _ (by have := HSZ.out; omega)
        have w2 : IntKind.i64.wrap ((m : Int) + (P : Int)) = (Q : Int) := by rw [IntWalk.i64_in _ (by have := HSZ.out; omega)]; omega
        have q0 : (0 : Int) ≤ (Q : Int) := by omega
        have Q7 : Q ≤ 70368744177664 := by have := HSZ.out; omega
        obtain ⟨W1, hmk, hrow, hgr⟩ := run_make_own (P := Try.prog) w w.heap.size 26 5 i0 (.int .u8 0) 1 Try.underlying26 hi hz0 hz1 .i64 .i64 Q (by rw [hz2]; omega) (by unfold maxLen; omega) (Nat.le_refl _)
        have hB1 : Below w.heap.size w W1 := (Below.refl _ _).grown hgr (Nat.le_refl _) (fun k hk => nomatch hk)
        have HB1 := Lib.hid hB1
        have ROW1 := Lib.hid hrow
        have BY1 := Lib.hid (HQ.out.later hB1)
        have QP := Lib.hid (show m + W * k = Q by rw [eP]; exact eQ)
        have QB := Lib.hid Q7
        have HM0 := Lib.hid (show 0 + m ≤ 140737488355328 by omega)
        clear hrow hgr hB1 hlt hk eP eQ P8 Q7
        go_wp2_with (at_builtin; refine wpList_append_b rfl _ _ rfl w.heap.size _ 0 [] rfl ROW1.out q m c f rfl BY1.out HM0.out HB1.out.size ?_; intro v' w6 hrow hgr; obtain ⟨p', c', rfl, _⟩ := row_form hrow; have o4 := Lib.hid (HB1.out.grown hgr HB1.out.size fun q hq => row_ge ROW1.out q hq); have o6 := Lib.hid hrow; clear hrow hgr)
        have hrow0 : w6.ownsRow w.heap.size 5 1 (.slice p' m c') m (nums .u8 (outF f m W g) m) := by
          have := o6.out
          rw [Nat.zero_add, List.nil_append, nums_congr .u8 (fun j hj => (outF_head f m W g hj).symm)] at this
          exact this
        have ROW0 := Lib.hid hrow0
        have PLH := Lib.hid PL
        clear hrow0 o6 ROW1 BY1 HB1 A1 PL HE
        go_wp2_with (fail)
        go_loopw [12, 45] (fun v iv wq => ∃ (l t : Nat) (p3 : Option Addr) (c3 : Nat), l ≤ k ∧ Hid (t = m + W * l) ∧ v = .slice p3 t c3 ∧ iv = .int .i64 l ∧ Hid (wq.ownsRow w.heap.size 5 1 (.slice p3 t c3) t (nums .u8 (outF f m W g) t)) ∧ Hid (Below w.heap.size w wq)) (fun _ iv _ => (k - (intOf iv).toNat))
        case atStart => exact ⟨0, m, p', c', Nat.zero_le _, Lib.hid rfl, rfl, rfl, ROW0, o4⟩
        case round =>
          clear ROW0 o4
          obtain ⟨l, t, p3, c3, hl, HT, rfl, rfl, ROW, HB⟩ := hrel
          by_cases hlt : l < k
          · obtain ⟨D, o, rfl, hD, hcell⟩ := (HP.out.later HB.out).at hlt
            have hki : (l : Int) < (k : Int) := by omega
            have k0 : (0 : Int) ≤ (l : Int) := by omega
            have wk : IntKind.i64.wrap ((l : Int) + 1) = (l : Int) + 1 := IntWalk.i64_in _ (by have := HNC.out; have := HC2.out; omega)
            obtain ⟨x, ex⟩ : ∃ x, g l = x := ⟨_, rfl⟩
            rw [ex] at hcell
            have EX := Lib.hid ex
            have TB : Hid (t + W ≤ 70368744177664) := Lib.hid (by
              have a1 : W * (l + 1) ≤ W * k := Nat.mul_le_mul_left _ (by omega)
              have a2 := QP.out; have a3 := QB.out; have a4 := HT.out
              rw [Nat.mul_succ] at a1
              omega)
            have HLT := Lib.hid hlt
            clear hl hlt ex
            go_wp2_with (fail)
            go_loopw [12, 50] (fun v jv wq => ∃ (j : Nat) (p3 : Option Addr) (c3 : Nat), j ≤ W ∧ v = .slice p3 (t + j) c3 ∧ jv = .int .i64 j ∧ Hid (wq.ownsRow w.heap.size 5 1 (.slice p3 (t + j) c3) (t + j) (nums .u8 (outF f m W g) (t + j))) ∧ Hid (Below w.heap.size w wq)) (fun _ iv _ => (W - (intOf iv).toNat))
            case atStart => exact ⟨0, p3, c3, Nat.zero_le _, by rw [Nat.add_zero], rfl, Lib.hid (by rw [Nat.add_zero]; exact ROW.out), HB⟩
            case round =>
              clear ROW HB hcell hD
              obtain ⟨j, p4, c4, hj, rfl, rfl, ROW, HB⟩ := hrel
              by_cases hjt : j < W
              · have hji : (j : Int) < (W : Int) := by omega
                have j0 : (0 : Int) ≤ (j : Int) := by omega
                have wj : IntKind.i64.wrap ((j : Int) + 1) = (j : Int) + 1 := IntWalk.i64_in _ (by have := H8.out; omega)
                have wj8 : IntKind.i64.wrap (8 * (j : Int)) = ((8 * j : Nat) : Int) := by rw [IntWalk.i64_in _ (by have := H8.out; omega)]; omega
                obtain ⟨z, ez⟩ : ∃ z : Int, x / 2 ^ (8 * j) % 256 = z := ⟨_, rfl⟩
                have XS : Hid (nums .u8 (outF f m W g) (t + j) ++ [.int .u8 z] = nums .u8 (outF f m W g) (t + (j + 1))) := Lib.hid (nums_append .u8 (outF f m W g) (fun _ => z) (t + j) 1 (fun i hi => by
                  obtain rfl : i = 0 := by omega
                  rw [Nat.add_zero, HT.out, outF_dg f m W g l j hjt, EX.out, dg, pw_two]
                  exact ez))
                have N63 := Lib.hid (show (t + j) + 1 ≤ maxLen by have := TB.out; unfold maxLen; omega)
                have NBY := Lib.hid (show ((t + j) + 1) * 1 ≤ 140737488355328 by have := TB.out; omega)
                have HS2 : Hid (w.heap.size ≤ (wr.alloc (.cells #[.int .u8 z] 5)).heap.size) := Lib.hid (Below.al HB.out).size
                have HJ := Lib.hid hjt
                clear hj hjt
                go_wp2_with (at_builtin; refine wpList_append_own _ rfl _ _ 26 rfl w.heap.size 5 i0 (.int .u8 0) 1 1 Try.underlying26 hi hz0 hz1 hz2 rfl (by decide) _ ((t + j)) _ rfl (row_later ROW.out (Below.al (Below.refl _ _))) ⟨wr.heap.size, 0, none⟩ 1 1 [.int .u8 z] rfl rfl (Own.newAt (by rfl)).news (by intro v hv; cases hv with | head => rfl | tail _ h => nomatch h) N63.out NBY.out HS2.out ?_; intro v' w6 hrow hgr _; obtain ⟨p', c', rfl, _⟩ := row_form hrow; rw [XS.out] at hrow; have o4 := Lib.hid ((Below.al HB.out).grown hgr (Below.al HB.out).size fun q hq => row_ge ROW.out q hq); have o6 := Lib.hid hrow; clear hrow hgr)
                go_roundw
                case rel => (first | exact ⟨j + 1, _, _, HJ.out, rfl, by go_num, o6, o4⟩ | ((repeat apply Exists.intro); exact ⟨⟨j + 1, _, _, HJ.out, rfl, by go_num, o6, o4⟩, rfl⟩))
                case measure => (have := HJ.out; simp [intOf]; omega)
              · obtain rfl : j = W := by omega
                have HT2 : Hid (t + j = m + j * (l + 1)) := Lib.hid (by rw [HT.out, Nat.mul_succ, Nat.add_assoc])
                go_wp2_with (fail)
                go_roundw
                case rel => (first | exact ⟨l + 1, t + j, _, _, HLT.out, HT2, rfl, by go_num, ROW, HB⟩ | ((repeat apply Exists.intro); exact ⟨⟨l + 1, t + j, _, _, HLT.out, HT2, rfl, by go_num, ROW, HB⟩, rfl⟩))
                case measure => (have := HLT.out; simp [intOf]; omega)
          · obtain rfl : l = k := by omega
            have TT : t = putL m l (W : Int) 0 := by rw [PLH.out]; exact HT.out
            go_wp2_with (fail)
            refine bodyPost_ret (v := .tuple #[.slice p3 t c3, .int .i64 0]) (by simp [results, Try.results41, go_sem]) rfl ⟨_, rfl, ?_, HB.out⟩
            rw [← TT]
            exact ROW.out

end Go.Proofs.Ytbhdlpndmbhaiaa
