/- codec: the document's Signed. -/
import Derived.Test.YtnopcgkhoennfaaDE
import Derived.Lib.Hide
import Derived.LoopN
import Derived.LoopTactic
import Derived.Deep.Onto
import Derived.Deep.QuietTactic
import Derived.BigQuiet
namespace Go.Proofs.Ytnopcgkhoennfaa
set_option linter.unusedVariables false
set_option maxRecDepth 2000
set_option linter.unusedSimpArgs false
open Go.RowKit
attribute [local go_sem] nums_length
theorem nm_row {w : World} {base n : Nat} {e : TypeId} {k : IntKind} {q : Option Addr} {m c : Nat} {f : Nat → Int} (h : w.ownsRow base e 1 (.slice q m c) n (nums k f n)) : m = n ∧ Nm w k q n f := by
  rcases h.2 with ⟨h0, rfl⟩ | ⟨g, cap, cur, h0, _, hg, _⟩
  · cases h0; exact ⟨rfl, .inl rfl⟩
  · cases h0; exact ⟨rfl, .inr ⟨g, 0, rfl, (row_has h).1⟩⟩
theorem infoQ : (Try.prog.info? 60).map (fun i => (i.zero, i.size, i.bytes)) = some (some (.int .u64 0), 1, 8) := by kernel_rfl
theorem infoQ_parts : ∃ i, Try.prog.info? 60 = some i ∧ i.zero = some (.int .u64 0) ∧ i.size = 1 ∧ i.bytes = 8 := by
  obtain ⟨i, hi, h⟩ := Option.map_eq_some_iff.1 infoQ
  simp only [Prod.mk.injEq] at h
  exact ⟨i, hi, h.1, h.2.1, h.2.2⟩
/-- what the document writes for a number with a sign -/
def upU (W : Nat) (z : Int) : Int := if z < 0 then pw W + z else z
theorem up_fit (W : Nat) (z : Int) (h : fitS W z = true) : 0 ≤ upU W z ∧ fitU W (upU W z) = true := by
  have hp := pw_pos W
  simp only [fitS, fitU, decide_eq_true_eq] at *
  unfold upU
  by_cases hz : z < 0
  · rw [if_pos hz]; omega
  · rw [if_neg hz]; omega
theorem up_dg (W i : Nat) (z : Int) (h : i < W) : dg (upU W z) i = dg z i := by
  unfold upU
  split
  · exact dg_add z W i h
  · rfl

set_option maxHeartbeats 8000000 in
theorem RSigned_any (q p : Option Addr) (m c n c2 : Nat) (wd : Int) (f g : Nat → Int) (hg : ∀ k, k < n → -9223372036854775808 ≤ g k ∧ g k ≤ 9223372036854775807) (hmc : m ≤ c) (hc : c ≤ 9223372036854775807) (hnc : n ≤ c2) (hc2 : c2 ≤ 9223372036854775807) (hsz : m + 8 * n ≤ 70368744177664) (w : World) (hq : Byt w q m f) (hp : Nm w .i64 p n g) :
    Calls Try.prog 35 #[.slice q m c, .int .i64 wd, .slice p n c2] w fun e w' => ∃ v, e = .returned (.tuple #[v, .int .i64 (putE fitS wd n g)]) ∧ w'.ownsRow w.heap.size 5 1 v (putL m n wd (putE fitS wd n g)) (nums .u8 (outF f m wd.toNat g) (putL m n wd (putE fitS wd n g))) ∧ Below w.heap.size w w' := by
  have HG := Lib.hid hg; have HMC := Lib.hid hmc; have HC := Lib.hid hc; have HNC := Lib.hid hnc; have HC2 := Lib.hid hc2; have HSZ := Lib.hid hsz; have HQ := Lib.hid hq; have HP := Lib.hid hp
  clear hg hmc hc hnc hc2 hsz hq hp
  obtain ⟨j0_, hj, hy0, hy1, hy2⟩ := infoQ_parts
  by_cases hbad : wd < 1 ∨ 8 < wd
  · have E : putE fitS wd n g = 2 := by unfold putE badW; rw [if_pos (by simpa using hbad)]
    have L0 : putL m n wd 2 = 0 := rfl
    rw [E, L0]
    by_cases h1 : wd < 1
    · clear hbad E
      go_enter Try.func35, Try.ntmps35
      go_wp2_with (fail)
      exact bodyPost_ret (v := .tuple #[.slice none 0 0, .int .i64 2]) (by simp [results, Try.results35, go_sem]) rfl ⟨_, rfl, World.ownsRow_nil _ _ _ _, Below.refl _ _⟩
    · have h8 : 8 < wd := by omega
      clear hbad E
      go_enter Try.func35, Try.ntmps35
      go_wp2_with (fail)
      exact bodyPost_ret (v := .tuple #[.slice none 0 0, .int .i64 2]) (by simp [results, Try.results35, go_sem]) rfl ⟨_, rfl, World.ownsRow_nil _ _ _ _, Below.refl _ _⟩
  · obtain ⟨W, rfl⟩ : ∃ W : Nat, wd = (W : Int) := ⟨wd.toNat, by omega⟩
    have h1 : 1 ≤ W := by omega
    have h8 : W ≤ 8 := by omega
    have g1 : ¬((W : Int) < 1) := by omega
    have g8 : ¬(8 < (W : Int)) := by omega
    have EE : putE fitS (W : Int) n g = if allB (fun k => fitS W (g k)) n then 0 else 3 := by unfold putE badW; rw [if_neg (by simpa using hbad), Int.toNat_natCast]
    rw [EE, Int.toNat_natCast]
    obtain ⟨E, eE⟩ : ∃ E, (if allB (fun k => fitS W (g k)) n then (0 : Int) else 3) = E := ⟨_, rfl⟩
    rw [eE]
    have HE := Lib.hid eE
    have H1 := Lib.hid h1; have H8 := Lib.hid h8
    obtain ⟨M, eM⟩ : ∃ M, pw W - 1 = M := ⟨_, rfl⟩
    obtain ⟨H, eH⟩ : ∃ H, M / 2 = H := ⟨_, rfl⟩
    have MO := Lib.hid (fun w => most_any W h8 w)
    rw [eM] at MO
    have ev := pw_even h1
    have pp := pw_pos W
    have pl := pw_le h8
    have EM := Lib.hid eM
    have EH : Hid (pw W = 2 * H + 2) := Lib.hid (by omega)
    have HH : Hid (0 ≤ H ∧ H ≤ 9223372036854775807) := Lib.hid (by omega)
    have t1 : M.tdiv 2 = H := by rw [Int.tdiv_eq_ediv_of_nonneg (by omega)]; exact eH
    have t2 : IntKind.u64.wrap H = H := IntWalk.u64_in _ (by omega)
    have t3 : IntKind.i64.wrap H = H := IntWalk.i64_in _ (by omega)
    have t4 : IntKind.i64.wrap (-H) = -H := IntWalk.i64_in _ (by omega)
    have t5 : IntKind.i64.wrap (-H - 1) = -H - 1 := IntWalk.i64_in _ (by omega)
    clear hbad EE h1 h8 eE eM eH ev pp pl
    go_enter Try.func35, Try.ntmps35
    go_wp2_with (fail)
    go_at_call 55
    refine (MO.out _).mono ?_
    rintro e w1 ⟨rfl, hw⟩
    obtain rfl : w = w1 := hw.symm
    go_wp2_with (fail)
    go_loopw [9, 10] (fun v iv wr => ∃ (k : Nat) (p3 : Option Addr) (c3 : Nat), k ≤ n ∧ Hid (∀ j, j < k → fitS W (g j) = true) ∧ v = .slice p3 k c3 ∧ iv = .int .i64 k ∧ Hid (wr.ownsRow w.heap.size 60 1 (.slice p3 k c3) k (nums .u64 (fun j => upU W (g j)) k)) ∧ Hid (Below w.heap.size w wr)) (fun _ iv _ => (n - (intOf iv).toNat))
    case atStart => exact ⟨0, none, 0, Nat.zero_le _, Lib.hid (fun j hj => absurd hj (Nat.not_lt_zero j)), rfl, rfl, Lib.hid (World.ownsRow_nil _ _ _ _), Lib.hid (Below.refl _ _)⟩
    case round =>
      obtain ⟨k, p3, c3, hk, ALL, rfl, rfl, ROW, HB⟩ := hrel
      by_cases hlt : k < n
      · obtain ⟨D, o, rfl, hD, hcell⟩ := (HP.out.later HB.out).at hlt
        have hki : (k : Int) < (n : Int) := by omega
        have k0 : (0 : Int) ≤ (k : Int) := by omega
        have wk : IntKind.i64.wrap ((k : Int) + 1) = (k : Int) + 1 := IntWalk.i64_in _ (by have := HNC.out; have := HC2.out; omega)
        have XB := Lib.hid (HG.out k hlt)
        obtain ⟨x, ex⟩ : ∃ x, g k = x := ⟨_, rfl⟩
        rw [ex] at hcell XB
        have EX := Lib.hid ex
        have HLT := Lib.hid hlt
        clear hlt hk ex
        by_cases hx1 : H < x
        · have A0 : allB (fun k => fitS W (g k)) n = false := allB_not HLT.out (by rw [EX.out]; unfold fitS; have := EH.out; simp; omega)
          obtain rfl : E = 3 := (by rw [← HE.out, A0]; rfl)
          clear A0 HE
          go_wp2_with (fail)
          exact bodyPost_ret (v := .tuple #[.slice none 0 0, .int .i64 3]) (by simp [results, Try.results35, go_sem]) rfl ⟨_, rfl, World.ownsRow_nil _ _ _ _, HB.out⟩
        · by_cases hx2 : x < -H - 1
          · have A0 : allB (fun k => fitS W (g k)) n = false := allB_not HLT.out (by rw [EX.out]; unfold fitS; have := EH.out; simp; omega)
            obtain rfl : E = 3 := (by rw [← HE.out, A0]; rfl)
            clear A0 HE
            go_wp2_with (fail)
            exact bodyPost_ret (v := .tuple #[.slice none 0 0, .int .i64 3]) (by simp [results, Try.results35, go_sem]) rfl ⟨_, rfl, World.ownsRow_nil _ _ _ _, HB.out⟩
          · have FX : Hid (fitS W x = true) := Lib.hid (by unfold fitS; have := EH.out; simp; omega)
            have ALL2 : Hid (∀ j, j < k + 1 → fitS W (g j) = true) := Lib.hid fun j hj => (Nat.lt_succ_iff_lt_or_eq.1 hj).elim (ALL.out j) (fun e => by rw [e, EX.out]; exact FX.out)
            have N63 := Lib.hid (show k + 1 ≤ maxLen by have := HSZ.out; have := HLT.out; unfold maxLen; omega)
            have NBY := Lib.hid (show (k + 1) * 8 ≤ 140737488355328 by have := HSZ.out; have := HLT.out; omega)
            obtain ⟨y, ey⟩ : ∃ y, upU W x = y := ⟨_, rfl⟩
            have XS : Hid (nums .u64 (fun j => upU W (g j)) k ++ [.int .u64 y] = nums .u64 (fun j => upU W (g j)) (k + 1)) := Lib.hid (nums_append .u64 (fun j => upU W (g j)) (fun _ => y) k 1 (fun i hi => by
              obtain rfl : i = 0 := by omega
              rw [Nat.add_zero, EX.out]
              exact ey))
            have HS2 : Hid (w.heap.size ≤ (wr.alloc (.cells #[.int .u64 y] 60)).heap.size) := Lib.hid (Below.al HB.out).size
            clear ALL
            by_cases hx3 : x < 0
            · have e1 : y = pw W + x := by rw [← ey, upU, if_pos hx3]
              have EH' := EH.out; have HH' := HH.out; have EM' := EM.out
              obtain ⟨y3, e3⟩ : ∃ y3, -(x + 1) = y3 := ⟨_, rfl⟩
              have r1 : IntKind.i64.wrap (x + 1) = x + 1 := IntWalk.i64_in _ (by have := XB.out; omega)
              have r2 : IntKind.i64.wrap (-(x + 1)) = y3 := by rw [e3]; exact IntWalk.i64_in _ (by have := XB.out; omega)
              have r3 : IntKind.u64.wrap y3 = y3 := IntWalk.u64_in _ (by have := XB.out; omega)
              have r4 : IntKind.u64.wrap (M - y3) = y := by rw [IntWalk.u64_in _ (by omega)]; omega
              clear EH' HH' EM' e1 e3 ey
              go_wp2_with (fail)
              go_quiet (first | (go_at_call 55; exact Calls.quiet_of_same (MO.out _)))
              obtain ⟨w3, e3⟩ : ∃ x, x = wr.drewN nq := ⟨_, rfl⟩
              have hBd : Below wr.heap.size wr w3 := e3 ▸ below_drewN (Below.refl _ _) _
              rw [← e3]
              have ROW3 := Lib.hid (row_later ROW.out hBd)
              have HB3 := Lib.hid (Below.go HB.out hBd)
              have HS3 : Hid (w.heap.size ≤ (w3.alloc (.cells #[.int .u64 y] 60)).heap.size) := Lib.hid (Below.al HB3.out).size
              clear e3 hBd hcell hD HB ROW HS2
              go_wp2_with (at_builtin; refine wpList_append_own _ rfl _ _ 59 rfl w.heap.size 60 j0_ (.int .u64 0) 1 8 Try.underlying59 hj hy0 hy1 hy2 rfl (by decide) _ (k) _ rfl (row_later ROW3.out (Below.al (Below.refl _ _))) ⟨w3.heap.size, 0, none⟩ 1 1 [.int .u64 (y)] rfl rfl (Own.newAt (by rfl)).news (by intro v hv; cases hv with | head => rfl | tail _ h => nomatch h) N63.out NBY.out HS3.out ?_; intro v' w6 hrow hgr _; obtain ⟨p', c', rfl, _⟩ := row_form hrow; rw [XS.out] at hrow; have o4 := Lib.hid ((Below.al HB3.out).grown hgr (Below.al HB3.out).size fun q hq => row_ge ROW3.out q hq); have o6 := Lib.hid hrow; clear hrow hgr)
              go_roundw
              case rel => (first | exact ⟨k + 1, _, _, HLT.out, ALL2, rfl, by go_num, o6, o4⟩ | ((repeat apply Exists.intro); exact ⟨⟨k + 1, _, _, HLT.out, ALL2, rfl, by go_num, o6, o4⟩, rfl⟩))
              case measure => (have := HLT.out; simp [intOf]; omega)
            · have e1 : y = x := by rw [← ey, upU, if_neg hx3]
              subst e1
              have r1 : IntKind.u64.wrap y = y := IntWalk.u64_in _ (by have := XB.out; omega)
              clear ey
              go_wp2_with (at_builtin; refine wpList_append_own _ rfl _ _ 59 rfl w.heap.size 60 j0_ (.int .u64 0) 1 8 Try.underlying59 hj hy0 hy1 hy2 rfl (by decide) _ (k) _ rfl (row_later ROW.out (Below.al (Below.refl _ _))) ⟨wr.heap.size, 0, none⟩ 1 1 [.int .u64 (y)] rfl rfl (Own.newAt (by rfl)).news (by intro v hv; cases hv with | head => rfl | tail _ h => nomatch h) N63.out NBY.out HS2.out ?_; intro v' w6 hrow hgr _; obtain ⟨p', c', rfl, _⟩ := row_form hrow; rw [XS.out] at hrow; have o4 := Lib.hid ((Below.al HB.out).grown hgr (Below.al HB.out).size fun q hq => row_ge ROW.out q hq); have o6 := Lib.hid hrow; clear hrow hgr)
              go_roundw
              case rel => (first | exact ⟨k + 1, _, _, HLT.out, ALL2, rfl, by go_num, o6, o4⟩ | ((repeat apply Exists.intro); exact ⟨⟨k + 1, _, _, HLT.out, ALL2, rfl, by go_num, o6, o4⟩, rfl⟩))
              case measure => (have := HLT.out; simp [intOf]; omega)
      · obtain rfl : k = n := by omega
        have A1 : allB (fun j => fitS W (g j)) k = true := allB_iff.2 ALL.out
        obtain rfl : E = 0 := (by rw [← HE.out, A1]; rfl)
        clear A1 HE
        go_wp2_with (fail)
        go_at_call 56
        have GB : ∀ j, j < k → 0 ≤ upU W (g j) ∧ upU W (g j) ≤ 18446744073709551615 := fun j hj => by
          have a := up_fit W (g j) (ALL.out j hj)
          have b := pw_le H8.out
          have c := a.2
          simp only [fitU, decide_eq_true_eq] at c
          exact ⟨a.1, by omega⟩
        have AU : allB (fun j => fitU W (upU W (g j))) k = true := allB_iff.2 fun j hj => (up_fit W (g j) (ALL.out j hj)).2
        have cap := row_cap_ ROW.out
        have E0 : putE fitU (W : Int) k (fun j => upU W (g j)) = 0 := by unfold putE badW; rw [if_neg (by simp; omega), Int.toNat_natCast, AU]; rfl
        have R := RPut_any q p3 m c k c3 (W : Int) f (fun j => upU W (g j)) GB HMC.out HC.out cap.1 cap.2 HSZ.out wr (HQ.out.later HB.out) (nm_row ROW.out).2
        rw [E0, Int.toNat_natCast] at R
        refine R.mono ?_
        rintro e w5 ⟨v, rfl, hrow, hb⟩
        have PL : putL m k (W : Int) 0 = m + W * k := by simp [putL]
        have hrow2 : w5.ownsRow w.heap.size 5 1 v (putL m k (W : Int) 0) (nums .u8 (outF f m W g) (putL m k (W : Int) 0)) := by
          have r := row_base hrow HB.out.size
          rw [PL] at r ⊢
          rw [nums_congr .u8 (fun j hj => outF_congr f f m W k (fun j => upU W (g j)) g (fun _ _ => rfl) (fun l i _ hi => up_dg W i (g l) hi) hj)] at r
          exact r
        have ROW5 := Lib.hid hrow2
        have HB5 := Lib.hid (Below.go HB.out hb)
        clear hrow hrow2 hb PL R E0 GB AU cap
        go_wp2_with (fail)
        exact bodyPost_ret (v := .tuple #[v, .int .i64 0]) (by simp [results, Try.results35, go_sem]) rfl ⟨v, rfl, ROW5.out, HB5.out⟩
end Go.Proofs.Ytnopcgkhoennfaa
