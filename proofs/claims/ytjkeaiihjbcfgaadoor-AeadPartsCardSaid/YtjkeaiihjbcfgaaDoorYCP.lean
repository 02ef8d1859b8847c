/- The document's Stream. -/
import Derived.Test.YtjkeaiihjbcfgaaDoorYQO
import Derived.Test.YtjkeaiihjbcfgaaDoorYCK
import Derived.LoopN
import Derived.LoopTactic
import Derived.Deep.WholeRow
import Derived.Deep.Onto
namespace Go.Proofs.YtjkeaiihjbcfgaaDoor
set_option linter.unusedVariables false
set_option maxRecDepth 2000
set_option linter.unusedSimpArgs false
open Go.RowKit
attribute [local go_sem] nums_length st16 st64
theorem own_tag {w : World} {X T : Nat} {L : List Value} (h : w.heap[X]? = some (.cells L.toArray T (0, 0))) : Own X L w where
  lt := (Array.getElem?_eq_some_iff.1 h).1
  cell := fun j v hv => by rw [Nat.zero_add, cell_of_row w X j L.toArray T (0, 0) h]; simpa using hv
  free := fun j hj => by
    rw [Nat.zero_add, cell_of_row w X j L.toArray T (0, 0) h]
    exact ⟨by simp [hj], frozen_of_row w X j L.toArray T h⟩
theorem tag_ne {w : World} {X T base size n : Nat} {e : TypeId} {cur : Array Value} {v : Value} {xs : List Value} (h : w.heap[X]? = some (.cells cur T (0, 0))) (hr : w.ownsRow base e size v n xs) (ht : T ≠ e) : v.ownBlock ≠ some X := by
  rcases hr.2 with ⟨rfl, _⟩ | ⟨g, cap, cur', rfl, _, hg, _⟩
  · simp [Value.ownBlock]
  · simp only [Value.ownBlock, ne_eq, Option.some.injEq]
    rintro rfl
    rw [hg] at h
    simp only [Option.some.injEq, Obj.cells.injEq] at h
    exact ht h.2.1.symm

set_option maxHeartbeats 8000000 in
theorem RStream_none (kf nf : Nat → Int) (c : Int) (n : Int) (n0 : n ≤ 0) (hk : ∀ i, i < 32 → inB (kf i)) (hn : ∀ i, i < 12 → inB (nf i)) (hc : in32 c) (w : World) :
    Calls Tryd.prog 46 #[(.agg (nums .u8 kf 32).toArray), .int .u32 c, (.agg (nums .u8 nf 12).toArray), .int .i64 n] w fun e w' => ∃ v, e = .returned v ∧ w'.ownsRow w.heap.size 5 1 v 0 (nums .u8 (strF kf c nf) 0) ∧ Below w.heap.size w w' := by
  have FK := Lib.hid hk; have FN := Lib.hid hn; have FC := Lib.hid hc
  clear hk hn hc
  have n1 : decide (65536 < n) = false := decide_eq_false (by omega)
  have n2 : decide (0 < n) = false := decide_eq_false (by omega)
  go_enter Tryd.func46, Tryd.ntmps46
  go_upto_region 1 with fail
  obtain ⟨W0, hW⟩ : ∃ W0, W0 = ((w.alloc (.cells (nums .u8 kf 32).toArray 22)).alloc (.cells (nums .u8 nf 12).toArray 23)) := ⟨_, rfl⟩
  have hB0 : Below w.heap.size w W0 := hW ▸ (Below.al (Below.al (Below.refl _ _)))
  have HK : Hid (Own w.heap.size (nums .u8 kf 32) W0) := Lib.hid (hW ▸ (show Own w.heap.size (nums .u8 kf 32) (w.alloc (.cells (nums .u8 kf 32).toArray 22)) from Own.newAt (by simp)).alloc)
  have HM : Hid (Own (w.heap.size + 1) (nums .u8 nf 12) W0) := Lib.hid (hW ▸ (show Own (w.heap.size + 1) (nums .u8 nf 12) ((w.alloc (.cells (nums .u8 kf 32).toArray 22)).alloc (.cells (nums .u8 nf 12).toArray 23)) from Own.newAt (by simp)))
  rw [← hW]
  clear hW
  obtain ⟨M_, eM_⟩ : ∃ X, X = (w.heap.size + 1) := ⟨_, rfl⟩
  rw [← eM_] at HM ⊢
  have M_w : w.heap.size ≤ M_ := by omega
  obtain ⟨K, eK⟩ : ∃ X, X = w.heap.size := ⟨_, rfl⟩
  rw [← eK] at HK ⊢
  have Kw : w.heap.size ≤ K := by omega
  have nKM_ : K ≠ M_ := by omega
  have nM_K : M_ ≠ K := by omega
  clear eK eM_
  go_wp2_with (fail)
  refine wp_loop_rounds 1 ?_
  rw [rounds_succ]
  go_wp2_with (fail)
  go_ret
  exact ⟨_, rfl, World.ownsRow_nil _ _ _ _, hB0⟩

set_option maxHeartbeats 8000000 in
theorem RStream_some (kf nf : Nat → Int) (c : Int) (N : Nat) (hN : N ≤ 65536) (hk : ∀ i, i < 32 → inB (kf i)) (hn : ∀ i, i < 12 → inB (nf i)) (hc : in32 c) (w : World) :
    Calls Tryd.prog 46 #[(.agg (nums .u8 kf 32).toArray), .int .u32 c, (.agg (nums .u8 nf 12).toArray), .int .i64 (N : Nat)] w fun e w' => ∃ v, e = .returned v ∧ w'.ownsRow w.heap.size 5 1 v N (nums .u8 (strF kf c nf) N) ∧ Below w.heap.size w w' := by
  have FK := Lib.hid hk; have FN := Lib.hid hn; have FC := Lib.hid hc
  clear hk hn hc
  have LN := Lib.hid hN
  have n1 : decide (65536 < (N : Int)) = false := decide_eq_false (by omega)
  clear hN
  obtain ⟨i0, hi, hz0, hz1, hz2⟩ := infoB_parts
  go_enter Tryd.func46, Tryd.ntmps46
  go_upto_region 1 with fail
  obtain ⟨W0, hW⟩ : ∃ W0, W0 = ((w.alloc (.cells (nums .u8 kf 32).toArray 22)).alloc (.cells (nums .u8 nf 12).toArray 23)) := ⟨_, rfl⟩
  have hB0 : Below w.heap.size w W0 := hW ▸ (Below.al (Below.al (Below.refl _ _)))
  have HK : Hid (Own w.heap.size (nums .u8 kf 32) W0) := Lib.hid (hW ▸ (show Own w.heap.size (nums .u8 kf 32) (w.alloc (.cells (nums .u8 kf 32).toArray 22)) from Own.newAt (by simp)).alloc)
  have HM : Hid (Own (w.heap.size + 1) (nums .u8 nf 12) W0) := Lib.hid (hW ▸ (show Own (w.heap.size + 1) (nums .u8 nf 12) ((w.alloc (.cells (nums .u8 kf 32).toArray 22)).alloc (.cells (nums .u8 nf 12).toArray 23)) from Own.newAt (by simp)))
  rw [← hW]
  clear hW
  obtain ⟨M_, eM_⟩ : ∃ X, X = (w.heap.size + 1) := ⟨_, rfl⟩
  rw [← eM_] at HM ⊢
  have M_w : w.heap.size ≤ M_ := by omega
  obtain ⟨K, eK⟩ : ∃ X, X = w.heap.size := ⟨_, rfl⟩
  rw [← eK] at HK ⊢
  have Kw : w.heap.size ≤ K := by omega
  have nKM_ : K ≠ M_ := by omega
  have nM_K : M_ ≠ K := by omega
  clear eK eM_
  have kK : K < W0.heap.size := HK.out.lt
  have kM : M_ < W0.heap.size := HM.out.lt
  have hB00 := Lib.hid hB0.size
  go_wp2_with (fail)
  clear n1
  go_loopw [1, 9, 10] (fun cv v iv wr => ∃ (k L : Nat) (cc : Int) (p : Option Addr) (cp : Nat), (L = 64 * k ∨ L = N) ∧ L ≤ N ∧ L ≤ 64 * k ∧ 64 * k ≤ N + 64 ∧ cv = .int .u32 cc ∧ Hid (cc = (c + (k : Int)) % 4294967296) ∧ v = .slice p L cp ∧ iv = .int .i64 (64 * k : Nat) ∧ Hid (wr.ownsRow W0.heap.size 5 1 (.slice p L cp) L (nums .u8 (strF kf c nf) L)) ∧ Hid (Below w.heap.size w wr) ∧ Hid (Own K (nums .u8 kf 32) wr) ∧ Hid (Own M_ (nums .u8 nf 12) wr) ∧ Hid (W0.heap.size ≤ wr.heap.size)) (fun _ _ iv _ => (N + 64 - (intOf iv).toNat))
  case atStart => exact ⟨0, 0, c, _, _, .inl rfl, Nat.zero_le _, Nat.le_refl _, by omega, rfl, Lib.hid (by have := FC.out; unfold in32 at this; omega), rfl, rfl, Lib.hid (World.ownsRow_nil _ _ _ _), Lib.hid hB0, HK, HM, Lib.hid (Nat.le_refl _)⟩
  case round =>
    clear HK HM hB0
    obtain ⟨k, L, cc, p, cp, hL1, hL2, hL3, hL4, rfl, hcc, rfl, rfl, ROW, HB, HK, HM, HS⟩ := hrel
    obtain ⟨I, eI⟩ : ∃ I, 64 * k = I := ⟨_, rfl⟩
    rw [eI] at hL1 hL3 hL4 ⊢
    by_cases hlt : I < N
    · obtain rfl : L = I := by omega
      have hlti : (L : Int) < (N : Int) := by omega
      have ic : in32 cc := by rw [hcc.out]; unfold in32; omega
      have IC := Lib.hid ic
      obtain ⟨cn, fc⟩ : ∃ z, (cc + 1) % 4294967296 = z := ⟨_, rfl⟩
      have gc : IntKind.u32.wrap (cc + 1) = cn := (IntKind.wrap_u32' _).trans fc
      have hcn := Lib.hid (show cn = (c + ((k + 1 : Nat) : Int)) % 4294967296 by rw [← fc, hcc.out]; omega)
      have EI := Lib.hid eI
      clear ic eI hL1 hL2 hL3 hL4
      go_upto_region 7 with fail
      refine wp_region_lit ?_
      refine wpList_load_mid rfl 22 _ rfl K 0 rfl (nums .u8 kf 32) _ HK.out.cell Tryd.underlying22 rfl (by kernel_rfl) ?_
      refine wpList_move rfl _ rfl ?_
      refine wpList_load_mid rfl 23 _ rfl M_ 0 rfl (nums .u8 nf 12) _ HM.out.cell Tryd.underlying23 rfl (by kernel_rfl) ?_
      go_wp2_with (fail)
      go_at_call 23
      refine (RBlock_any kf nf cc FK.out FN.out IC.out _).mono ?_
      rintro e w5 ⟨rfl, hb⟩
      go_upto_region 8 with fail
      replace ROW := Lib.hid (row_later ROW.out hb)
      have HKk := Lib.hid (HK.out.later hb)
      have HMk := Lib.hid (HM.out.later hb)
      clear HK HM
      have HK := HKk
      clear HKk
      have HM := HMk
      clear HMk
      have hB0 := Below.go HB.out hb
      have hS5 : W0.heap.size ≤ w5.heap.size := Nat.le_trans HS.out hb.size
      clear HB HS hb
      obtain ⟨W5, hW⟩ : ∃ W5, W5 = (w5.alloc (.cells (nums .u8 (blkF kf cc nf) 64).toArray 40)) := ⟨_, rfl⟩
      have hBx : Below w5.heap.size w5 W5 := hW ▸ (Below.al (Below.refl _ _))
      have HX : Hid (Own w5.heap.size (nums .u8 (blkF kf cc nf) 64) W5) := Lib.hid (hW ▸ (show Own w5.heap.size (nums .u8 (blkF kf cc nf) 64) (w5.alloc (.cells (nums .u8 (blkF kf cc nf) 64).toArray 40)) from Own.newAt (by simp)))
      have HXt : Hid (W5.heap[w5.heap.size]? = some (.cells (nums .u8 (blkF kf cc nf) 64).toArray 40 (0, 0))) := Lib.hid (hW ▸ heap_alloc_new w5 _)
      rw [← hW]
      clear hW
      obtain ⟨X, eX⟩ : ∃ X, X = w5.heap.size := ⟨_, rfl⟩
      rw [← eX] at HX HXt ⊢
      have Xw : w5.heap.size ≤ X := by omega
      clear eX
      have nXK : X ≠ K := by have := HK.out.lt; omega
      have nKX : K ≠ X := Ne.symm nXK
      have nXM_ : X ≠ M_ := by have := HM.out.lt; omega
      have nM_X : M_ ≠ X := Ne.symm nXM_
      have Xw2 : w.heap.size ≤ X := by have := hB0.size; omega
      clear Xw
      have Xw := Xw2
      clear Xw2
      have HKk := Lib.hid (HK.out.later hBx)
      have HMk := Lib.hid (HM.out.later hBx)
      clear HK HM
      have HK := HKk
      clear HKk
      have HM := HMk
      clear HMk
      replace ROW := Lib.hid (row_later ROW.out hBx)
      have hS6 : W0.heap.size ≤ W5.heap.size := Nat.le_trans hS5 hBx.size
      have hB0n := Below.go hB0 hBx
      clear hB0 hBx
      have hB0 := hB0n
      clear hB0n
      go_wp2_with (fail)
      have xW : X < W5.heap.size := HX.out.lt
      go_loopw [9, 12] (fun v jv wq => ∃ (j : Nat) (p2 : Option Addr) (cp2 : Nat), j ≤ 64 ∧ L + j ≤ N ∧ v = .slice p2 (L + j) cp2 ∧ jv = .int .i64 j ∧ Hid (wq.ownsRow W0.heap.size 5 1 (.slice p2 (L + j) cp2) (L + j) (nums .u8 (strF kf c nf) (L + j))) ∧ Hid (wq.heap[X]? = some (.cells (nums .u8 (blkF kf cc nf) 64).toArray 40 (0, 0))) ∧ Hid (Below w.heap.size w wq) ∧ Hid (Own K (nums .u8 kf 32) wq) ∧ Hid (Own M_ (nums .u8 nf 12) wq) ∧ Hid (W0.heap.size ≤ wq.heap.size)) (fun _ jv _ => (64 - (intOf jv).toNat))
      case atStart => exact ⟨0, _, _, by omega, by omega, rfl, rfl, ROW, HXt, Lib.hid hB0, HK, HM, Lib.hid hS6⟩
      case round =>
        clear ROW HXt HK HM HX hB0 hS6
        obtain ⟨j, p2, cp2, hj1, hj2, rfl, rfl, ROW, HXt, HB, HK, HM, HS⟩ := hrel
        by_cases hj : j < 64 ∧ L + j < N
        · have hj0 := hj.1
          have hji : (j : Int) < 64 := by omega
          have hjn : (L : Int) + (j : Int) < (N : Int) := by omega
          have hjw : IntKind.i64.wrap ((L : Int) + (j : Int)) = (L : Int) + (j : Int) := IntWalk.i64_in _ (by have := LN.out; omega)
          have j0 : (0 : Int) ≤ (j : Int) := by omega
          have xj := (own_tag HXt.out).at j _ (nums_at _ _ hj.1)
          have XS := Lib.hid (nums_append .u8 (strF kf c nf) (fun _ => blkF kf cc nf j) (L + j) 1 (fun i hi => by rw [show L + j + i = 64 * k + j by have := EI.out; omega, strF_blk kf c nf k j hj.1, hcc.out]))
          rw [show nums .u8 (fun _ => blkF kf cc nf j) 1 = [.int .u8 (blkF kf cc nf j)] from rfl] at XS
          obtain ⟨b, hb⟩ : ∃ z, blkF kf cc nf j = z := ⟨_, rfl⟩
          rw [hb] at xj XS
          clear hb
          have N63 := Lib.hid (show L + j + 1 ≤ maxLen by have := LN.out; unfold maxLen; omega)
          have NBY := Lib.hid (show (L + j + 1) * 1 ≤ 140737488355328 by have := LN.out; omega)
          have hA : Below wr.heap.size wr (wr.alloc (.cells #[.int .u8 b] 5)) := Below.al (Below.refl _ _)
          have HA := Lib.hid hA
          have HS6 := Lib.hid (Nat.le_trans HS.out hA.size)
          have ROWA := Lib.hid (row_later ROW.out hA)
          have HKA := Lib.hid (HK.out.later hA); have HMA := Lib.hid (HM.out.later hA)
          have HBA := Lib.hid (Below.go HB.out hA)
          have HXA := Lib.hid ((hA.block X (Array.getElem?_eq_some_iff.1 HXt.out).1).trans HXt.out)
          have HJ := Lib.hid hj
          clear hj hj1 hj2 hA
          go_wp2_with (at_builtin; refine wpList_append_own _ rfl _ _ 26 rfl W0.heap.size 5 i0 (.int .u8 0) 1 1 Tryd.underlying26 hi hz0 hz1 hz2 rfl (by decide) _ (L + j) _ rfl ROWA.out ⟨wr.heap.size, 0, none⟩ 1 1 [.int .u8 b] rfl rfl ((Own.newAt rfl).news) (by simp [Value.oneCell']) N63.out NBY.out HS6.out ?_; intro v' w6 hrow hgr _; obtain ⟨p', c', rfl, _⟩ := row_form hrow; rw [XS.out] at hrow; have hn1 := row_ne ROWA.out kK; have hn2 := row_ne ROWA.out kM; have hn3 := tag_ne HXA.out ROWA.out (by decide); have o1 := Lib.hid (HKA.out.grown hgr hn1); have o2 := Lib.hid (HMA.out.grown hgr hn2); have o3 := Lib.hid ((hgr.block X (Array.getElem?_eq_some_iff.1 HXA.out).1 hn3.symm).trans HXA.out); have o4 := Lib.hid (HBA.out.grown hgr HBA.out.size fun q hq => by have := row_ge ROWA.out q hq; have := hB00.out; omega); have o5 := Lib.hid (Nat.le_trans HS6.out hgr.size); have o6 := Lib.hid hrow; clear hrow hgr hn1 hn2 hn3)
          go_roundw
          case rel => (first | exact ⟨j + 1, _, _, by omega, by have := HJ.out; omega, rfl, by go_num, o6, o3, o4, o1, o2, o5⟩ | ((repeat apply Exists.intro); exact ⟨⟨j + 1, _, _, by omega, by have := HJ.out; omega, rfl, by go_num, o6, o3, o4, o1, o2, o5⟩, rfl⟩))
          case measure => simp [intOf]; omega
        · have hJ : Hid (L + j = 64 * (k + 1) ∨ L + j = N) := Lib.hid (by have := EI.out; omega)
          have hJ2 := Lib.hid hj1; have hJ3 := Lib.hid hj2
          have w64 : IntKind.i64.wrap ((L : Int) + 64) = (L : Int) + 64 := IntWalk.i64_in _ (by have := LN.out; omega)
          have hjw : IntKind.i64.wrap ((L : Int) + (j : Int)) = (L : Int) + (j : Int) := IntWalk.i64_in _ (by have := LN.out; omega)
          have ei : (((64 * (k + 1) : Nat)) : Int) = (L : Int) + 64 := by have := EI.out; omega
          have EI2 := Lib.hid ei
          have hlt2 := Lib.hid hlt
          have hB2 := Lib.hid HB.out
          by_cases h64 : j < 64
          · have hd : decide ((L : Int) + (j : Int) < (N : Int)) = false := decide_eq_false (by omega)
            have hji : (j : Int) < 64 := by omega
            clear hj hj1 hj2 ei hlt
            go_wp2_with (fail)
            go_roundw
            case rel => (first | exact ⟨k + 1, _, cn, _, _, hJ.out, hJ3.out, by have := EI.out; have := hJ2.out; omega, by have := EI.out; have := hlt2.out; omega, rfl, hcn, rfl, by rw [EI2.out], ROW, HB, HK, HM, HS⟩ | ((repeat apply Exists.intro); exact ⟨⟨k + 1, _, cn, _, _, hJ.out, hJ3.out, by have := EI.out; have := hJ2.out; omega, by have := EI.out; have := hlt2.out; omega, rfl, hcn, rfl, by rw [EI2.out], ROW, HB, HK, HM, HS⟩, rfl⟩))
            case measure => (have := hlt2.out; simp [intOf]; omega)
          · obtain rfl : j = 64 := by omega
            clear hj hj1 hj2 ei hlt h64
            go_wp2_with (fail)
            go_roundw
            case rel => (first | exact ⟨k + 1, _, cn, _, _, hJ.out, hJ3.out, by have := EI.out; have := hJ2.out; omega, by have := EI.out; have := hlt2.out; omega, rfl, hcn, rfl, by rw [EI2.out], ROW, HB, HK, HM, HS⟩ | ((repeat apply Exists.intro); exact ⟨⟨k + 1, _, cn, _, _, hJ.out, hJ3.out, by have := EI.out; have := hJ2.out; omega, by have := EI.out; have := hlt2.out; omega, rfl, hcn, rfl, by rw [EI2.out], ROW, HB, HK, HM, HS⟩, rfl⟩))
            case measure => (have := hlt2.out; simp [intOf]; omega)
    · have eL : L = N := by omega
      subst eL
      have hlti : decide ((I : Int) < (L : Int)) = false := decide_eq_false (by omega)
      go_wp2_with (fail)
      go_ret
      exact ⟨_, rfl, ROW.out.mono hB00.out, HB.out⟩
end Go.Proofs.YtjkeaiihjbcfgaaDoor
