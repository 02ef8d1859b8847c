/- The document's Sum. -/
import Derived.Test.YtajejlaoompieaaDoorHM
import Derived.Test.YtajejlaoompieaaDoorHH
import Derived.Test.YtajejlaoompieaaDoorHF
import Derived.Lib.Hide
import Derived.LoopN
import Derived.LoopTactic
import Derived.Deep.Onto
import Derived.Deep.WholeRow
import Derived.Laws.OwnMore
import Derived.Great.BuildSlice
namespace Go.Proofs.YtajejlaoompieaaDoor
set_option linter.unusedVariables false
set_option maxRecDepth 2000
set_option linter.unusedSimpArgs false
open Go.RowKit
theorem pad_join (g : Nat → Int) (n : Nat) : nums .u8 g n ++ nums .u8 (padF n) (plen n) = nums .u8 (padded g n) (n + plen n) := by
  rw [nums_congr (f := g) (g := padded g n) .u8 (fun j hj => (if_pos hj).symm)]
  exact nums_append .u8 (padded g n) (padF n) n (plen n) fun j _ => padded_high g n j
attribute [local go_sem] nums_length stU8

set_option maxHeartbeats 8000000 in
theorem RSum_any (q : Option Addr) (n c : Nat) (g : Nat → Int) (hn : n ≤ 100000) (hg : ∀ j, j < n → inB (g j)) (w : World) (hb : Byt w q n g) :
    Calls Tryd.prog 20 #[.slice q n c] w fun e w' => e = .returned (.agg (nums .u8 (sumF g n) 32).toArray) ∧ Below w.heap.size w w' := by
  have HB0 := Lib.hid hb; have IG := Lib.hid hg; have HN := Lib.hid hn
  have e1 : max (n : Int) 0 = ((n : Nat) : Int) := by omega
  have PADC := Lib.hid (fun w => RPad_any (n : Int) n e1 (by have := HN.out; omega) w)
  clear hb hg hn e1
  go_enter Tryd.func20, Tryd.ntmps20
  go_upto_region 1 with fail
  obtain ⟨W0, hW⟩ : ∃ W0, W0 = (w.alloc (.cells #[.int .u8 0, .int .u8 0, .int .u8 0, .int .u8 0, .int .u8 0, .int .u8 0, .int .u8 0, .int .u8 0, .int .u8 0, .int .u8 0, .int .u8 0, .int .u8 0, .int .u8 0, .int .u8 0, .int .u8 0, .int .u8 0, .int .u8 0, .int .u8 0, .int .u8 0, .int .u8 0, .int .u8 0, .int .u8 0, .int .u8 0, .int .u8 0, .int .u8 0, .int .u8 0, .int .u8 0, .int .u8 0, .int .u8 0, .int .u8 0, .int .u8 0, .int .u8 0] 35)) := ⟨_, rfl⟩
  have hB0 : Below w.heap.size w W0 := hW ▸ (Below.al (Below.refl _ _))
  have HR : Hid (Own w.heap.size (nums .u8 (fun _ => 0) 32) W0) := Lib.hid (hW ▸ (show Own w.heap.size (nums .u8 (fun _ => 0) 32) (w.alloc (.cells #[.int .u8 0, .int .u8 0, .int .u8 0, .int .u8 0, .int .u8 0, .int .u8 0, .int .u8 0, .int .u8 0, .int .u8 0, .int .u8 0, .int .u8 0, .int .u8 0, .int .u8 0, .int .u8 0, .int .u8 0, .int .u8 0, .int .u8 0, .int .u8 0, .int .u8 0, .int .u8 0, .int .u8 0, .int .u8 0, .int .u8 0, .int .u8 0, .int .u8 0, .int .u8 0, .int .u8 0, .int .u8 0, .int .u8 0, .int .u8 0, .int .u8 0, .int .u8 0] 35)) from Own.newAt (by simp)))
  rw [← hW]
  clear hW
  obtain ⟨R, eR⟩ : ∃ X, X = w.heap.size := ⟨_, rfl⟩
  rw [← eR] at HR ⊢
  have Rw : w.heap.size ≤ R := by omega
  clear eR
  have BY := Lib.hid (HB0.out.later hB0)
  clear HB0
  go_wp2_with (at_builtin; refine wpList_append_b rfl _ _ rfl W0.heap.size _ 0 [] rfl (World.ownsRow_lit W0 #[] 0 (Nat.le_refl _) (by decide) rfl) q n c g rfl (BY.out.later (Below.al (Below.refl _ _))) (by have := HN.out; omega) (Below.al (Below.refl _ _)).size ?_; intro v' w1 hrow hgr; obtain ⟨p1, c1, rfl, _⟩ := row_form hrow; rw [Nat.zero_add, List.nil_append] at hrow; have hb1 : Below W0.heap.size W0 w1 := (Below.al (o := (.cells #[] 5)) (Below.refl W0.heap.size W0)).grown hgr (by simp) (fun k hk => by cases hk; exact Nat.le_refl _))
  go_at_call 12
  refine (PADC.out _).mono ?_
  rintro e w2 ⟨v2, rfl, hrow2, hb2⟩
  obtain ⟨p2, c2, rfl, _⟩ := row_form hrow2
  have ROW := Lib.hid (row_later hrow hb2)
  have BY2 := Lib.hid (byt_row hrow2).2
  have HBW := Lib.hid (Below.go hb1 hb2)
  clear hrow hrow2 hb1 hb2 hgr PADC BY
  have IP := Lib.hid (fun j => in_padded IG.out j)
  have PW := Lib.hid (plen_whole n)
  have PP_ := Lib.hid (show plen n = 9 + zer n ∧ zer n < 64 from ⟨rfl, zer_lt n⟩)
  have ES : Hid (sumF g n = byteOf (chF (padded g n) ((n + plen n) / 64))) := Lib.hid rfl
  have PJ := Lib.hid (pad_join g n)
  obtain ⟨pg, epg⟩ : ∃ pg, padded g n = pg := ⟨_, rfl⟩
  obtain ⟨N, eN⟩ : ∃ N, n + plen n = N := ⟨_, rfl⟩
  obtain ⟨B, eB⟩ : ∃ B, N / 64 = B := ⟨_, rfl⟩
  rw [epg] at IP PJ ES
  rw [eN] at PJ ES PW
  rw [eB] at ES
  have NB := Lib.hid (show N = 64 * B ∧ N ≤ 100200 ∧ 0 < N by have := PW.out; have := PP_.out; have := HN.out; omega)
  go_wp2_with (at_builtin; refine wpList_append_b rfl _ _ rfl W0.heap.size _ n _ rfl ROW.out p2 (plen n) c2 (padF n) rfl BY2.out (by have := NB.out; omega) HBW.out.size ?_; intro v' w3 hrow hgr; obtain ⟨p3, c3, rfl, _⟩ := row_form hrow; rw [PJ.out, eN] at hrow; have hb3 := HBW.out.grown hgr HBW.out.size (fun k hk => row_ge ROW.out k hk))
  obtain ⟨X, c4, e4, hXb, hXl⟩ := row_blk hrow (by have := NB.out; omega)
  cases e4
  have HX := Lib.hid (row_has hrow).1
  have nXR : X ≠ R := by have := HR.out.lt; omega
  have nRX := Ne.symm nXR
  have HR3 := Lib.hid (HR.out.later hb3)
  have hB3 := Below.go hB0 hb3
  clear hrow hgr hb3 HR hB0 ROW BY2 HBW PJ hXb hXl epg eN eB PW PP_ IG HN
  have HR := HR3; have hB0 := hB3
  clear HR3 hB3
  obtain ⟨W1, hW⟩ : ∃ W1, W1 = (w3.alloc (.cells #[.int .u32 1779033703, .int .u32 3144134277, .int .u32 1013904242, .int .u32 2773480762, .int .u32 1359893119, .int .u32 2600822924, .int .u32 528734635, .int .u32 1541459225] 28)) := ⟨_, rfl⟩
  have hBx : Below w3.heap.size w3 W1 := hW ▸ (Below.al (Below.refl _ _))
  have HH : Hid (Own w3.heap.size (nums .u32 hC 8) W1) := Lib.hid (hW ▸ (show Own w3.heap.size (nums .u32 hC 8) (w3.alloc (.cells #[.int .u32 1779033703, .int .u32 3144134277, .int .u32 1013904242, .int .u32 2773480762, .int .u32 1359893119, .int .u32 2600822924, .int .u32 528734635, .int .u32 1541459225] 28)) from Own.newAt (by simp)))
  rw [← hW]
  clear hW
  obtain ⟨H, eH⟩ : ∃ X, X = w3.heap.size := ⟨_, rfl⟩
  rw [← eH] at HH ⊢
  have Hw : w3.heap.size ≤ H := by omega
  clear eH
  have nHR : H ≠ R := by have := HR.out.lt; omega
  have nRH : R ≠ H := Ne.symm nHR
  have nHX : H ≠ X := by have := HX.out.lt; omega
  have nXH : X ≠ H := Ne.symm nHX
  have Hw2 : w.heap.size ≤ H := by have := hB0.size; omega
  clear Hw
  have Hw := Hw2
  clear Hw2
  have HRk := Lib.hid (HR.out.later hBx)
  have HXk := Lib.hid (HX.out.later hBx)
  clear HR HX
  have HR := HRk
  clear HRk
  have HX := HXk
  clear HXk
  have hB0n := Below.go hB0 hBx
  clear hB0 hBx
  have hB0 := hB0n
  clear hB0n
  go_loopw [5] (fun iv wr => ∃ (k a : Nat), k ≤ B ∧ 64 * k = a ∧ iv = .int .i64 a ∧ Hid (Below w.heap.size w wr) ∧ Hid (Own H (nums .u32 (chF pg k) 8) wr) ∧ Hid (Own R (nums .u8 (fun _ => 0) 32) wr) ∧ Hid (Has X 0 (nums .u8 pg N) wr)) (fun iv _ => (64 * B - (intOf iv).toNat))
  case atStart => exact ⟨0, 0, Nat.zero_le _, rfl, rfl, Lib.hid hB0, HH, HR, HX⟩
  case round =>
    clear HH HR HX hB0
    obtain ⟨k, a, hk, ea, rfl, HB, HH, HR, HX⟩ := hrel
    obtain ⟨a2, ea2⟩ : ∃ a2, a + 64 = a2 := ⟨_, rfl⟩
    have s1 : (a : Int) + 64 = (a2 : Int) := by omega
    have w2_ : IntKind.i64.wrap (a2 : Int) = (a2 : Int) := IntWalk.i64_in _ (by have := NB.out; omega)
    by_cases hlt : k < B
    · have g1 : decide (a2 ≤ N) = true := decide_eq_true (by have := NB.out; omega)
      have g2 : decide ((a2 : Int) ≤ (N : Int)) = true := decide_eq_true (by have := NB.out; omega)
      have A_ := Lib.hid (show 64 * k = a ∧ a + 64 = a2 ∧ a + 64 ≤ N from ⟨ea, ea2, by have := NB.out; omega⟩)
      have HLT := Lib.hid hlt
      have IV := Lib.hid (fun j (_ : j < 8) => in_chF pg k j)
      have CS := Lib.hid (show compF kC (chF pg k) (fun j => pg (a + j)) = chF pg (k + 1) by rw [← ea]; rfl)
      obtain ⟨vf, evf⟩ : ∃ vf, chF pg k = vf := ⟨_, rfl⟩
      rw [evf] at HH IV CS
      obtain ⟨vn, evn⟩ : ∃ vn, chF pg (k + 1) = vn := ⟨_, rfl⟩
      rw [evn] at CS
      have EVN := Lib.hid evn
      have IBK := Lib.hid (fun j (_ : j < 64) => IP.out (a + j))
      have RC := Lib.hid (fun w => CS.out ▸ RCompress_any vf (fun j => pg (a + j)) IV.out IBK.out w)
      clear evf evn hlt hk ea ea2 CS IV IBK
      have hB0 := HB.out
      clear HB
      go_upto_region 7 with fail
      obtain ⟨W2, hW⟩ : ∃ W2, W2 = (wr.alloc (.cells #[.int .u8 0, .int .u8 0, .int .u8 0, .int .u8 0, .int .u8 0, .int .u8 0, .int .u8 0, .int .u8 0, .int .u8 0, .int .u8 0, .int .u8 0, .int .u8 0, .int .u8 0, .int .u8 0, .int .u8 0, .int .u8 0, .int .u8 0, .int .u8 0, .int .u8 0, .int .u8 0, .int .u8 0, .int .u8 0, .int .u8 0, .int .u8 0, .int .u8 0, .int .u8 0, .int .u8 0, .int .u8 0, .int .u8 0, .int .u8 0, .int .u8 0, .int .u8 0, .int .u8 0, .int .u8 0, .int .u8 0, .int .u8 0, .int .u8 0, .int .u8 0, .int .u8 0, .int .u8 0, .int .u8 0, .int .u8 0, .int .u8 0, .int .u8 0, .int .u8 0, .int .u8 0, .int .u8 0, .int .u8 0, .int .u8 0, .int .u8 0, .int .u8 0, .int .u8 0, .int .u8 0, .int .u8 0, .int .u8 0, .int .u8 0, .int .u8 0, .int .u8 0, .int .u8 0, .int .u8 0, .int .u8 0, .int .u8 0, .int .u8 0, .int .u8 0] 29)) := ⟨_, rfl⟩
      have hBx : Below wr.heap.size wr W2 := hW ▸ (Below.al (Below.refl _ _))
      have HBk : Hid (Own wr.heap.size (nums .u8 (upto (fun j => pg (a + j)) 0) 64) W2) := Lib.hid (hW ▸ (show Own wr.heap.size (nums .u8 (upto (fun j => pg (a + j)) 0) 64) (wr.alloc (.cells #[.int .u8 0, .int .u8 0, .int .u8 0, .int .u8 0, .int .u8 0, .int .u8 0, .int .u8 0, .int .u8 0, .int .u8 0, .int .u8 0, .int .u8 0, .int .u8 0, .int .u8 0, .int .u8 0, .int .u8 0, .int .u8 0, .int .u8 0, .int .u8 0, .int .u8 0, .int .u8 0, .int .u8 0, .int .u8 0, .int .u8 0, .int .u8 0, .int .u8 0, .int .u8 0, .int .u8 0, .int .u8 0, .int .u8 0, .int .u8 0, .int .u8 0, .int .u8 0, .int .u8 0, .int .u8 0, .int .u8 0, .int .u8 0, .int .u8 0, .int .u8 0, .int .u8 0, .int .u8 0, .int .u8 0, .int .u8 0, .int .u8 0, .int .u8 0, .int .u8 0, .int .u8 0, .int .u8 0, .int .u8 0, .int .u8 0, .int .u8 0, .int .u8 0, .int .u8 0, .int .u8 0, .int .u8 0, .int .u8 0, .int .u8 0, .int .u8 0, .int .u8 0, .int .u8 0, .int .u8 0, .int .u8 0, .int .u8 0, .int .u8 0, .int .u8 0] 29)) from Own.newAt (by simp)))
      rw [← hW]
      clear hW
      obtain ⟨Bk, eBk⟩ : ∃ X, X = wr.heap.size := ⟨_, rfl⟩
      rw [← eBk] at HBk ⊢
      have Bkw : wr.heap.size ≤ Bk := by omega
      clear eBk
      have nBkR : Bk ≠ R := by have := HR.out.lt; omega
      have nRBk : R ≠ Bk := Ne.symm nBkR
      have nBkX : Bk ≠ X := by have := HX.out.lt; omega
      have nXBk : X ≠ Bk := Ne.symm nBkX
      have nBkH : Bk ≠ H := by have := HH.out.lt; omega
      have nHBk : H ≠ Bk := Ne.symm nBkH
      have Bkw2 : w.heap.size ≤ Bk := by have := hB0.size; omega
      clear Bkw
      have Bkw := Bkw2
      clear Bkw2
      have HRk := Lib.hid (HR.out.later hBx)
      have HXk := Lib.hid (HX.out.later hBx)
      have HHk := Lib.hid (HH.out.later hBx)
      clear HR HX HH
      have HR := HRk
      clear HRk
      have HX := HXk
      clear HXk
      have HH := HHk
      clear HHk
      have hB0n := Below.go hB0 hBx
      clear hB0 hBx
      have hB0 := hB0n
      clear hB0n
      go_wp2_with (fail)
      go_loopw [7] (fun jv wq => ∃ (j : Nat), j ≤ 64 ∧ jv = .int .i64 j ∧ Hid (Below w.heap.size w wq) ∧ Hid (Own Bk (nums .u8 (upto (fun j => pg (a + j)) j) 64) wq) ∧ Hid (Own H (nums .u32 vf 8) wq) ∧ Hid (Own R (nums .u8 (fun _ => 0) 32) wq) ∧ Hid (Has X 0 (nums .u8 pg N) wq)) (fun jv _ => (64 - (intOf jv).toNat))
      case atStart => exact ⟨0, Nat.zero_le _, rfl, Lib.hid hB0, HBk, HH, HR, HX⟩
      case round =>
        clear HBk HH HR HX hB0
        obtain ⟨j, hj, rfl, HB, HBk, HH, HR, HX⟩ := hrel
        by_cases hjt : j < 64
        · obtain ⟨t, et⟩ : ∃ t, a + j = t := ⟨_, rfl⟩
          have htN : t < N := by have := A_.out; omega
          have XC := HX.out.cell t _ (nums_at .u8 pg htN)
          rw [Nat.zero_add] at XC
          have FB := HBk.out.ok j (by rw [nums_length]; exact hjt)
          have CB := HBk.out.at j _ (nums_at .u8 _ hjt)
          have Bl := HBk.out.lt
          have Xl := HX.out.lt
          have XS := upto_step .u8 (fun j => pg (a + j)) j 64 (pg t) (by rw [← et])
          obtain ⟨x, ex⟩ : ∃ x, pg t = x := ⟨_, rfl⟩
          rw [ex] at XC XS
          have s2 : (a : Int) + (j : Int) = (t : Int) := by omega
          have wt : IntKind.i64.wrap (t : Int) = (t : Int) := IntWalk.i64_in _ (by have := NB.out; omega)
          have t0 : (0 : Int) ≤ (t : Int) := by omega
          have tN : (t : Int) < (N : Int) := by omega
          have hji : (j : Int) < 64 := by omega
          have j0 : (0 : Int) ≤ (j : Int) := by omega
          have wj : IntKind.i64.wrap ((j : Int) + 1) = (j : Int) + 1 := IntWalk.i64_in _ (by omega)
          have O1 := Lib.hid (XS ▸ own_set (v := x) HBk.out hjt)
          have O2 := Lib.hid (Own.far (c := Bk) (o := j) (vs := [.int .u8 x]) HH.out nHBk)
          have O3 := Lib.hid (Own.far (c := Bk) (o := j) (vs := [.int .u8 x]) HR.out nRBk)
          have O4 := Lib.hid (Has.far (c := Bk) (o := j) (vs := [.int .u8 x]) HX.out nXBk)
          have O5 := Lib.hid (Below.setCells HB.out Bkw [.int .u8 x] j)
          have HJT := Lib.hid hjt
          clear hjt hj et htN XS ex HBk HH HR HX HB
          go_wp2_with (fail)
          go_roundw
          case rel => (first | exact ⟨j + 1, HJT.out, by go_num, O5, O1, O2, O3, O4⟩ | ((repeat apply Exists.intro); exact ⟨⟨j + 1, HJT.out, by go_num, O5, O1, O2, O3, O4⟩, rfl⟩))
          case measure => (have := HJT.out; simp [intOf]; omega)
        · obtain rfl : j = 64 := by omega
          clear hj hjt
          rw [upto_all] at HBk
          go_upto_region 11 with fail
          refine wp_region_lit ?_
          refine wpList_load_mid rfl 28 _ rfl H 0 rfl (nums .u32 vf 8) _ HH.out.cell Tryd.underlying28 rfl (by kernel_rfl) ?_
          refine wpList_load_mid rfl 29 _ rfl Bk 0 rfl (nums .u8 (fun j => pg (a + j)) 64) _ HBk.out.cell Tryd.underlying29 rfl (by kernel_rfl) ?_
          go_wp2_with (fail)
          go_at_call 15
          refine (RC.out _).mono ?_
          rintro e w5 ⟨rfl, hb⟩
          have HHk := Lib.hid (HH.out.later hb)
          have HRk := Lib.hid (HR.out.later hb)
          have HXk := Lib.hid (HX.out.later hb)
          clear HH HR HX
          have HH := HHk
          clear HHk
          have HR := HRk
          clear HRk
          have HX := HXk
          clear HXk
          have hB5 := Below.go HB.out hb
          have hst := store_nums (P := Tryd.prog) (n := 8) .u32 vn HH.out rfl
          have O1 := Lib.hid (show Own H (nums .u32 (chF pg (k + 1)) 8) (w5.setCells H 0 (nums .u32 vn 8)) by rw [EVN.out]; exact Own.store (vs := nums .u32 vn 8) HH.out rfl)
          have O2 := Lib.hid (Own.far (c := H) (o := 0) (vs := nums .u32 vn 8) HR.out nRH)
          have O3 := Lib.hid (Has.far (c := H) (o := 0) (vs := nums .u32 vn 8) HX.out nXH)
          have O4 := Lib.hid (Below.setCells hB5 Hw (nums .u32 vn 8) 0)
          clear HBk HH HR HX HB hb hB5
          go_wp2_with (fail)
          go_roundw
          case rel => (first | exact ⟨k + 1, a2, HLT.out, (by have := A_.out; omega), by go_num, O4, O1, O2, O3⟩ | ((repeat apply Exists.intro); exact ⟨⟨k + 1, a2, HLT.out, (by have := A_.out; omega), by go_num, O4, O1, O2, O3⟩, rfl⟩))
          case measure => (have := HLT.out; have := A_.out; simp [intOf]; omega)
    · obtain rfl : k = B := by omega
      have g1 : decide (a2 ≤ N) = false := decide_eq_false (by have := NB.out; omega)
      have g2 : decide ((a2 : Int) ≤ (N : Int)) = false := decide_eq_false (by have := NB.out; omega)
      have g3 : ¬ a2 ≤ N := by have := NB.out; omega
      clear hlt hk ea ea2 HX
      obtain ⟨vf, evf⟩ : ∃ vf, chF pg k = vf := ⟨_, rfl⟩
      rw [evf] at HH ES
      clear evf
      have hB0 := HB.out
      clear HB
      go_upto_region 13 with fail
      obtain ⟨W3, hW⟩ : ∃ W3, W3 = (wr.alloc (.cells #[.int .u8 0, .int .u8 0, .int .u8 0, .int .u8 0, .int .u8 0, .int .u8 0, .int .u8 0, .int .u8 0, .int .u8 0, .int .u8 0, .int .u8 0, .int .u8 0, .int .u8 0, .int .u8 0, .int .u8 0, .int .u8 0, .int .u8 0, .int .u8 0, .int .u8 0, .int .u8 0, .int .u8 0, .int .u8 0, .int .u8 0, .int .u8 0, .int .u8 0, .int .u8 0, .int .u8 0, .int .u8 0, .int .u8 0, .int .u8 0, .int .u8 0, .int .u8 0] 35)) := ⟨_, rfl⟩
      have hBx : Below wr.heap.size wr W3 := hW ▸ (Below.al (Below.refl _ _))
      have HU : Hid (Own wr.heap.size (nums .u8 (upto (byteOf vf) 0) 32) W3) := Lib.hid (hW ▸ (show Own wr.heap.size (nums .u8 (upto (byteOf vf) 0) 32) (wr.alloc (.cells #[.int .u8 0, .int .u8 0, .int .u8 0, .int .u8 0, .int .u8 0, .int .u8 0, .int .u8 0, .int .u8 0, .int .u8 0, .int .u8 0, .int .u8 0, .int .u8 0, .int .u8 0, .int .u8 0, .int .u8 0, .int .u8 0, .int .u8 0, .int .u8 0, .int .u8 0, .int .u8 0, .int .u8 0, .int .u8 0, .int .u8 0, .int .u8 0, .int .u8 0, .int .u8 0, .int .u8 0, .int .u8 0, .int .u8 0, .int .u8 0, .int .u8 0, .int .u8 0] 35)) from Own.newAt (by simp)))
      rw [← hW]
      clear hW
      obtain ⟨U_, eU_⟩ : ∃ X, X = wr.heap.size := ⟨_, rfl⟩
      rw [← eU_] at HU ⊢
      have U_w : wr.heap.size ≤ U_ := by omega
      clear eU_
      have nU_R : U_ ≠ R := by have := HR.out.lt; omega
      have nRU_ : R ≠ U_ := Ne.symm nU_R
      have nU_H : U_ ≠ H := by have := HH.out.lt; omega
      have nHU_ : H ≠ U_ := Ne.symm nU_H
      have U_w2 : w.heap.size ≤ U_ := by have := hB0.size; omega
      clear U_w
      have U_w := U_w2
      clear U_w2
      have HRk := Lib.hid (HR.out.later hBx)
      have HHk := Lib.hid (HH.out.later hBx)
      clear HR HH
      have HR := HRk
      clear HRk
      have HH := HHk
      clear HHk
      have hB0n := Below.go hB0 hBx
      clear hB0 hBx
      have hB0 := hB0n
      clear hB0n
      go_wp2_with (fail)
      go_loopw [9] (fun iv wr => ∃ (i : Nat), i ≤ 32 ∧ iv = .int .i64 i ∧ Hid (Below w.heap.size w wr) ∧ Hid (Own H (nums .u32 vf 8) wr) ∧ Hid (Own R (nums .u8 (fun _ => 0) 32) wr) ∧ Hid (Own U_ (nums .u8 (upto (byteOf vf) i) 32) wr)) (fun iv _ => (32 - (intOf iv).toNat))
      case atStart => exact ⟨0, Nat.zero_le _, rfl, Lib.hid hB0, HH, HR, HU⟩
      case round =>
        clear HH HR HU hB0 g1 g2 g3
        obtain ⟨i, hi, rfl, HB, HV, HR, HU⟩ := hrel
        by_cases hlt : i < 32
        · obtain ⟨a, ea⟩ : ∃ a, i / 4 = a := ⟨_, rfl⟩
          obtain ⟨b, eb⟩ : ∃ b, i % 4 = b := ⟨_, rfl⟩
          obtain ⟨p, ep⟩ : ∃ p, 8 * b = p := ⟨_, rfl⟩
          obtain ⟨m, em⟩ : ∃ m, 24 - p = m := ⟨_, rfl⟩
          have VV := HV.out.at a _ (nums_at .u32 vf (show a < 8 by omega))
          have Sl := HV.out.lt
          have FU := HU.out.ok i (by rw [nums_length]; exact hlt)
          have CU := HU.out.at i _ (nums_at .u8 _ hlt)
          have Ul := HU.out.lt
          have E : byteOf vf i = vf a / (2 : Int) ^ m % 256 := by
            unfold byteOf
            rw [ea, eb, ep, em]
            push_cast
            rfl
          obtain ⟨x, ex⟩ : ∃ x, vf a = x := ⟨_, rfl⟩
          rw [ex] at E VV
          obtain ⟨y, ey⟩ : ∃ y, x / (2 : Int) ^ m = y := ⟨_, rfl⟩
          rw [ey] at E
          obtain ⟨z, ez⟩ : ∃ z, y % 256 = z := ⟨_, rfl⟩
          rw [ez] at E
          have gz : IntKind.u8.wrap y = z := (IntKind.wrap_u8' _).trans ez
          have XS := upto_step .u8 (byteOf vf) i 32 z E.symm
          have q1 : (i : Int).tdiv 4 = (a : Int) := tdiv4 _ _ ea
          have q2 : (i : Int).tmod 4 = (b : Int) := tmod4 _ _ eb
          have q1' : (i : Int) / 4 = (a : Int) := by omega
          have q2' : (i : Int) % 4 = (b : Int) := by omega
          have s1_ : (b : Int) * 8 = (p : Int) := by omega
          have s1' : 8 * (b : Int) = (p : Int) := by omega
          have s2 : 24 - (p : Int) = (m : Int) := by omega
          have wa : IntKind.i64.wrap (a : Int) = (a : Int) := IntWalk.i64_in _ (by omega)
          have wb : IntKind.i64.wrap (b : Int) = (b : Int) := IntWalk.i64_in _ (by omega)
          have wp : IntKind.i64.wrap (p : Int) = (p : Int) := IntWalk.i64_in _ (by omega)
          have wm : IntKind.i64.wrap (m : Int) = (m : Int) := IntWalk.i64_in _ (by omega)
          have mm : min m 32 = m := by omega
          have mm2 : min m 64 = m := by omega
          have hii : (i : Int) < 32 := by omega
          have i0 : (0 : Int) ≤ (i : Int) := by omega
          have a0 : (0 : Int) ≤ (a : Int) := by omega
          have a1 : (a : Int) < 8 := by omega
          have m0 : (0 : Int) ≤ (m : Int) := by omega
          have wi : IntKind.i64.wrap ((i : Int) + 1) = (i : Int) + 1 := IntWalk.i64_in _ (by omega)
          have O1 := Lib.hid (XS ▸ own_set (v := z) HU.out hlt)
          have O2 := Lib.hid (Own.far (c := U_) (o := i) (vs := [.int .u8 z]) HV.out nHU_)
          have O3 := Lib.hid (Own.far (c := U_) (o := i) (vs := [.int .u8 z]) HR.out nRU_)
          have O4 := Lib.hid (Below.setCells HB.out U_w [.int .u8 z] i)
          have HLT := Lib.hid hlt
          clear hlt hi ea eb ep em E XS ex HV HR HU HB
          go_wp2_with (fail)
          go_roundw
          case rel => (first | exact ⟨i + 1, HLT.out, by go_num, O4, O2, O3, O1⟩ | ((repeat apply Exists.intro); exact ⟨⟨i + 1, HLT.out, by go_num, O4, O2, O3, O1⟩, rfl⟩))
          case measure => (have := HLT.out; simp [intOf]; omega)
        · obtain rfl : i = 32 := by omega
          clear hlt hi
          rw [upto_all] at HU
          go_upto_region 17 with fail
          have hB0 := HB.out
          refine wp_region_lit ?_
          refine wpList_load_mid rfl 35 _ rfl U_ 0 rfl (nums .u8 (byteOf vf) 32) _ HU.out.cell Tryd.underlying35 rfl (by kernel_rfl) ?_
          refine wpList_store_mid rfl 35 _ _ rfl R 0 (nums .u8 (byteOf vf) 32).toArray rfl rfl HR.out.free (by kernel_rfl) (nums_all _ _ _) ?_
          change wpList _ _ _ [] _ (wr.setCells R 0 (nums .u8 (byteOf vf) 32))
          have HRn : Hid (Own R (nums .u8 (byteOf vf) 32) (wr.setCells R 0 (nums .u8 (byteOf vf) 32))) := Lib.hid (Own.store HR.out (by simp [nums_length]))
          have HUn : Hid (Own U_ (nums .u8 (byteOf vf) 32) (wr.setCells R 0 (nums .u8 (byteOf vf) 32))) := Lib.hid (Own.far (o := 0) (vs := (nums .u8 (byteOf vf) 32)) HU.out nU_R)
          have hB0n : Below w.heap.size w (wr.setCells R 0 (nums .u8 (byteOf vf) 32)) := Below.setCells hB0 Rw (nums .u8 (byteOf vf) 32) 0
          clear HR HU hB0
          generalize (wr.setCells R 0 (nums .u8 (byteOf vf) 32)) = wz at *
          have HR := HRn
          clear HRn
          have HU := HUn
          clear HUn
          have hB0 := hB0n
          clear hB0n
          go_wp2_with (fail)
          rw [ES.out]
          have hL := run_loadVar_mid (P := Tryd.prog) _ R 0 35 (nums .u8 (byteOf vf) 32) _ HR.out.cell Tryd.underlying35 rfl (by kernel_rfl)
          exact bodyPost_ret (v := .agg (nums .u8 (byteOf vf) 32).toArray) (res_cell Tryd.results20 rfl hL) rfl ⟨rfl, hB0⟩
end Go.Proofs.YtajejlaoompieaaDoor
