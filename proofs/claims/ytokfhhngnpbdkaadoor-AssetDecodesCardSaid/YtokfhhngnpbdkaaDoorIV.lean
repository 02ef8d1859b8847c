/- asset: the document's bytes of a light. -/
import Derived.Test.YtokfhhngnpbdkaaDoorIT
import Derived.Lib.Hide
import Derived.LoopN
import Derived.LoopTactic
import Derived.Deep.Onto
import Derived.Deep.RegionHeld3
import Derived.Deep.QuietTactic
import Derived.BigQuiet
import Derived.Great.BuildSlice
import Derived.StillTailTactics
import Derived.Lib.SliceRun
import Derived.OrdersHeld
namespace Go.Proofs.YtokfhhngnpbdkaaDoor
set_option linter.unusedVariables false
set_option maxRecDepth 2000
set_option linter.unusedSimpArgs false
open Go.RowKit
theorem RPut_okW (q p : Option Addr) (m c n c2 W N : Nat) (f g : Nat → Int) (eN : m + W * n = N) (h1 : 1 ≤ W) (h8 : W ≤ 8) (hg : ∀ k, k < n → 0 ≤ g k ∧ g k ≤ 4294967295) (hf : ∀ k, k < n → fitU W (g k) = true) (hmc : m ≤ c) (hc : c ≤ 9223372036854775807) (hnc : n ≤ c2) (hc2 : c2 ≤ 9223372036854775807) (hm : m ≤ 100000) (hn : n ≤ 1000) (w : World) (hq : Byt w q m f) (hp : Nm w .u64 p n g) :
    Calls Tryd.prog 50 #[.slice q m c, .int .i64 (W : Int), .slice p n c2] w fun e w' => (∃ v, e = .returned (.tuple #[v, .int .i64 0]) ∧ RowR w' v N (outF f m W g)) ∧ Below w.heap.size w w' := by
  refine (RPut_any q p m c n c2 (W : Int) f g (fun k hk => by have := hg k hk; omega) hmc hc hnc hc2 (by omega) w hq hp).mono ?_
  rintro e w' ⟨v, he, hr, hb⟩
  rw [putE_ok h1 h8 hf] at he hr
  rw [putL_ok, Int.toNat_natCast, eN] at hr
  exact ⟨⟨v, he, RowR.of hr⟩, hb⟩
theorem outF_join {F f : Nat → Int} {m W n k : Nat} {h G : Nat → Int} (hW : 0 < W) (hF : ∀ j, j < m + W * n → F j = outF f m W G j) (hh : ∀ i, i < k → h i = G (n + i)) : ∀ j, j < m + W * (n + k) → outF F (m + W * n) W h j = outF f m W G j := fun j hj => by
  by_cases c : j < m + W * n
  · rw [outF_head _ _ _ _ c]; exact hF j c
  · obtain ⟨d, rfl⟩ : ∃ d, j = m + W * n + d := ⟨j - (m + W * n), by omega⟩
    have e := Nat.div_add_mod d W
    have hr : d % W < W := Nat.mod_lt _ hW
    have hq : d / W < k := Nat.div_lt_of_lt_mul (by rw [Nat.mul_add] at hj; omega)
    have e1 : m + W * n + d = m + W * n + W * (d / W) + d % W := by omega
    have e2 : m + W * n + d = m + W * (n + d / W) + d % W := by rw [Nat.mul_add]; omega
    conv => lhs; rw [e1, outF_dg _ _ _ _ _ _ hr, hh _ hq]
    rw [e2, outF_dg _ _ _ _ _ _ hr]
def lgF0 (l : Nat → Int) : Nat → Int := encG1 l
def lgF1 (l : Nat → Int) : Nat → Int := outF (lgF0 l) 1 4 (fun _ => l 1)
def lgF2 (l : Nat → Int) : Nat → Int := outF (lgF1 l) 5 4 (fun _ => l 2)
def lgF3 (l : Nat → Int) : Nat → Int := outF (lgF2 l) 9 4 (fun _ => l 3)
def lgF4 (l : Nat → Int) : Nat → Int := outF (lgF3 l) 13 2 (vec3 (l 4) (l 5) (l 6))
def lgF5 (l : Nat → Int) : Nat → Int := outF (lgF4 l) 19 2 (vec3 (l 7) (l 8) (l 9))
def lgF6 (l : Nat → Int) : Nat → Int := outF (lgF5 l) 25 2 (vec3 (l 10) (l 11) (l 12))
theorem vec3_eq {a b c : Int} {G : Nat → Int} (h0 : a = G 0) (h1 : b = G 1) (h2 : c = G 2) : ∀ i, i < 3 → vec3 a b c i = G i := fun i hi => by
  match i, hi with
  | 0, _ => exact h0
  | 1, _ => exact h1
  | 2, _ => exact h2
theorem lgF_all (l : Nat → Int) : ∀ j, j < 31 → lgF6 l j = encLg l j := by
  have a1 : ∀ j, j < 1 + 4 * 1 → lgF1 l j = outF (encG1 l) 1 4 (fun i => l (1 + i)) j :=
    outF_join (n := 0) (k := 1) (by decide) (fun j hj => (outF_head _ _ _ _ (by omega)).symm) (fun i hi => by rw [show i = 0 by omega])
  have a2 : ∀ j, j < 1 + 4 * 2 → lgF2 l j = outF (encG1 l) 1 4 (fun i => l (1 + i)) j := outF_join (n := 1) (k := 1) (by decide) a1 (fun i hi => by rw [show i = 0 by omega])
  have a3 : ∀ j, j < 1 + 4 * 3 → lgF3 l j = outF (encG1 l) 1 4 (fun i => l (1 + i)) j := outF_join (n := 2) (k := 1) (by decide) a2 (fun i hi => by rw [show i = 0 by omega])
  have b0 : ∀ j, j < 13 + 2 * 0 → lgF3 l j = outF (encT2 l) 13 2 (fun i => l (4 + i)) j := fun j hj => (a3 j (by omega)).trans (outF_head _ _ _ _ (by omega)).symm
  have b1 : ∀ j, j < 13 + 2 * 3 → lgF4 l j = outF (encT2 l) 13 2 (fun i => l (4 + i)) j := outF_join (n := 0) (k := 3) (by decide) b0 (vec3_eq rfl rfl rfl)
  have b2 : ∀ j, j < 13 + 2 * 6 → lgF5 l j = outF (encT2 l) 13 2 (fun i => l (4 + i)) j := outF_join (n := 3) (k := 3) (by decide) b1 (vec3_eq rfl rfl rfl)
  have b3 : ∀ j, j < 13 + 2 * 9 → lgF6 l j = outF (encT2 l) 13 2 (fun i => l (4 + i)) j := outF_join (n := 6) (k := 3) (by decide) b2 (vec3_eq rfl rfl rfl)
  exact b3
set_option maxHeartbeats 16000000 in
theorem Rbytes_4 (A : Ast) (hz : chkLg A.l = 0) (w : World) : Calls Tryd.prog 33 #[(.agg #[.int .i64 4, .slice A.M.qv A.M.nv A.M.cv, .slice A.M.qu A.M.nu A.M.cu, .slice A.M.qt A.M.nt A.M.ct, .int .i64 A.X.S, .slice A.X.q A.X.n A.X.c, .int .i64 (A.g 0), .int .i64 (A.g 1), .int .i64 (A.g 2), .int .i64 (A.g 3), .int .i64 (A.g 4), .int .i64 (A.l 0), .int .i64 (A.l 1), .int .i64 (A.l 2), .int .i64 (A.l 3), .int .i64 (A.l 4), .int .i64 (A.l 5), .int .i64 (A.l 6), .int .i64 (A.l 7), .int .i64 (A.l 8), .int .i64 (A.l 9), .int .i64 (A.l 10), .int .i64 (A.l 11), .int .i64 (A.l 12)])] w fun e w' => (∃ v, e = .returned v ∧ RowR w' v 31 (encLg A.l)) ∧ Below w.heap.size w w' := by
  obtain ⟨⟨o0, o1, o2, o3⟩, ob, -⟩ := chkLg_zero hz
  unfold lgB on3 at ob
  have r0 : IntKind.u8.wrap (A.l 0) = A.l 0 := IntWalk.u8_in _ (by omega)
  have r1 : IntKind.u64.wrap (A.l 1) = A.l 1 := IntWalk.u64_in _ (by omega)
  have r2 : IntKind.u64.wrap (A.l 2) = A.l 2 := IntWalk.u64_in _ (by omega)
  have r3 : IntKind.u64.wrap (A.l 3) = A.l 3 := IntWalk.u64_in _ (by omega)
  have CL0 : Hid ([Value.int .u8 (A.l 0)] = nums .u8 (lgF0 A.l) 1) := Lib.hid (by
    show _ = [Value.int .u8 (lgF0 A.l 0)]
    unfold lgF0 encG1
    rw [show (0 : Nat) = 0 + 1 * 0 + 0 from rfl, outF_dg _ _ _ _ 0 0 (by decide), dg_0 (by omega)])
  have P0 := Lib.hid (fun q c hc1 hc2 p w hq hp => RPut_okW q p 1 c 1 1 4 5 (lgF0 A.l) (fun _ => A.l 1) rfl (by decide) (by decide) (fun k hk => by omega) (fun k hk => fit_4 (by omega)) hc1 hc2 (by decide) (by decide) (by decide) (by decide) w hq hp)
  rw [show outF (lgF0 A.l) 1 4 (fun _ => A.l 1) = lgF1 A.l from rfl] at P0
  have P1 := Lib.hid (fun q c hc1 hc2 p w hq hp => RPut_okW q p 5 c 1 1 4 9 (lgF1 A.l) (fun _ => A.l 2) rfl (by decide) (by decide) (fun k hk => by omega) (fun k hk => fit_4 (by omega)) hc1 hc2 (by decide) (by decide) (by decide) (by decide) w hq hp)
  rw [show outF (lgF1 A.l) 5 4 (fun _ => A.l 2) = lgF2 A.l from rfl] at P1
  have P2 := Lib.hid (fun q c hc1 hc2 p w hq hp => RPut_okW q p 9 c 1 1 4 13 (lgF2 A.l) (fun _ => A.l 3) rfl (by decide) (by decide) (fun k hk => by omega) (fun k hk => fit_4 (by omega)) hc1 hc2 (by decide) (by decide) (by decide) (by decide) w hq hp)
  rw [show outF (lgF2 A.l) 9 4 (fun _ => A.l 3) = lgF3 A.l from rfl] at P2
  have T0 := Lib.hid (fun q c hc1 hc2 w hq => Point_any q 13 c 19 (lgF3 A.l) (A.l 4) (A.l 5) (A.l 6) rfl (by omega) (by omega) (by omega) hc1 hc2 (by decide) w hq)
  rw [show outF (lgF3 A.l) 13 2 (vec3 (A.l 4) (A.l 5) (A.l 6)) = lgF4 A.l from rfl] at T0
  have T1 := Lib.hid (fun q c hc1 hc2 w hq => Point_any q 19 c 25 (lgF4 A.l) (A.l 7) (A.l 8) (A.l 9) rfl (by omega) (by omega) (by omega) hc1 hc2 (by decide) w hq)
  rw [show outF (lgF4 A.l) 19 2 (vec3 (A.l 7) (A.l 8) (A.l 9)) = lgF5 A.l from rfl] at T1
  have T2 := Lib.hid (fun q c hc1 hc2 w hq => Point_any q 25 c 31 (lgF5 A.l) (A.l 10) (A.l 11) (A.l 12) rfl (by omega) (by omega) (by omega) hc1 hc2 (by decide) w hq)
  rw [show outF (lgF5 A.l) 25 2 (vec3 (A.l 10) (A.l 11) (A.l 12)) = lgF6 A.l from rfl] at T2
  have EQ := Lib.hid (lgF_all A.l)
  clear o0 o1 o2 o3 ob hz
  generalize lgF0 A.l = F0 at *
  generalize lgF1 A.l = F1 at *
  generalize lgF2 A.l = F2 at *
  generalize lgF3 A.l = F3 at *
  generalize lgF4 A.l = F4 at *
  generalize lgF5 A.l = F5 at *
  generalize lgF6 A.l = F6 at *
  generalize encLg A.l = EE at *
  go_enter Tryd.func33, Tryd.ntmps33
  go_upto_region 1 with fail
  obtain ⟨W0, hW⟩ : ∃ W0, W0 = (w.alloc (.cells #[.int .i64 4, .slice A.M.qv A.M.nv A.M.cv, .slice A.M.qu A.M.nu A.M.cu, .slice A.M.qt A.M.nt A.M.ct, .int .i64 A.X.S, .slice A.X.q A.X.n A.X.c, .int .i64 (A.g 0), .int .i64 (A.g 1), .int .i64 (A.g 2), .int .i64 (A.g 3), .int .i64 (A.g 4), .int .i64 (A.l 0), .int .i64 (A.l 1), .int .i64 (A.l 2), .int .i64 (A.l 3), .int .i64 (A.l 4), .int .i64 (A.l 5), .int .i64 (A.l 6), .int .i64 (A.l 7), .int .i64 (A.l 8), .int .i64 (A.l 9), .int .i64 (A.l 10), .int .i64 (A.l 11), .int .i64 (A.l 12)] 37)) := ⟨_, rfl⟩
  have hB0 : Below w.heap.size w W0 := hW ▸ (Below.al (Below.refl _ _))
  have HP : Hid (Own w.heap.size ([.int .i64 4, .slice A.M.qv A.M.nv A.M.cv, .slice A.M.qu A.M.nu A.M.cu, .slice A.M.qt A.M.nt A.M.ct, .int .i64 A.X.S, .slice A.X.q A.X.n A.X.c, .int .i64 (A.g 0), .int .i64 (A.g 1), .int .i64 (A.g 2), .int .i64 (A.g 3), .int .i64 (A.g 4), .int .i64 (A.l 0), .int .i64 (A.l 1), .int .i64 (A.l 2), .int .i64 (A.l 3), .int .i64 (A.l 4), .int .i64 (A.l 5), .int .i64 (A.l 6), .int .i64 (A.l 7), .int .i64 (A.l 8), .int .i64 (A.l 9), .int .i64 (A.l 10), .int .i64 (A.l 11), .int .i64 (A.l 12)]) W0) := Lib.hid (hW ▸ (show Own w.heap.size ([.int .i64 4, .slice A.M.qv A.M.nv A.M.cv, .slice A.M.qu A.M.nu A.M.cu, .slice A.M.qt A.M.nt A.M.ct, .int .i64 A.X.S, .slice A.X.q A.X.n A.X.c, .int .i64 (A.g 0), .int .i64 (A.g 1), .int .i64 (A.g 2), .int .i64 (A.g 3), .int .i64 (A.g 4), .int .i64 (A.l 0), .int .i64 (A.l 1), .int .i64 (A.l 2), .int .i64 (A.l 3), .int .i64 (A.l 4), .int .i64 (A.l 5), .int .i64 (A.l 6), .int .i64 (A.l 7), .int .i64 (A.l 8), .int .i64 (A.l 9), .int .i64 (A.l 10), .int .i64 (A.l 11), .int .i64 (A.l 12)]) (w.alloc (.cells #[.int .i64 4, .slice A.M.qv A.M.nv A.M.cv, .slice A.M.qu A.M.nu A.M.cu, .slice A.M.qt A.M.nt A.M.ct, .int .i64 A.X.S, .slice A.X.q A.X.n A.X.c, .int .i64 (A.g 0), .int .i64 (A.g 1), .int .i64 (A.g 2), .int .i64 (A.g 3), .int .i64 (A.g 4), .int .i64 (A.l 0), .int .i64 (A.l 1), .int .i64 (A.l 2), .int .i64 (A.l 3), .int .i64 (A.l 4), .int .i64 (A.l 5), .int .i64 (A.l 6), .int .i64 (A.l 7), .int .i64 (A.l 8), .int .i64 (A.l 9), .int .i64 (A.l 10), .int .i64 (A.l 11), .int .i64 (A.l 12)] 37)) from Own.newAt (by simp)))
  rw [← hW]
  clear hW
  obtain ⟨P, eP⟩ : ∃ X, X = w.heap.size := ⟨_, rfl⟩
  rw [← eP] at HP ⊢
  have Pw : w.heap.size ≤ P := by omega
  clear eP
  have oP := HP.out
  have P0 := oP.at 0 _ rfl
  have P11 := oP.at 11 _ rfl
  have P12 := oP.at 12 _ rfl
  have P13 := oP.at 13 _ rfl
  have P14 := oP.at 14 _ rfl
  have P15 := oP.at 15 _ rfl
  have P16 := oP.at 16 _ rfl
  have P17 := oP.at 17 _ rfl
  have P18 := oP.at 18 _ rfl
  have P19 := oP.at 19 _ rfl
  have P20 := oP.at 20 _ rfl
  have P21 := oP.at 21 _ rfl
  have P22 := oP.at 22 _ rfl
  have P23 := oP.at 23 _ rfl
  have Pl := oP.lt
  clear oP
  go_upto_region 17 with (refine wpList_store_mid rfl 35 _ _ rfl _ 0 #[.int .i64 (A.l 0), .int .i64 (A.l 1), .int .i64 (A.l 2), .int .i64 (A.l 3), .int .i64 (A.l 4), .int .i64 (A.l 5), .int .i64 (A.l 6), .int .i64 (A.l 7), .int .i64 (A.l 8), .int .i64 (A.l 9), .int .i64 (A.l 10), .int .i64 (A.l 11), .int .i64 (A.l 12)] rfl rfl (there_newn (cs := [.int .i64 0, .int .i64 0, .int .i64 0, .int .i64 0, .int .i64 0, .int .i64 0, .int .i64 0, .int .i64 0, .int .i64 0, .int .i64 0, .int .i64 0, .int .i64 0, .int .i64 0]) (by simp)) (by kernel_rfl) (by simp [Value.oneCell']) ?_; (obtain ⟨W2, hW2⟩ : ∃ W, W = (W0.alloc (.cells #[.int .i64 0, .int .i64 0, .int .i64 0, .int .i64 0, .int .i64 0, .int .i64 0, .int .i64 0, .int .i64 0, .int .i64 0, .int .i64 0, .int .i64 0, .int .i64 0, .int .i64 0] 35)).setCells W0.heap.size 0 ([.int .i64 (A.l 0), .int .i64 (A.l 1), .int .i64 (A.l 2), .int .i64 (A.l 3), .int .i64 (A.l 4), .int .i64 (A.l 5), .int .i64 (A.l 6), .int .i64 (A.l 7), .int .i64 (A.l 8), .int .i64 (A.l 9), .int .i64 (A.l 10), .int .i64 (A.l 11), .int .i64 (A.l 12)]) := ⟨_, rfl⟩); have hbx : Below W0.heap.size W0 W2 := hW2 ▸ Below.setCells (Below.al (Below.refl _ _)) (Nat.le_refl _) _ _; have HM : Hid (Own W0.heap.size ([.int .i64 (A.l 0), .int .i64 (A.l 1), .int .i64 (A.l 2), .int .i64 (A.l 3), .int .i64 (A.l 4), .int .i64 (A.l 5), .int .i64 (A.l 6), .int .i64 (A.l 7), .int .i64 (A.l 8), .int .i64 (A.l 9), .int .i64 (A.l 10), .int .i64 (A.l 11), .int .i64 (A.l 12)]) W2) := Lib.hid (hW2 ▸ Own.store (Own.new _ [.int .i64 0, .int .i64 0, .int .i64 0, .int .i64 0, .int .i64 0, .int .i64 0, .int .i64 0, .int .i64 0, .int .i64 0, .int .i64 0, .int .i64 0, .int .i64 0, .int .i64 0] _) rfl); change wpList _ _ _ _ _ ((W0.alloc (.cells #[.int .i64 0, .int .i64 0, .int .i64 0, .int .i64 0, .int .i64 0, .int .i64 0, .int .i64 0, .int .i64 0, .int .i64 0, .int .i64 0, .int .i64 0, .int .i64 0, .int .i64 0] 35)).setCells W0.heap.size 0 ([.int .i64 (A.l 0), .int .i64 (A.l 1), .int .i64 (A.l 2), .int .i64 (A.l 3), .int .i64 (A.l 4), .int .i64 (A.l 5), .int .i64 (A.l 6), .int .i64 (A.l 7), .int .i64 (A.l 8), .int .i64 (A.l 9), .int .i64 (A.l 10), .int .i64 (A.l 11), .int .i64 (A.l 12)])); rw [← hW2]; clear hW2)
  clear P0 P11 P12 P13 P14 P15 P16 P17 P18 P19 P20 P21 P22 P23 Pl
  obtain ⟨Q, eQ⟩ : ∃ X, X = W0.heap.size := ⟨_, rfl⟩
  rw [← eQ] at HM ⊢
  clear eQ
  have hB2 := Below.go hB0 hbx
  clear hB0 hbx HP
  have oQ := HM.out
  have Q0 := oQ.at 0 _ rfl
  have Ql := oQ.lt
  clear oQ
  go_upto_region 18 with fail
  clear Q0 Ql
  obtain ⟨y0, hW⟩ : ∃ y0, y0 = (W2.alloc (.cells #[.int .u8 (A.l 0)] 5)) := ⟨_, rfl⟩
  have hbx : Below W2.heap.size W2 y0 := hW ▸ (Below.al (Below.refl _ _))
  have HX : Hid (Own W2.heap.size ([.int .u8 (A.l 0)]) y0) := Lib.hid (hW ▸ (show Own W2.heap.size ([.int .u8 (A.l 0)]) (W2.alloc (.cells #[.int .u8 (A.l 0)] 5)) from Own.newAt (by simp)))
  rw [← hW]
  clear hW
  obtain ⟨X, eX⟩ : ∃ X, X = W2.heap.size := ⟨_, rfl⟩
  rw [← eX] at HX ⊢
  have Xw : W2.heap.size ≤ X := by omega
  clear eX
  have BY0 : Hid (Byt y0 (some ⟨X, 0, none⟩) 1 F0) := Lib.hid (.inr ⟨X, 0, rfl, by rw [← CL0.out]; exact HX.out.has⟩)
  have HM0 := Lib.hid (HM.out.later hbx); have HB0 := Lib.hid (Below.go hB2 hbx)
  have CC0 : Hid (1 ≤ 1 ∧ 1 ≤ 9223372036854775807) := Lib.hid ⟨Nat.le_refl _, by decide⟩
  clear hbx hB2 HM HX CL0
  go_wp2_with (fail)
  refine wp_loop_rounds 4 ?_
  rw [rounds_succ]
  have oQ := HM0.out
  have Q1 := oQ.at 1 _ rfl
  have Q2 := oQ.at 2 _ rfl
  have Q3 := oQ.at 3 _ rfl
  have Ql := oQ.lt
  clear oQ
  go_wp2_with (fail)
  clear Q1 Q2 Q3 Ql
  go_at_call 50
  refine (P0.out _ _ CC0.out.1 CC0.out.2 _ _ (BY0.out.later (Below.al (Below.refl _ _))) (nm_new rfl)).mono ?_
  rintro e y1 ⟨⟨v, rfl, q1, c1, rfl, hc1, hc2, hy⟩, hb⟩
  have hbx := Below.go (Below.al (Below.refl _ _)) hb
  have BY1 := Lib.hid hy; have CC1 := Lib.hid (And.intro hc1 hc2); have HM1 := Lib.hid (HM0.out.later hbx); have HB1 := Lib.hid (Below.go HB0.out hbx)
  clear hb hbx hy hc1 hc2 BY0 CC0 HM0 HB0 P0
  go_wp2_with (fail)
  rw [rounds_succ]
  have oQ := HM1.out
  have Q1 := oQ.at 1 _ rfl
  have Q2 := oQ.at 2 _ rfl
  have Q3 := oQ.at 3 _ rfl
  have Ql := oQ.lt
  clear oQ
  go_wp2_with (fail)
  clear Q1 Q2 Q3 Ql
  go_at_call 50
  refine (P1.out _ _ CC1.out.1 CC1.out.2 _ _ (BY1.out.later (Below.al (Below.refl _ _))) (nm_new rfl)).mono ?_
  rintro e y2 ⟨⟨v, rfl, q2, c2, rfl, hc1, hc2, hy⟩, hb⟩
  have hbx := Below.go (Below.al (Below.refl _ _)) hb
  have BY2 := Lib.hid hy; have CC2 := Lib.hid (And.intro hc1 hc2); have HM2 := Lib.hid (HM1.out.later hbx); have HB2 := Lib.hid (Below.go HB1.out hbx)
  clear hb hbx hy hc1 hc2 BY1 CC1 HM1 HB1 P1
  go_wp2_with (fail)
  rw [rounds_succ]
  have oQ := HM2.out
  have Q1 := oQ.at 1 _ rfl
  have Q2 := oQ.at 2 _ rfl
  have Q3 := oQ.at 3 _ rfl
  have Ql := oQ.lt
  clear oQ
  go_wp2_with (fail)
  clear Q1 Q2 Q3 Ql
  go_at_call 50
  refine (P2.out _ _ CC2.out.1 CC2.out.2 _ _ (BY2.out.later (Below.al (Below.refl _ _))) (nm_new rfl)).mono ?_
  rintro e y3 ⟨⟨v, rfl, q3, c3, rfl, hc1, hc2, hy⟩, hb⟩
  have hbx := Below.go (Below.al (Below.refl _ _)) hb
  have BY3 := Lib.hid hy; have CC3 := Lib.hid (And.intro hc1 hc2); have HM3 := Lib.hid (HM2.out.later hbx); have HB3 := Lib.hid (Below.go HB2.out hbx)
  clear hb hbx hy hc1 hc2 BY2 CC2 HM2 HB2 P2
  go_wp2_with (fail)
  rw [rounds_succ]
  go_upto_region 22 with fail
  refine wp_region_held_drew (S := fun w' => Below y3.heap.size y3 w') (by kernel_rfl) (Below.refl _ _).drew (fun hb0_ => ?_)
  refine wpAnyH_take (i := 0) (v := ?_) rfl (by kernel_rfl) (by kernel_rfl) (by kernel_rfl) (fun _ _ _ h => h) (Or.inl ⟨by rfl, ?_⟩) (by assumption) ?_
  rotate_left
  · intro w' hS; go_simp; try (with_reducible rfl)
  try simp only [Act.put, List.getElem_toArray, List.getElem_cons_zero, List.getElem_cons_succ, List.setIfInBounds_toArray, List.set_cons_zero, List.set_cons_succ]
  refine wpAnyH_take (i := 1) (v := ?_) rfl (by kernel_rfl) (by kernel_rfl) (by kernel_rfl) (fun _ _ _ h => h) (Or.inl ⟨by rfl, ?_⟩) (by assumption) ?_
  rotate_left
  · intro w' hS; go_simp; try (with_reducible rfl)
  try simp only [Act.put, List.getElem_toArray, List.getElem_cons_zero, List.getElem_cons_succ, List.setIfInBounds_toArray, List.set_cons_zero, List.set_cons_succ]
  refine wpAnyH_take (i := 2) (v := .agg ([.int .i64 (A.l 4), .int .i64 (A.l 5), .int .i64 (A.l 6)]).toArray) rfl (by kernel_rfl) (by kernel_rfl) (by kernel_rfl) (fun _ _ _ h => h) (yieldsIf_load_mid (by rfl) 33 _ rfl Q 4 rfl ([.int .i64 (A.l 4), .int .i64 (A.l 5), .int .i64 (A.l 6)]) _ (fun w h => by
    have := (has_sub (ds := [.int .i64 (A.l 4), .int .i64 (A.l 5), .int .i64 (A.l 6)]) 4 (HM3.out.later h).has (fun j v h => by
      match j, h with
      | 0, h => exact h
      | 1, h => exact h
      | 2, h => exact h)).cell
    rwa [Nat.zero_add] at this) Tryd.underlying33 rfl (by kernel_rfl)) (by assumption) ?_
  try simp only [Act.put, List.getElem_toArray, List.getElem_cons_zero, List.getElem_cons_succ, List.setIfInBounds_toArray, List.set_cons_zero, List.set_cons_succ]
  refine wpAnyH_take (i := 4) (v := ?_) rfl (by kernel_rfl) (by kernel_rfl) (by kernel_rfl) (fun _ _ _ h => h) (Or.inl ⟨by rfl, ?_⟩) (by assumption) ?_
  rotate_left
  · intro w' hS; go_simp; try (with_reducible rfl)
  try simp only [Act.put, List.getElem_toArray, List.getElem_cons_zero, List.getElem_cons_succ, List.setIfInBounds_toArray, List.set_cons_zero, List.set_cons_succ]
  refine wpAnyH_take (i := 5) (v := .agg ([.int .i64 (A.l 7), .int .i64 (A.l 8), .int .i64 (A.l 9)]).toArray) rfl (by kernel_rfl) (by kernel_rfl) (by kernel_rfl) (fun _ _ _ h => h) (yieldsIf_load_mid (by rfl) 33 _ rfl Q 7 rfl ([.int .i64 (A.l 7), .int .i64 (A.l 8), .int .i64 (A.l 9)]) _ (fun w h => by
    have := (has_sub (ds := [.int .i64 (A.l 7), .int .i64 (A.l 8), .int .i64 (A.l 9)]) 7 (HM3.out.later h).has (fun j v h => by
      match j, h with
      | 0, h => exact h
      | 1, h => exact h
      | 2, h => exact h)).cell
    rwa [Nat.zero_add] at this) Tryd.underlying33 rfl (by kernel_rfl)) (by assumption) ?_
  try simp only [Act.put, List.getElem_toArray, List.getElem_cons_zero, List.getElem_cons_succ, List.setIfInBounds_toArray, List.set_cons_zero, List.set_cons_succ]
  refine wpAnyH_take (i := 7) (v := ?_) rfl (by kernel_rfl) (by kernel_rfl) (by kernel_rfl) (fun _ _ _ h => h) (Or.inl ⟨by rfl, ?_⟩) (by assumption) ?_
  rotate_left
  · intro w' hS; go_simp; try (with_reducible rfl)
  try simp only [Act.put, List.getElem_toArray, List.getElem_cons_zero, List.getElem_cons_succ, List.setIfInBounds_toArray, List.set_cons_zero, List.set_cons_succ]
  refine wpAnyH_take (i := 8) (v := .agg ([.int .i64 (A.l 10), .int .i64 (A.l 11), .int .i64 (A.l 12)]).toArray) rfl (by kernel_rfl) (by kernel_rfl) (by kernel_rfl) (fun _ _ _ h => h) (yieldsIf_load_mid (by rfl) 33 _ rfl Q 10 rfl ([.int .i64 (A.l 10), .int .i64 (A.l 11), .int .i64 (A.l 12)]) _ (fun w h => by
    have := (has_sub (ds := [.int .i64 (A.l 10), .int .i64 (A.l 11), .int .i64 (A.l 12)]) 10 (HM3.out.later h).has (fun j v h => by
      match j, h with
      | 0, h => exact h
      | 1, h => exact h
      | 2, h => exact h)).cell
    rwa [Nat.zero_add] at this) Tryd.underlying33 rfl (by kernel_rfl)) (by assumption) ?_
  try simp only [Act.put, List.getElem_toArray, List.getElem_cons_zero, List.getElem_cons_succ, List.setIfInBounds_toArray, List.set_cons_zero, List.set_cons_succ]
  refine wpAnyH_ready (rs := [3]) (by kernel_rfl) (by simp) ?_
  refine AllReadyH.cons rfl (fun K hK => ?_) AllReadyH.nil
  go_simp
  go_at_call 51
  refine (T0.out _ _ CC3.out.1 CC3.out.2 _ (BY3.out.later hb0_)).mono ?_
  rintro e v1 ⟨⟨x, rfl, hr⟩, h1⟩
  have bv1 := Below.go hb0_ h1
  clear h1
  obtain ⟨p1, d1, rfl, hc1, hc2, hy⟩ := RowR.of hr
  have Z1 := Lib.hid hy; have D1 := Lib.hid (And.intro hc1 hc2)
  clear hy hc1 hc2 hr
  refine hK.out _ _ bv1 (fun _ => ?_)
  clear hK K
  try simp only [Act.put, List.getElem_toArray, List.getElem_cons_zero, List.getElem_cons_succ, List.setIfInBounds_toArray, List.set_cons_zero, List.set_cons_succ]
  refine wpAnyH_ready (rs := [6]) (by kernel_rfl) (by simp) ?_
  refine AllReadyH.cons rfl (fun K hK => ?_) AllReadyH.nil
  go_simp
  go_at_call 51
  refine (T1.out _ _ D1.out.1 D1.out.2 _ Z1.out).mono ?_
  rintro e v2 ⟨⟨x, rfl, hr⟩, h1⟩
  have bv2 := Below.go bv1 h1
  clear h1
  obtain ⟨p2, d2, rfl, hc1, hc2, hy⟩ := RowR.of hr
  have Z2 := Lib.hid hy; have D2 := Lib.hid (And.intro hc1 hc2)
  clear hy hc1 hc2 hr
  refine hK.out _ _ bv2 (fun _ => ?_)
  clear hK K
  try simp only [Act.put, List.getElem_toArray, List.getElem_cons_zero, List.getElem_cons_succ, List.setIfInBounds_toArray, List.set_cons_zero, List.set_cons_succ]
  refine wpAnyH_ready (rs := [9]) (by kernel_rfl) (by simp) ?_
  refine AllReadyH.cons rfl (fun K hK => ?_) AllReadyH.nil
  go_simp
  go_at_call 51
  refine (T2.out _ _ D2.out.1 D2.out.2 _ Z2.out).mono ?_
  rintro e v3 ⟨⟨x, rfl, hr⟩, h1⟩
  have bv3 := Below.go bv2 h1
  clear h1
  obtain ⟨p3, d3, rfl, hc1, hc2, hy⟩ := RowR.of hr
  have Z3 := Lib.hid hy; have D3 := Lib.hid (And.intro hc1 hc2)
  clear hy hc1 hc2 hr
  refine hK.out _ _ bv3 (fun _ => ?_)
  clear hK K
  try simp only [Act.put, List.getElem_toArray, List.getElem_cons_zero, List.getElem_cons_succ, List.setIfInBounds_toArray, List.set_cons_zero, List.set_cons_succ]
  refine wpAnyH_take (i := 10) (v := ?_) rfl (by kernel_rfl) (by kernel_rfl) (by kernel_rfl) (fun _ _ _ h => h) (Or.inl ⟨by rfl, ?_⟩) (by assumption) ?_
  rotate_left
  · intro w' hS; go_simp; try (with_reducible rfl)
  try simp only [Act.put, List.getElem_toArray, List.getElem_cons_zero, List.getElem_cons_succ, List.setIfInBounds_toArray, List.set_cons_zero, List.set_cons_succ]
  refine wpAnyH_done (by kernel_rfl) ?_ _
  have hy := byt_eq Z3.out EQ.out
  go_wp2_with (fail)
  go_ret
  exact ⟨⟨_, rfl, _, _, rfl, D3.out.1, D3.out.2, hy⟩, Below.go HB3.out bv3⟩
end Go.Proofs.YtokfhhngnpbdkaaDoor
