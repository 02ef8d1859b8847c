/- The document's Hex. -/
import Derived.Test.YtajejlaoompieaaDoorHO
import Derived.Lib.Hide
import Derived.LoopN
import Derived.LoopTactic
import Derived.Deep.Onto
import Derived.Deep.QuietTactic
import Derived.BigQuiet
import Derived.Deep.WholeRow
namespace Go.Proofs.YtajejlaoompieaaDoor
set_option linter.unusedVariables false
set_option maxRecDepth 2000
set_option linter.unusedSimpArgs false
open Go.RowKit
def oneS (x : Int) : ByteArray := strOfNums [x]
theorem slice_dig (h : Nat) (hh : h < 16) (w : World) : (Instr.sliceAt 9 (.string { data := #[48, 49, 50, 51, 52, 53, 54, 55, 56, 57, 97, 98, 99, 100, 101, 102] }) (some (.int .u8 (h : Nat))) (some (.int .u8 ((h + 1 : Nat) : Int))) none).run Tryd.prog w = .ok (.string (oneS (digF (h : Nat)))) w := match h, hh with
  | 0, _ => by kernel_rfl
  | 1, _ => by kernel_rfl
  | 2, _ => by kernel_rfl
  | 3, _ => by kernel_rfl
  | 4, _ => by kernel_rfl
  | 5, _ => by kernel_rfl
  | 6, _ => by kernel_rfl
  | 7, _ => by kernel_rfl
  | 8, _ => by kernel_rfl
  | 9, _ => by kernel_rfl
  | 10, _ => by kernel_rfl
  | 11, _ => by kernel_rfl
  | 12, _ => by kernel_rfl
  | 13, _ => by kernel_rfl
  | 14, _ => by kernel_rfl
  | 15, _ => by kernel_rfl
  | n + 16, h => absurd h (by omega)
theorem str_app (l m : List Int) : strOfNums l ++ strOfNums m = strOfNums (l ++ m) := by
  apply ByteArray.ext
  rw [ByteArray.data_append]
  simp [strOfNums]
theorem hex_next (f : Nat → Int) (k : Nat) (x h l : Int) (hx : f k = x) (h1 : x / 16 = h) (h2 : x % 16 = l) : hexS f (2 * k) ++ oneS (digF h) ++ oneS (digF l) = hexS f (2 * (k + 1)) := by
  have e1 : hexF f (2 * k) = digF h := by
    unfold hexF
    rw [if_pos (by omega), show 2 * k / 2 = k by omega, hx, h1]
  have e2 : hexF f (2 * k + 1) = digF l := by
    unfold hexF
    rw [if_neg (by omega), show (2 * k + 1) / 2 = k by omega, hx, h2]
  unfold hexS oneS
  rw [str_app, str_app]
  congr 1
  rw [show 2 * (k + 1) = 2 * k + 1 + 1 by omega, List.range_succ, List.range_succ, List.map_append, List.map_append, List.map_singleton, List.map_singleton, e1, e2]
theorem str_add (a b c : ByteArray) (h : a.size + b.size ≤ 1000) (hc : a ++ b = c) (w : World) : (Op.stringOp .add a b).run Tryd.prog w = .ok (.string c) w := by
  subst hc
  have e : ¬ (((a.size + b.size : Nat) : Int) > IntKind.i64.max) := by
    have : IntKind.i64.max = 9223372036854775807 := by decide
    rw [this]
    omega
  simp only [Op.stringOp]
  rw [if_neg e]
  rfl
theorem hexS_size (f : Nat → Int) (n : Nat) : (hexS f n).size = n := by
  unfold hexS
  rw [strOfNums_size]
  simp
theorem oneS_size (x : Int) : (oneS x).size = 1 := by unfold oneS; rw [strOfNums_size]; rfl
attribute [local go_sem] nums_length

set_option maxHeartbeats 4000000 in
theorem RHex_any (f : Nat → Int) (hf : ∀ j, j < 32 → inB (f j)) (w : World) : Calls Tryd.prog 22 #[(.agg (nums .u8 f 32).toArray)] w fun e w' => e = .returned (.string (hexS f 64)) ∧ Below w.heap.size w w' := by
  have IF := Lib.hid hf
  clear hf
  go_enter Tryd.func22, Tryd.ntmps22
  go_upto_region 3 with fail
  obtain ⟨W0, hW⟩ : ∃ W0, W0 = (w.alloc (.cells (nums .u8 f 32).toArray 35)) := ⟨_, rfl⟩
  have hB0 : Below w.heap.size w W0 := hW ▸ (Below.al (Below.refl _ _))
  have HS : Hid (Own w.heap.size (nums .u8 f 32) W0) := Lib.hid (hW ▸ (show Own w.heap.size (nums .u8 f 32) (w.alloc (.cells (nums .u8 f 32).toArray 35)) from Own.newAt (by simp)))
  rw [← hW]
  clear hW
  obtain ⟨S, eS⟩ : ∃ X, X = w.heap.size := ⟨_, rfl⟩
  rw [← eS] at HS ⊢
  have Sw : w.heap.size ≤ S := by omega
  clear eS
  go_wp2_with (fail)
  go_loopw [4, 5] (fun sv iv wr => ∃ (k : Nat), k ≤ 32 ∧ sv = .string (hexS f (2 * k)) ∧ iv = .int .i64 k ∧ Hid (Below w.heap.size w wr) ∧ Hid (Own S (nums .u8 f 32) wr)) (fun _ iv _ => (32 - (intOf iv).toNat))
  case atStart => exact ⟨0, Nat.zero_le _, rfl, rfl, Lib.hid hB0, HS⟩
  case round =>
    clear HS hB0
    obtain ⟨k, hk, rfl, rfl, HB, HS⟩ := hrel
    by_cases hlt : k < 32
    · have IX := IF.out k hlt
      have VX := HS.out.at k _ (nums_at .u8 f hlt)
      have Sl := HS.out.lt
      obtain ⟨x, ex⟩ : ∃ x, f k = x := ⟨_, rfl⟩
      rw [ex] at VX IX
      unfold inB at IX
      obtain ⟨h, eh⟩ : ∃ h : Nat, x / 16 = (h : Int) := ⟨(x / 16).toNat, by omega⟩
      obtain ⟨l, el⟩ : ∃ l : Nat, x % 16 = (l : Int) := ⟨(x % 16).toNat, by omega⟩
      have HN := Lib.hid (hex_next f k x h l ex eh el)
      have hh : h < 16 := by omega
      have hl : l < 16 := by omega
      have d1 := fun w => slice_dig h hh w
      have d2 := fun w => slice_dig l hl w
      have q1 : x.tdiv 16 = (h : Int) := by rw [Int.tdiv_eq_ediv_of_nonneg (by omega)]; exact eh
      have q2 : x.tmod 16 = (l : Int) := by rw [Int.tmod_eq_emod_of_nonneg (by omega)]; exact el
      obtain ⟨h1, eh1⟩ : ∃ h1, h + 1 = h1 := ⟨_, rfl⟩
      obtain ⟨l1, el1⟩ : ∃ l1, l + 1 = l1 := ⟨_, rfl⟩
      simp only [eh1] at d1
      simp only [el1] at d2
      have p1 : (h : Int) + 1 = (h1 : Int) := by omega
      have p2 : (l : Int) + 1 = (l1 : Int) := by omega
      have wh : IntKind.u8.wrap (h : Int) = (h : Int) := by rw [IntKind.wrap_u8']; omega
      have wl : IntKind.u8.wrap (l : Int) = (l : Int) := by rw [IntKind.wrap_u8']; omega
      have wh1 : IntKind.u8.wrap (h1 : Int) = (h1 : Int) := by rw [IntKind.wrap_u8']; omega
      have wl1 : IntKind.u8.wrap (l1 : Int) = (l1 : Int) := by rw [IntKind.wrap_u8']; omega
      have mh1 : (h1 : Int) % 256 = (h1 : Int) := by omega
      have ml1 : (l1 : Int) % 256 = (l1 : Int) := by omega
      obtain ⟨A_, eA⟩ : ∃ A_, hexS f (2 * k) = A_ := ⟨_, rfl⟩
      obtain ⟨B_, eB⟩ : ∃ B_, oneS (digF (h : Int)) = B_ := ⟨_, rfl⟩
      obtain ⟨C_, eC⟩ : ∃ C_, oneS (digF (l : Int)) = C_ := ⟨_, rfl⟩
      have z1 : A_.size = 2 * k := eA ▸ hexS_size f (2 * k)
      have z2 : B_.size = 1 := eB ▸ oneS_size _
      have z3 : C_.size = 1 := eC ▸ oneS_size _
      rw [eA, eB, eC] at HN
      obtain ⟨D_, eD⟩ : ∃ D_, A_ ++ B_ = D_ := ⟨_, rfl⟩
      rw [eD] at HN
      obtain ⟨E_, eE⟩ : ∃ E_, D_ ++ C_ = E_ := ⟨_, rfl⟩
      rw [eE] at HN
      have z4 : D_.size = 2 * k + 1 := by rw [← eD, ByteArray.size_append, z1, z2]
      have a1 := str_add A_ B_ D_ (by omega) eD
      have a2 := str_add D_ C_ E_ (by omega) eE
      clear z1 z2 z3 z4 eD eE
      simp only [eB] at d1
      simp only [eC] at d2
      rw [eA]
      have hki : (k : Int) < 32 := by omega
      have k0 : (0 : Int) ≤ (k : Int) := by omega
      have wk : IntKind.i64.wrap ((k : Int) + 1) = (k : Int) + 1 := IntWalk.i64_in _ (by omega)
      have HLT := Lib.hid hlt
      clear hlt hk ex eA eB eC eh1 el1 hh hl IX
      go_wp2_with (fail)
      go_quiet (fail)
      have hBd : Below wr.heap.size wr (wr.drewN nq) := below_drewN (Below.refl _ _) _
      have O1 := Lib.hid (Below.go HB.out hBd)
      have O2 := Lib.hid (HS.out.later hBd)
      clear d1 d2 a1 a2 VX HB HS hBd
      generalize wr.drewN nq = w9 at *
      rw [HN.out]
      go_wp2_with (fail)
      go_roundw
      case rel => (first | exact ⟨k + 1, HLT.out, rfl, by go_num, O1, O2⟩ | ((repeat apply Exists.intro); exact ⟨⟨k + 1, HLT.out, rfl, by go_num, O1, O2⟩, rfl⟩))
      case measure => (have := HLT.out; simp [intOf]; omega)
    · obtain rfl : k = 32 := by omega
      clear hlt hk
      go_wp2_with (fail)
      go_ret
      exact ⟨rfl, HB.out⟩
end Go.Proofs.YtajejlaoompieaaDoor
