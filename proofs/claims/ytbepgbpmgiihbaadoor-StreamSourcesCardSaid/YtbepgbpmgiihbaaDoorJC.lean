/- stream.Key, of both. -/
import Derived.Test.YtbepgbpmgiihbaaDoorJA
import Derived.Test.YtbepgbpmgiihbaaDoorHU
import Derived.Lib.Hide
import Derived.LoopN
import Derived.LoopTactic
import Derived.Deep.Onto
import Derived.Lib.LazyBuf
import Derived.Deep.WholeRow
namespace Go.Proofs.YtbepgbpmgiihbaaDoor
set_option linter.unusedVariables false
set_option maxRecDepth 2000
set_option linter.unusedSimpArgs false
open Go.RowKit
/-- the letters ahead of the seed -/
def textF (i : Nat) : Int := [117, 109, 98, 114, 97, 32, 115, 97, 109, 112, 108, 101, 32, 115, 116, 114, 101, 97, 109, 32, 118, 49, 0, 0].getD i 0
/-- byte i of a number, least significant first -/
def byteN (x : Int) (i : Nat) : Int := x / 2 ^ (8 * i) % 256
def keyF (s : Int) (i : Nat) : Int := if i < 24 then textF i else byteN s (i - 24)
theorem in_byteN (x : Int) (i : Nat) : inB (byteN x i) := by unfold inB byteN; omega
theorem in_textF : ∀ i, i < 24 → inB (textF i) := by unfold inB; decide
theorem in_keyF (s : Int) (i : Nat) : inB (keyF s i) := by
  unfold keyF
  split
  · exact in_textF i (by assumption)
  · exact in_byteN _ _
theorem wpList_copy_str {P : Program} {w w' : World} {ops : Array Oper} {rest : List Oper} {o : Oper} {a : Act} {Q : Exit → Act → World → Prop} (hgd : o.guard = none) (s x : Operand) (t t2 : TypeId)
    (ho : o.op = .call { callee := .builtin .copy, args := #[s, x], argTypes := #[t, t2] }) {vs vx v : Value} (hs : a.eval s = vs) (hx : a.eval x = vx)
    (hr : (Builtin.copy_ #[t, t2] o.type #[vs, vx]).run P w = .ok v w') (h : wpList P ops Q rest (a.put o.dst v) w') : wpList P ops Q (o :: rest) a w :=
  wpList_plain hgd fun K hK => by
    unfold Oper.wp
    simp [execOp, ho, resolve, invoke, builtin, hs, hx, hr, Result.andThen]
    exact hK _ _ h
theorem sz8 (w : World) : (Go.sizeOf 5).run Tryd.prog w = .ok 1 w := by simp [go_sem]
/-- the letters of the purpose, as Go keeps them -/
def purp : ByteArray := { data := #[117, 109, 98, 114, 97, 32, 115, 97, 109, 112, 108, 101, 32, 115, 116, 114, 101, 97, 109, 32, 118, 49] }
theorem purp_vals : (purp.data.toList.map fun x => Value.int .u8 (x.toNat : Int)) = nums .u8 textF 22 := by kernel_rfl
theorem over_text : over (nums .u8 (fun _ => 0) 32) 0 (nums .u8 textF 22) = nums .u8 (fun i => if i < 24 then textF i else 0) 32 := by kernel_rfl
theorem copy_text (K ty : Nat) (W : World) (h : Own K (nums .u8 (fun _ => 0) 32) W) :
    (Builtin.copy_ #[42, 9] ty #[.slice (some ⟨K, 0, none⟩) 32 32, .string purp]).run Tryd.prog W = .ok (goInt 22) (W.setCells K 0 (nums .u8 textF 22)) := by
  have hx := run_copy_string (P := Tryd.prog) W 42 9 ty 5 K 0 32 32 purp Tryd.underlying42 sz8 (by decide) (fun j hj => (h.free j (by rw [nums_length]; exact Nat.lt_of_lt_of_le hj (by decide))).1) (fun j hj => (h.free j (by rw [nums_length]; exact Nat.lt_of_lt_of_le hj (by decide))).2)
  rw [purp_vals] at hx
  exact hx
theorem own_text {K : Nat} {W : World} (s : Int) (h : Own K (nums .u8 (fun _ => 0) 32) W) : Own K (nums .u8 (upto (keyF s) 24) 32) (W.setCells K 0 (nums .u8 textF 22)) := by
  have hp := Own.part (o := 0) (vs := nums .u8 textF 22) h (by rw [nums_length, nums_length]; decide)
  rw [over_text] at hp
  rwa [nums_congr .u8 (g := upto (keyF s) 24) (fun i _ => by unfold upto keyF; by_cases hi : i < 24 <;> simp [hi])] at hp

set_option maxHeartbeats 4000000 in
theorem Key_any (s : Int) (hs : 0 ≤ s ∧ s < 18446744073709551616) (w : World) :
    Calls Tryd.prog 12 #[.int .u64 s] w fun e w' => e = .returned (.agg (nums .u8 (keyF s) 32).toArray) ∧ Below w.heap.size w w' := by
  go_enter Tryd.func12, Tryd.ntmps12
  go_upto_region 2 with fail
  obtain ⟨W0, hW⟩ : ∃ W0, W0 = ((w.alloc (.cells #[.int .u8 0, .int .u8 0, .int .u8 0, .int .u8 0, .int .u8 0, .int .u8 0, .int .u8 0, .int .u8 0, .int .u8 0, .int .u8 0, .int .u8 0, .int .u8 0, .int .u8 0, .int .u8 0, .int .u8 0, .int .u8 0, .int .u8 0, .int .u8 0, .int .u8 0, .int .u8 0, .int .u8 0, .int .u8 0, .int .u8 0, .int .u8 0, .int .u8 0, .int .u8 0, .int .u8 0, .int .u8 0, .int .u8 0, .int .u8 0, .int .u8 0, .int .u8 0] 44)).alloc (.cells #[.int .u8 0, .int .u8 0, .int .u8 0, .int .u8 0, .int .u8 0, .int .u8 0, .int .u8 0, .int .u8 0, .int .u8 0, .int .u8 0, .int .u8 0, .int .u8 0, .int .u8 0, .int .u8 0, .int .u8 0, .int .u8 0, .int .u8 0, .int .u8 0, .int .u8 0, .int .u8 0, .int .u8 0, .int .u8 0, .int .u8 0, .int .u8 0, .int .u8 0, .int .u8 0, .int .u8 0, .int .u8 0, .int .u8 0, .int .u8 0, .int .u8 0, .int .u8 0] 44)) := ⟨_, rfl⟩
  have hB0 : Below w.heap.size w W0 := hW ▸ (Below.al (Below.al (Below.refl _ _)))
  have HR : Hid (Own w.heap.size (nums .u8 (fun _ => 0) 32) W0) := Lib.hid (hW ▸ (show Own w.heap.size (nums .u8 (fun _ => 0) 32) (w.alloc (.cells #[.int .u8 0, .int .u8 0, .int .u8 0, .int .u8 0, .int .u8 0, .int .u8 0, .int .u8 0, .int .u8 0, .int .u8 0, .int .u8 0, .int .u8 0, .int .u8 0, .int .u8 0, .int .u8 0, .int .u8 0, .int .u8 0, .int .u8 0, .int .u8 0, .int .u8 0, .int .u8 0, .int .u8 0, .int .u8 0, .int .u8 0, .int .u8 0, .int .u8 0, .int .u8 0, .int .u8 0, .int .u8 0, .int .u8 0, .int .u8 0, .int .u8 0, .int .u8 0] 44)) from Own.newAt (by simp)).alloc)
  have HK : Hid (Own (w.heap.size + 1) (nums .u8 (fun _ => 0) 32) W0) := Lib.hid (hW ▸ (show Own (w.heap.size + 1) (nums .u8 (fun _ => 0) 32) ((w.alloc (.cells #[.int .u8 0, .int .u8 0, .int .u8 0, .int .u8 0, .int .u8 0, .int .u8 0, .int .u8 0, .int .u8 0, .int .u8 0, .int .u8 0, .int .u8 0, .int .u8 0, .int .u8 0, .int .u8 0, .int .u8 0, .int .u8 0, .int .u8 0, .int .u8 0, .int .u8 0, .int .u8 0, .int .u8 0, .int .u8 0, .int .u8 0, .int .u8 0, .int .u8 0, .int .u8 0, .int .u8 0, .int .u8 0, .int .u8 0, .int .u8 0, .int .u8 0, .int .u8 0] 44)).alloc (.cells #[.int .u8 0, .int .u8 0, .int .u8 0, .int .u8 0, .int .u8 0, .int .u8 0, .int .u8 0, .int .u8 0, .int .u8 0, .int .u8 0, .int .u8 0, .int .u8 0, .int .u8 0, .int .u8 0, .int .u8 0, .int .u8 0, .int .u8 0, .int .u8 0, .int .u8 0, .int .u8 0, .int .u8 0, .int .u8 0, .int .u8 0, .int .u8 0, .int .u8 0, .int .u8 0, .int .u8 0, .int .u8 0, .int .u8 0, .int .u8 0, .int .u8 0, .int .u8 0] 44)) from Own.newAt (by simp)))
  rw [← hW]
  clear hW
  obtain ⟨K, eK⟩ : ∃ X, X = (w.heap.size + 1) := ⟨_, rfl⟩
  rw [← eK] at HK ⊢
  have Kw : w.heap.size ≤ K := by omega
  obtain ⟨R, eR⟩ : ∃ X, X = w.heap.size := ⟨_, rfl⟩
  rw [← eR] at HR ⊢
  have Rw : w.heap.size ≤ R := by omega
  have nRK : R ≠ K := by omega
  have nKR : K ≠ R := by omega
  clear eR eK
  refine wp_region_lit ?_
  refine wpList_val rfl (.slice (some ⟨K, 0, none⟩) 32 32) (by kernel_rfl) ?_
  refine wpList_copy_str rfl _ _ 42 9 rfl (vs := .slice (some ⟨K, 0, none⟩) 32 32) (vx := .string purp) rfl rfl (copy_text K _ W0 HK.out) ?_
  have HKn : Hid (Own K (nums .u8 (upto (keyF s) 24) 32) (W0.setCells K 0 (nums .u8 textF 22))) := Lib.hid (own_text s HK.out)
  have HRn : Hid (Own R (nums .u8 (fun _ => 0) 32) (W0.setCells K 0 (nums .u8 textF 22))) := Lib.hid (Own.far (o := 0) (vs := (nums .u8 textF 22)) HR.out nRK)
  have hB0n : Below w.heap.size w (W0.setCells K 0 (nums .u8 textF 22)) := Below.setCells hB0 Kw (nums .u8 textF 22) 0
  clear HK HR hB0
  generalize (W0.setCells K 0 (nums .u8 textF 22)) = W1 at *
  have HK := HKn
  clear HKn
  have HR := HRn
  clear HRn
  have hB0 := hB0n
  clear hB0n
  go_wp2_with (fail)
  go_loopw [7] (fun iv wr => ∃ (k : Nat), k ≤ 8 ∧ iv = .int .i64 k ∧ Hid (Below w.heap.size w wr) ∧ Hid (Own K (nums .u8 (upto (keyF s) (24 + k)) 32) wr) ∧ Hid (Own R (nums .u8 (fun _ => 0) 32) wr)) (fun iv _ => (8 - (intOf iv).toNat))
  case atStart => exact ⟨0, Nat.zero_le _, rfl, Lib.hid hB0, HK, HR⟩
  case round =>
    clear HK HR hB0
    obtain ⟨k, hk, rfl, HW, HK, HR⟩ := hrel
    by_cases hlt : k < 8
    · obtain ⟨m, em⟩ : ∃ m, 8 * k = m := ⟨_, rfl⟩
      obtain ⟨a, ea⟩ : ∃ a, 24 + k = a := ⟨_, rfl⟩
      rw [ea] at HK
      obtain ⟨z, ez⟩ : ∃ z, byteN s k = z := ⟨_, rfl⟩
      have Ez : z = keyF s a := by unfold keyF; rw [if_neg (by omega), show a - 24 = k by omega, ez]
      have ez2 : s / 2 ^ min m 64 % 256 = z := by rw [Nat.min_eq_left (by omega), ← ez, ← em]; rfl
      have ME := Lib.hid (upto_step .u8 (keyF s) a 32 z Ez)
      have xf := HK.out.ok a (by rw [nums_length]; omega)
      have x0 := HK.out.at a _ (nums_at .u8 _ (show a < 32 by omega))
      have Kl := HK.out.lt
      have o1 := Lib.hid (show Own K (nums .u8 (upto (keyF s) (24 + (k + 1))) 32) (wr.setCells K a [.int .u8 z]) by have := own_set (v := z) HK.out (show a < 32 by omega); rwa [ME.out, show a + 1 = 24 + (k + 1) by omega] at this)
      have o3 := Lib.hid (Own.far (c := K) (o := a) (vs := [.int .u8 z]) HR.out nRK)
      have o4 := Lib.hid (Below.setCells HW.out Kw [.int .u8 z] a)
      have k1 : (k : Int) < 8 := by omega
      have wk : IntKind.i64.wrap ((k : Int) + 1) = (k : Int) + 1 := IntWalk.i64_in _ (by omega)
      have wm : IntKind.i64.wrap (8 * (k : Int)) = (m : Int) := by rw [IntWalk.i64_in _ (by omega)]; omega
      have wa : IntKind.i64.wrap (24 + (k : Int)) = (a : Int) := by rw [IntWalk.i64_in _ (by omega)]; omega
      have a0 : (0 : Int) ≤ (a : Int) := by omega
      have a1 : (a : Int) < 32 := by omega
      have m0 : (0 : Int) ≤ (m : Int) := by omega
      have HE := Lib.hid (show k + 1 ≤ 8 by omega)
      clear ez Ez ME HK HR HW em ea hlt
      go_wp2_with (fail)
      go_roundw
      case rel => (first | exact ⟨k + 1, HE.out, by go_num, o4, o1, o3⟩ | ((repeat apply Exists.intro); exact ⟨⟨k + 1, HE.out, by go_num, o4, o1, o3⟩, rfl⟩))
      case measure => simp [intOf]; omega
    · have e4 : k = 8 := by omega
      subst e4
      rw [upto_all] at HK
      go_upto_region 8 with fail
      have hB0 := HW.out
      refine wp_region_lit ?_
      refine wpList_load_mid rfl 44 _ rfl K 0 rfl (nums .u8 (keyF s) 32) _ HK.out.cell Tryd.underlying44 rfl (by kernel_rfl) ?_
      refine wpList_store_mid rfl 44 _ _ rfl R 0 (nums .u8 (keyF s) 32).toArray rfl rfl HR.out.free (by kernel_rfl) (nums_all _ _ _) ?_
      change wpList _ _ _ [] _ (wr.setCells R 0 (nums .u8 (keyF s) 32))
      have HRn : Hid (Own R (nums .u8 (keyF s) 32) (wr.setCells R 0 (nums .u8 (keyF s) 32))) := Lib.hid (Own.store HR.out (by simp [nums_length]))
      have HKn : Hid (Own K (nums .u8 (keyF s) 32) (wr.setCells R 0 (nums .u8 (keyF s) 32))) := Lib.hid (Own.far (o := 0) (vs := (nums .u8 (keyF s) 32)) HK.out nKR)
      have hB0n : Below w.heap.size w (wr.setCells R 0 (nums .u8 (keyF s) 32)) := Below.setCells hB0 Rw (nums .u8 (keyF s) 32) 0
      clear HR HK hB0
      generalize (wr.setCells R 0 (nums .u8 (keyF s) 32)) = wz at *
      have HR := HRn
      clear HRn
      have HK := HKn
      clear HKn
      have hB0 := hB0n
      clear hB0n
      go_wp2_with (fail)
      have hL := run_loadVar_mid (P := Tryd.prog) _ R 0 44 (nums .u8 (keyF s) 32) _ HR.out.cell Tryd.underlying44 rfl (by kernel_rfl)
      exact bodyPost_ret (v := .agg (nums .u8 (keyF s) 32).toArray) (res_cell Tryd.results12 rfl hL) rfl ⟨rfl, hB0⟩
theorem index_text (i : Nat) (hi : i < 22) (w : World) : (Instr.index 9 (.string { data := #[117, 109, 98, 114, 97, 32, 115, 97, 109, 112, 108, 101, 32, 115, 116, 114, 101, 97, 109, 32, 118, 49] }) (.int .i64 i)).run Tryd.prog w = .ok (.int .u8 (textF i)) w := match i, hi with
  | 0, _ => by kernel_rfl
  | 1, _ => by kernel_rfl
  | 2, _ => by kernel_rfl
  | 3, _ => by kernel_rfl
  | 4, _ => by kernel_rfl
  | 5, _ => by kernel_rfl
  | 6, _ => by kernel_rfl
  | 7, _ => by kernel_rfl
  | 8, _ => by kernel_rfl
  | 9, _ => by kernel_rfl
  | 10, _ => by kernel_rfl
  | 11, _ => by kernel_rfl
  | 12, _ => by kernel_rfl
  | 13, _ => by kernel_rfl
  | 14, _ => by kernel_rfl
  | 15, _ => by kernel_rfl
  | 16, _ => by kernel_rfl
  | 17, _ => by kernel_rfl
  | 18, _ => by kernel_rfl
  | 19, _ => by kernel_rfl
  | 20, _ => by kernel_rfl
  | 21, _ => by kernel_rfl
  | n + 22, h => absurd h (by omega)

set_option maxHeartbeats 4000000 in
theorem RKey_any (s : Int) (hs : 0 ≤ s ∧ s < 18446744073709551616) (w : World) :
    Calls Tryd.prog 14 #[.int .u64 s] w fun e w' => e = .returned (.agg (nums .u8 (keyF s) 32).toArray) ∧ Below w.heap.size w w' := by
  go_enter Tryd.func14, Tryd.ntmps14
  go_upto_region 2 with fail
  obtain ⟨W0, hW⟩ : ∃ W0, W0 = ((w.alloc (.cells #[.int .u8 0, .int .u8 0, .int .u8 0, .int .u8 0, .int .u8 0, .int .u8 0, .int .u8 0, .int .u8 0, .int .u8 0, .int .u8 0, .int .u8 0, .int .u8 0, .int .u8 0, .int .u8 0, .int .u8 0, .int .u8 0, .int .u8 0, .int .u8 0, .int .u8 0, .int .u8 0, .int .u8 0, .int .u8 0, .int .u8 0, .int .u8 0, .int .u8 0, .int .u8 0, .int .u8 0, .int .u8 0, .int .u8 0, .int .u8 0, .int .u8 0, .int .u8 0] 44)).alloc (.cells #[.int .u8 0, .int .u8 0, .int .u8 0, .int .u8 0, .int .u8 0, .int .u8 0, .int .u8 0, .int .u8 0, .int .u8 0, .int .u8 0, .int .u8 0, .int .u8 0, .int .u8 0, .int .u8 0, .int .u8 0, .int .u8 0, .int .u8 0, .int .u8 0, .int .u8 0, .int .u8 0, .int .u8 0, .int .u8 0, .int .u8 0, .int .u8 0, .int .u8 0, .int .u8 0, .int .u8 0, .int .u8 0, .int .u8 0, .int .u8 0, .int .u8 0, .int .u8 0] 44)) := ⟨_, rfl⟩
  have hB0 : Below w.heap.size w W0 := hW ▸ (Below.al (Below.al (Below.refl _ _)))
  have HR : Hid (Own w.heap.size (nums .u8 (fun _ => 0) 32) W0) := Lib.hid (hW ▸ (show Own w.heap.size (nums .u8 (fun _ => 0) 32) (w.alloc (.cells #[.int .u8 0, .int .u8 0, .int .u8 0, .int .u8 0, .int .u8 0, .int .u8 0, .int .u8 0, .int .u8 0, .int .u8 0, .int .u8 0, .int .u8 0, .int .u8 0, .int .u8 0, .int .u8 0, .int .u8 0, .int .u8 0, .int .u8 0, .int .u8 0, .int .u8 0, .int .u8 0, .int .u8 0, .int .u8 0, .int .u8 0, .int .u8 0, .int .u8 0, .int .u8 0, .int .u8 0, .int .u8 0, .int .u8 0, .int .u8 0, .int .u8 0, .int .u8 0] 44)) from Own.newAt (by simp)).alloc)
  have HK : Hid (Own (w.heap.size + 1) (nums .u8 (fun _ => 0) 32) W0) := Lib.hid (hW ▸ (show Own (w.heap.size + 1) (nums .u8 (fun _ => 0) 32) ((w.alloc (.cells #[.int .u8 0, .int .u8 0, .int .u8 0, .int .u8 0, .int .u8 0, .int .u8 0, .int .u8 0, .int .u8 0, .int .u8 0, .int .u8 0, .int .u8 0, .int .u8 0, .int .u8 0, .int .u8 0, .int .u8 0, .int .u8 0, .int .u8 0, .int .u8 0, .int .u8 0, .int .u8 0, .int .u8 0, .int .u8 0, .int .u8 0, .int .u8 0, .int .u8 0, .int .u8 0, .int .u8 0, .int .u8 0, .int .u8 0, .int .u8 0, .int .u8 0, .int .u8 0] 44)).alloc (.cells #[.int .u8 0, .int .u8 0, .int .u8 0, .int .u8 0, .int .u8 0, .int .u8 0, .int .u8 0, .int .u8 0, .int .u8 0, .int .u8 0, .int .u8 0, .int .u8 0, .int .u8 0, .int .u8 0, .int .u8 0, .int .u8 0, .int .u8 0, .int .u8 0, .int .u8 0, .int .u8 0, .int .u8 0, .int .u8 0, .int .u8 0, .int .u8 0, .int .u8 0, .int .u8 0, .int .u8 0, .int .u8 0, .int .u8 0, .int .u8 0, .int .u8 0, .int .u8 0] 44)) from Own.newAt (by simp)))
  rw [← hW]
  clear hW
  obtain ⟨K, eK⟩ : ∃ X, X = (w.heap.size + 1) := ⟨_, rfl⟩
  rw [← eK] at HK ⊢
  have Kw : w.heap.size ≤ K := by omega
  obtain ⟨R, eR⟩ : ∃ X, X = w.heap.size := ⟨_, rfl⟩
  rw [← eR] at HR ⊢
  have Rw : w.heap.size ≤ R := by omega
  have nRK : R ≠ K := by omega
  have nKR : K ≠ R := by omega
  clear eR eK
  go_wp2_with (fail)
  rw [show nums .u8 (fun _ => 0) 32 = nums .u8 (upto (keyF s) 0) 32 from nums_congr _ fun j _ => by simp [upto]] at HK
  go_loopw [5] (fun iv wr => ∃ (k : Nat), k ≤ 22 ∧ iv = .int .i64 k ∧ Hid (Below w.heap.size w wr) ∧ Hid (Own K (nums .u8 (upto (keyF s) k) 32) wr) ∧ Hid (Own R (nums .u8 (fun _ => 0) 32) wr)) (fun iv _ => (22 - (intOf iv).toNat))
  case atStart => exact ⟨0, Nat.zero_le _, rfl, Lib.hid hB0, HK, HR⟩
  case round =>
    clear HK HR hB0
    obtain ⟨k, hk, rfl, HW, HK, HR⟩ := hrel
    by_cases hlt : k < 22
    · have IX := fun w => index_text k hlt w
      obtain ⟨z, ez⟩ : ∃ z, textF k = z := ⟨_, rfl⟩
      simp only [ez] at IX
      have Ez : z = keyF s k := by unfold keyF; rw [if_pos (by omega), ez]
      have ME := Lib.hid (upto_step .u8 (keyF s) k 32 z Ez)
      have xf := HK.out.ok k (by rw [nums_length]; omega)
      have x0 := HK.out.at k _ (nums_at .u8 _ (show k < 32 by omega))
      have Kl := HK.out.lt
      have o1 := Lib.hid (ME.out ▸ own_set (v := z) HK.out (show k < 32 by omega))
      have o3 := Lib.hid (Own.far (c := K) (o := k) (vs := [.int .u8 z]) HR.out nRK)
      have o4 := Lib.hid (Below.setCells HW.out Kw [.int .u8 z] k)
      have k1 : (k : Int) < 22 := by omega
      have k2 : (k : Int) < 32 := by omega
      have k0 : (0 : Int) ≤ (k : Int) := by omega
      have wk : IntKind.i64.wrap ((k : Int) + 1) = (k : Int) + 1 := IntWalk.i64_in _ (by omega)
      have HE := Lib.hid (show k + 1 ≤ 22 by omega)
      clear ez Ez ME HK HR HW hlt
      go_wp2_with (fail)
      go_roundw
      case rel => (first | exact ⟨k + 1, HE.out, by go_num, o4, o1, o3⟩ | ((repeat apply Exists.intro); exact ⟨⟨k + 1, HE.out, by go_num, o4, o1, o3⟩, rfl⟩))
      case measure => simp [intOf]; omega
    · have e4 : k = 22 := by omega
      subst e4
      rw [show nums .u8 (upto (keyF s) 22) 32 = nums .u8 (upto (keyF s) (24 + 0)) 32 from nums_congr _ fun j _ => by
        unfold upto
        by_cases h1 : j < 22
        · rw [if_pos h1, if_pos (by omega)]
        · rw [if_neg h1]
          by_cases h2 : j < 24
          · rw [if_pos (by omega)]
            have : j = 22 ∨ j = 23 := by omega
            rcases this with rfl | rfl <;> rfl
          · rw [if_neg (by omega)]] at HK
      obtain ⟨w0, e0⟩ : ∃ x, x = wr := ⟨_, rfl⟩
      rw [← e0] at HK HR HW ⊢
      clear e0
      go_wp2_with (fail)
      go_loopw [6] (fun iv wr => ∃ (k : Nat), k ≤ 8 ∧ iv = .int .i64 k ∧ Hid (Below w.heap.size w wr) ∧ Hid (Own K (nums .u8 (upto (keyF s) (24 + k)) 32) wr) ∧ Hid (Own R (nums .u8 (fun _ => 0) 32) wr)) (fun iv _ => (8 - (intOf iv).toNat))
      case atStart => exact ⟨0, Nat.zero_le _, rfl, HW, HK, HR⟩
      case round =>
        clear HK HR HW
        obtain ⟨k, hk, rfl, HW, HK, HR⟩ := hrel
        by_cases hlt : k < 8
        · obtain ⟨m, em⟩ : ∃ m, 8 * k = m := ⟨_, rfl⟩
          obtain ⟨a, ea⟩ : ∃ a, 24 + k = a := ⟨_, rfl⟩
          rw [ea] at HK
          obtain ⟨z, ez⟩ : ∃ z, byteN s k = z := ⟨_, rfl⟩
          have Ez : z = keyF s a := by unfold keyF; rw [if_neg (by omega), show a - 24 = k by omega, ez]
          have ez2 : s / 2 ^ min m 64 % 256 = z := by rw [Nat.min_eq_left (by omega), ← ez, ← em]; rfl
          have ME := Lib.hid (upto_step .u8 (keyF s) a 32 z Ez)
          have xf := HK.out.ok a (by rw [nums_length]; omega)
          have x0 := HK.out.at a _ (nums_at .u8 _ (show a < 32 by omega))
          have Kl := HK.out.lt
          have o1 := Lib.hid (show Own K (nums .u8 (upto (keyF s) (24 + (k + 1))) 32) (wr.setCells K a [.int .u8 z]) by have := own_set (v := z) HK.out (show a < 32 by omega); rwa [ME.out, show a + 1 = 24 + (k + 1) by omega] at this)
          have o3 := Lib.hid (Own.far (c := K) (o := a) (vs := [.int .u8 z]) HR.out nRK)
          have o4 := Lib.hid (Below.setCells HW.out Kw [.int .u8 z] a)
          have k1 : (k : Int) < 8 := by omega
          have wk : IntKind.i64.wrap ((k : Int) + 1) = (k : Int) + 1 := IntWalk.i64_in _ (by omega)
          have wm : IntKind.i64.wrap (8 * (k : Int)) = (m : Int) := by rw [IntWalk.i64_in _ (by omega)]; omega
          have wa : IntKind.i64.wrap (24 + (k : Int)) = (a : Int) := by rw [IntWalk.i64_in _ (by omega)]; omega
          have a0 : (0 : Int) ≤ (a : Int) := by omega
          have a1 : (a : Int) < 32 := by omega
          have m0 : (0 : Int) ≤ (m : Int) := by omega
          have HE := Lib.hid (show k + 1 ≤ 8 by omega)
          clear ez Ez ME HK HR HW em ea hlt
          go_wp2_with (fail)
          go_roundw
          case rel => (first | exact ⟨k + 1, HE.out, by go_num, o4, o1, o3⟩ | ((repeat apply Exists.intro); exact ⟨⟨k + 1, HE.out, by go_num, o4, o1, o3⟩, rfl⟩))
          case measure => simp [intOf]; omega
        · have e4 : k = 8 := by omega
          subst e4
          rw [upto_all] at HK
          go_upto_region 11 with fail
          have hB0 := HW.out
          refine wp_region_lit ?_
          refine wpList_load_mid rfl 44 _ rfl K 0 rfl (nums .u8 (keyF s) 32) _ HK.out.cell Tryd.underlying44 rfl (by kernel_rfl) ?_
          refine wpList_store_mid rfl 44 _ _ rfl R 0 (nums .u8 (keyF s) 32).toArray rfl rfl HR.out.free (by kernel_rfl) (nums_all _ _ _) ?_
          change wpList _ _ _ [] _ (wr.setCells R 0 (nums .u8 (keyF s) 32))
          have HRn : Hid (Own R (nums .u8 (keyF s) 32) (wr.setCells R 0 (nums .u8 (keyF s) 32))) := Lib.hid (Own.store HR.out (by simp [nums_length]))
          have HKn : Hid (Own K (nums .u8 (keyF s) 32) (wr.setCells R 0 (nums .u8 (keyF s) 32))) := Lib.hid (Own.far (o := 0) (vs := (nums .u8 (keyF s) 32)) HK.out nKR)
          have hB0n : Below w.heap.size w (wr.setCells R 0 (nums .u8 (keyF s) 32)) := Below.setCells hB0 Rw (nums .u8 (keyF s) 32) 0
          clear HR HK hB0
          generalize (wr.setCells R 0 (nums .u8 (keyF s) 32)) = wz at *
          have HR := HRn
          clear HRn
          have HK := HKn
          clear HKn
          have hB0 := hB0n
          clear hB0n
          go_wp2_with (fail)
          have hL := run_loadVar_mid (P := Tryd.prog) _ R 0 44 (nums .u8 (keyF s) 32) _ HR.out.cell Tryd.underlying44 rfl (by kernel_rfl)
          exact bodyPost_ret (v := .agg (nums .u8 (keyF s) 32).toArray) (res_cell Tryd.results14 rfl hL) rfl ⟨rfl, hB0⟩
end Go.Proofs.YtbepgbpmgiihbaaDoor
