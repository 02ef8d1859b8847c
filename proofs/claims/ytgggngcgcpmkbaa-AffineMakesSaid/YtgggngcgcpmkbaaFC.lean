/- The functions of package fix over any numbers: what each call gives. -/
import Derived.Test.YtgggngcgcpmkbaaFB
namespace Go.Proofs.Ytgggngcgcpmkbaa
set_option linter.unusedVariables false
set_option maxRecDepth 2000
open Go.RowKit
attribute [local go_sem] setCell_twice setCell_pair

theorem root_bd (a : Int) (s : Nat) (a1 : a ≤ 9223372036854775807) (s1 : (s : Int) * s ≤ a * 4294967296) : (s : Int) ≤ 281474976710655 := by
  refine Int.not_lt.1 fun h => ?_
  have := Int.mul_le_mul (show (281474976710656 : Int) ≤ s by omega) (show (281474976710656 : Int) ≤ s by omega) (by omega) (by omega)
  omega

def in64 (z : Int) : Prop := -9223372036854775808 ≤ z ∧ z ≤ 9223372036854775807
def addS (s x : Int) : Int := sat (s + x)
theorem in64_sat (z : Int) : in64 (sat z) := sat_bd z
theorem fold_step (f : Int → Int → Int) (s : Int) (zs : List Int) (k : Nat) (h : k < zs.length) : (zs.drop k).foldl f s = (zs.drop (k + 1)).foldl f (f s (zs.getD k 0)) := by
  rw [List.drop_eq_getElem_cons h, List.foldl_cons]
  have e : zs.getD k 0 = zs[k] := by simp [h]
  rw [e]

/-- a slice of Fix reads as whole numbers -/
structure FixSl (w : World) (blk off n : Nat) (zs : List Int) : Prop where
  len : zs.length = n
  bd : ∀ k, k < n → in64 (zs.getD k 0)
  cell : ∀ k, k < n → w.cell? ⟨blk, off + k, none⟩ = some (.int .i64 (zs.getD k 0))

set_option maxHeartbeats 1000000 in
theorem FAdd_walk (blk off n cap : Nat) (zs : List Int) (R : Int) (hN : n ≤ 4611686018427387904) (w : World) (sl : FixSl w blk off n zs) (hR : zs.foldl addS 0 = R) :
    Calls Try.prog 123 #[.slice (some ⟨blk, off, none⟩) n cap] w fun e w' => e = .returned (.int .i64 R) ∧ w = w' := by
  have HR := Lib.hid hR; clear hR
  go_enter Try.func123, Try.ntmps123
  go_wp2
  go_loop [3, 8] (fun x i => ∃ (k : Nat) (s : Int), k ≤ n ∧ i = .int .i64 k ∧ x = .int .i64 s ∧ Hid ((zs.drop k).foldl addS s = R) ∧ Hid (in64 s)) (fun _ i => (n - (intOf i).toNat))
  case atStart => exact ⟨0, 0, by omega, rfl, rfl, HR.out, by show in64 0; unfold in64; omega⟩
  case round =>
    obtain ⟨k, s, hk, rfl, rfl, hs, hw⟩ := hrel
    by_cases hlt : k < n
    · have c := sl.cell k hlt
      have wz := sl.bd k hlt
      have st := fold_step addS s zs k (by rw [sl.len]; exact hlt)
      rw [hs.out] at st
      generalize zs.getD k 0 = z at *
      have nx := Lib.hid st.symm
      have pl := Lib.hid (fun w => fplus_any s z hw.out.1 hw.out.2 wz.1 wz.2 w)
      clear st hw wz hs
      go_wp2_with (go_at_call 130; refine (pl.out _).mono ?_; rintro e w1 ⟨rfl, rfl⟩)
      go_round
      case rel => exact ⟨k + 1, _, by omega, by go_num, rfl, nx, in64_sat _⟩
      case measure => simp [intOf]; omega
    · obtain rfl : k = n := by omega
      have he := hs.out
      rw [List.drop_eq_nil_of_le (by rw [sl.len]; exact Nat.le_refl _)] at he
      have HE := Lib.hid he
      clear he hs
      go_wp2
      go_ret
      exact ⟨ret_int HE.out, rfl⟩

theorem FAdd_nil (p : Option Addr) (cap : Nat) (w : World) : Calls Try.prog 123 #[.slice p 0 cap] w fun e w' => e = .returned (.int .i64 0) ∧ w = w' := by
  go_enter Try.func123, Try.ntmps123
  go_wp2
  go_loop [3, 8] (fun x i => x = .int .i64 0 ∧ i = .int .i64 0) (fun _ i => 0)
  case atStart => exact ⟨rfl, rfl⟩
  case round =>
    obtain ⟨rfl, rfl⟩ := hrel
    go_wp2
    go_ret
    exact ⟨rfl, rfl⟩

set_option maxHeartbeats 1000000 in
theorem FMul_walk (blk off n cap : Nat) (zs : List Int) (R : Int) (hN : n ≤ 4611686018427387904) (w : World) (hbk : blk < w.heap.size) (sl : FixSl w blk off n zs) (hR : zs.foldl mulF 4294967296 = R) :
    Calls Try.prog 132 #[.slice (some ⟨blk, off, none⟩) n cap] w fun e w' => e = .returned (.int .i64 R) ∧ Below w.heap.size w w' := by
  have HR := Lib.hid hR; clear hR
  go_enter Try.func132, Try.ntmps132
  go_wp2
  go_loopw [3, 8] (fun x i wr => ∃ (k : Nat) (s : Int), k ≤ n ∧ i = .int .i64 k ∧ x = .int .i64 s ∧ Hid ((zs.drop k).foldl mulF s = R) ∧ Hid (in64 s) ∧ Below w.heap.size w wr) (fun _ i _ => (n - (intOf i).toNat))
  case atStart => exact ⟨0, 4294967296, by omega, rfl, rfl, HR.out, (by show in64 4294967296; unfold in64; omega), Below.refl _ _⟩
  case round =>
    obtain ⟨k, s, hk, rfl, rfl, hs, hw, hB⟩ := hrel
    by_cases hlt : k < n
    · have c := hB.cell (p := ⟨blk, off + k, none⟩) (by simpa using hbk)
      rw [sl.cell k hlt] at c
      have wz := sl.bd k hlt
      have st := fold_step mulF s zs k (by rw [sl.len]; exact hlt)
      rw [hs.out] at st
      generalize zs.getD k 0 = z at *
      have nx := Lib.hid st.symm
      have pl := Lib.hid (fun w => times_any s z hw.out.1 hw.out.2 wz.1 wz.2 w)
      clear st hw wz hs
      go_wp2_with (go_at_call 135; refine (pl.out _).mono ?_; rintro e w1 ⟨rfl, hc⟩)
      go_roundw
      case rel => exact ⟨k + 1, _, by omega, by go_num, rfl, nx, in64_sat _, below_step hB hc⟩
      case measure => simp [intOf]; omega
    · obtain rfl : k = n := by omega
      have he := hs.out
      rw [List.drop_eq_nil_of_le (by rw [sl.len]; exact Nat.le_refl _)] at he
      have HE := Lib.hid he
      clear he hs
      go_wp2
      go_ret
      exact ⟨ret_int HE.out, hB⟩

theorem FMul_nil (p : Option Addr) (cap : Nat) (w : World) : Calls Try.prog 132 #[.slice p 0 cap] w fun e w' => e = .returned (.int .i64 4294967296) ∧ w = w' := by
  go_enter Try.func132, Try.ntmps132
  go_wp2
  go_loop [3, 8] (fun x i => x = .int .i64 4294967296 ∧ i = .int .i64 0) (fun _ i => 0)
  case atStart => exact ⟨rfl, rfl⟩
  case round =>
    obtain ⟨rfl, rfl⟩ := hrel
    go_wp2
    go_ret
    exact ⟨rfl, rfl⟩

theorem FixSl.take {w : World} {blk off n : Nat} {zs : List Int} (h : FixSl w blk off n zs) (m : Nat) (hm : m ≤ n) : FixSl w blk off m (zs.take m) := by
  have e : ∀ k, k < m → (zs.take m).getD k 0 = zs.getD k 0 := fun k hk => by simp [List.getElem?_take_of_lt hk]
  exact ⟨by rw [List.length_take, h.len]; omega, fun k hk => by rw [e k hk]; exact h.bd k (by omega), fun k hk => by rw [e k hk]; exact h.cell k (by omega)⟩
theorem FixSl.below {w w' : World} {blk off n : Nat} {zs : List Int} (h : FixSl w blk off n zs) (hb : blk < w.heap.size) (hB : Below w.heap.size w w') : FixSl w' blk off n zs :=
  ⟨h.len, h.bd, fun k hk => by rw [hB.cell (p := ⟨blk, off + k, none⟩) (by simpa using hb)]; exact h.cell k hk⟩

theorem FixSl.two {w : World} {blk : Nat} {x y : Int} (hx : in64 x) (hy : in64 y) (c0 : w.cell? ⟨blk, 0, none⟩ = some (.int .i64 x)) (c1 : w.cell? ⟨blk, 1, none⟩ = some (.int .i64 y)) : FixSl w blk 0 2 [x, y] :=
  ⟨rfl, fun k hk => match k, hk with | 0, _ => hx | 1, _ => hy, fun k hk => match k, hk with | 0, _ => c0 | 1, _ => c1⟩

theorem FAdd_two (blk : Nat) (x y R : Int) (w : World) (hx : in64 x) (hy : in64 y) (c0 : w.cell? ⟨blk, 0, none⟩ = some (.int .i64 x)) (c1 : w.cell? ⟨blk, 1, none⟩ = some (.int .i64 y)) (hR : sat (x + y) = R) :
    Calls Try.prog 123 #[.slice (some ⟨blk, 0, none⟩) 2 2] w fun e w' => e = .returned (.int .i64 R) ∧ w = w' := by
  refine FAdd_walk blk 0 2 2 [x, y] R (by omega) w (.two hx hy c0 c1) ?_
  show sat (sat (0 + x) + y) = R
  rw [Int.zero_add, sat_in x hx.1 hx.2, hR]

theorem mulF_one (x : Int) (hx : in64 x) : mulF 4294967296 x = x := by
  unfold mulF
  rw [show (4294967296 : Int) * x / 4294967296 = x by omega, sat_in x hx.1 hx.2]

theorem FMul_two (blk : Nat) (x y R : Int) (w : World) (hb : blk < w.heap.size) (hx : in64 x) (hy : in64 y) (c0 : w.cell? ⟨blk, 0, none⟩ = some (.int .i64 x)) (c1 : w.cell? ⟨blk, 1, none⟩ = some (.int .i64 y)) (hR : mulF x y = R) :
    Calls Try.prog 132 #[.slice (some ⟨blk, 0, none⟩) 2 2] w fun e w' => e = .returned (.int .i64 R) ∧ Below w.heap.size w w' := by
  refine FMul_walk blk 0 2 2 [x, y] R (by omega) w hb (.two hx hy c0 c1) ?_
  show mulF (mulF 4294967296 x) y = R
  rw [mulF_one x hx, hR]

/-- a to b by t -/
def lerpF (a b t : Int) : Int := sat (a + mulF (sat (b - a)) t)

end Go.Proofs.Ytgggngcgcpmkbaa
