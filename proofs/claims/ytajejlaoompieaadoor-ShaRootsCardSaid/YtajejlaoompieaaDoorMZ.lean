/- HX HY HZa HZb HZc HZd HZe, in one text. -/
import Derived.Test.YtajejlaoompieaaDoorHB
import Derived.Test.YtajejlaoompieaaDoorHU
import Derived.Lib.Hide
import Derived.Laws.MathBits
import Derived.Laws.Externs
import Derived.Lib.Mul64
import Derived.Laws.BitsAllLaws
import Derived.LoopN
import Derived.LoopTactic
import Derived.Test.YtajejlaoompieaaDoorHE
import Derived.Deep.Onto
import Derived.Laws.OwnMore
import Derived.Test.YtajejlaoompieaaDoorHD
import Derived.Deep.WholeRow
import Derived.Deep.RegionHeld3
import Derived.Test.YtajejlaoompieaaDoorHS
/- HX -/
namespace Go.Proofs.YtajejlaoompieaaDoor
set_option linter.unusedVariables false
set_option maxRecDepth 2000
set_option linter.unusedSimpArgs false
open Go.RowKit
def l64 (x : Int) : Int := x % 18446744073709551616
def h64 (x : Int) : Int := x / 18446744073709551616
def inU (x : Int) : Prop := 0 ≤ x ∧ x < 18446744073709551616
theorem in_l64 (x : Int) : inU (l64 x) := by unfold inU l64; omega
/-- bits.Add64 -/
theorem padd (x y c : Int) (hx : inU x) (hy : inU y) (c0 : 0 ≤ c) (c1 : c ≤ 1) (w : World) :
    (callFunc 36 #[.int .u64 x, .int .u64 y, .int .u64 c]).run Tryd.prog w = .ok (.value (.tuple #[.int .u64 (l64 (x + y + c)), .int .u64 (h64 (x + y + c))])) w := by
  rw [run_callFunc_extern Tryd.func36 (by kernel_rfl) (by kernel_rfl) (by kernel_rfl) (e := add64Entry) (by kernel_rfl), run_add64 x y c hx.1 hy.1 (by omega) (by omega)]
  rfl
theorem pret_tup {k k' : IntKind} {a b c d : Int} (h : a = b) (h' : c = d) : Ending.returned (.tuple #[.int k a, .int k' c]) = .returned (.tuple #[.int k b, .int k' d]) := by rw [h, h']
theorem pmul64_walk (x y : Int) (hx0 : 0 ≤ x) (hx : x < 18446744073709551616) (hy0 : 0 ≤ y) (hy : y < 18446744073709551616) :
  IntKind.u64.wrap (IntKind.u64.wrap (IntKind.u64.wrap (x / 4294967296 * (y / 4294967296)) + IntKind.u64.wrap (IntKind.u64.wrap (x / 4294967296 * bits BinOp.and IntKind.u64 y 4294967295) + IntKind.u64.wrap (bits BinOp.and IntKind.u64 x 4294967295 * bits BinOp.and IntKind.u64 y 4294967295) / 4294967296) / 4294967296) +
    IntKind.u64.wrap (bits BinOp.and IntKind.u64 (IntKind.u64.wrap (IntKind.u64.wrap (x / 4294967296 * bits BinOp.and IntKind.u64 y 4294967295) + IntKind.u64.wrap (bits BinOp.and IntKind.u64 x 4294967295 * bits BinOp.and IntKind.u64 y 4294967295) / 4294967296)) 4294967295 + IntKind.u64.wrap (bits BinOp.and IntKind.u64 x 4294967295 * (y / 4294967296))) / 4294967296) = h64 (x * y) := by
  rw [and_low32 x hx0 hx, and_low32 y hy0 hy, and_low32 (IntKind.u64.wrap _) (by rw [IntKind.wrap_u64]; omega) (by rw [IntKind.wrap_u64]; omega)]
  simp only [IntKind.wrap_u64]
  exact mul64_arith x y hx0 hx hy0 hy
set_option maxHeartbeats 1000000 in
theorem PMul64_any (x y : Int) (hx : inU x) (hy : inU y) (w : World) :
    Calls Tryd.prog 35 #[.int .u64 x, .int .u64 y] w fun e w' => e = .returned (.tuple #[.int .u64 (h64 (x * y)), .int .u64 (l64 (x * y))]) ∧ w = w' := by
  have hx0 := hx.1; have hx1 := hx.2; have hy0 := hy.1; have hy1 := hy.2
  go_enter Tryd.func35, Tryd.ntmps35
  go_wp2
  go_ret2
  exact ⟨pret_tup (pmul64_walk x y hx0 hx1 hy0 hy1) (IntKind.wrap_u64 _), rfl⟩
theorem PMul_calls {x y h l : Int} (eh : h64 (x * y) = h) (el : l64 (x * y) = l) (hx : inU x) (hy : inU y) : ∀ w, Calls Tryd.prog 35 #[.int .u64 x, .int .u64 y] w fun e w' => e = .returned (.tuple #[.int .u64 h, .int .u64 l]) ∧ w = w' := by
  subst eh; subst el; exact PMul64_any x y hx hy

def sqT (x p : Nat) : Bool := decide (x * x ≤ p * 18446744073709551616)
def cuT (x p : Nat) : Bool := decide (x * x * x / 18446744073709551616 < p * 4294967296)
theorem h64_nat (x y h : Nat) (e : x * y / 18446744073709551616 = h) : h64 ((x : Int) * (y : Int)) = (h : Int) := by
  unfold h64; rw [← Int.natCast_mul]; omega
theorem l64_nat (x y l : Nat) (e : x * y % 18446744073709551616 = l) : l64 ((x : Int) * (y : Int)) = (l : Int) := by
  unfold l64; rw [← Int.natCast_mul]; omega
theorem sq_bound {x : Nat} (hx : x < 137438953472) : x * x < 18889465931478580854784 := by
  have := Nat.mul_lt_mul_of_lt_of_le hx (Nat.le_of_lt hx) (by decide)
  omega

set_option maxHeartbeats 4000000 in
theorem square_any (x p : Nat) (hx : x < 137438953472) (hp : p < 400) (w : World) : Calls Tryd.prog 34 #[.int .u64 (x : Int), .int .u64 (p : Int)] w fun e w' => e = .returned (.bool (sqT x p)) ∧ w' = w := by
  have hq := sq_bound hx
  obtain ⟨q, eq⟩ : ∃ q, x * x = q := ⟨_, rfl⟩
  obtain ⟨h, eh⟩ : ∃ h, q / 18446744073709551616 = h := ⟨_, rfl⟩
  obtain ⟨l, el⟩ : ∃ l, q % 18446744073709551616 = l := ⟨_, rfl⟩
  have MC := Lib.hid (PMul_calls (h64_nat x x h (by rw [eq]; exact eh)) (l64_nat x x l (by rw [eq]; exact el)) (by unfold inU; omega) (by unfold inU; omega))
  obtain ⟨B, eB⟩ : ∃ B, sqT x p = B := ⟨_, rfl⟩
  have EB := eB
  unfold sqT at EB
  rw [eq] at EB hq
  rw [eB]
  clear eB
  go_enter Tryd.func34, Tryd.ntmps34
  go_wp2_with (fail)
  go_at_call 35
  refine (MC.out _).mono ?_
  rintro e w1 ⟨rfl, rfl⟩
  by_cases h1 : h < p
  · have g1 : decide ((h : Int) < (p : Int)) = true := decide_eq_true (by omega)
    have g1n : decide (h < p) = true := decide_eq_true h1
    obtain rfl : B = true := by rw [← EB]; exact decide_eq_true (by omega)
    clear eq eh el hx hp hq EB h1
    go_wp2_with (fail)
    go_ret
    exact ⟨rfl, rfl⟩
  · have g1 : decide ((h : Int) < (p : Int)) = false := decide_eq_false (by omega)
    have g1n : decide (h < p) = false := decide_eq_false h1
    by_cases h2 : h = p
    · by_cases h3 : l = 0
      · obtain rfl : B = true := by rw [← EB]; exact decide_eq_true (by omega)
        subst h3
        have g2 : ((h : Int) = (p : Int)) := by omega
        clear eq eh hx hp hq EB h1 el
        go_wp2_with (fail)
        go_ret
        exact ⟨by first | rfl | simp [h2], rfl⟩
      · obtain rfl : B = false := by rw [← EB]; exact decide_eq_false (by omega)
        have g3 : ¬ ((l : Int) = 0) := by omega
        have g2 : ((h : Int) = (p : Int)) := by omega
        clear eq eh el hx hp hq EB h1
        go_wp2_with (fail)
        go_ret
        exact ⟨by first | rfl | simp [h3], rfl⟩
    · obtain rfl : B = false := by rw [← EB]; exact decide_eq_false (by omega)
      have g2 : ¬ ((h : Int) = (p : Int)) := by omega
      clear eq eh el hx hp hq EB h1
      go_wp2_with (fail)
      go_ret
      exact ⟨by first | rfl | simp [h2], rfl⟩
end Go.Proofs.YtajejlaoompieaaDoor

/- HY -/
namespace Go.Proofs.YtajejlaoompieaaDoor
set_option linter.unusedVariables false
set_option maxRecDepth 2000
set_option linter.unusedSimpArgs false
open Go.RowKit
theorem cube_arith (u v a b c d t s : Nat) (ha : u / 18446744073709551616 = a) (hb : u % 18446744073709551616 = b) (hc : v / 18446744073709551616 = c) (hd : v % 18446744073709551616 = d) (ht : a * 4294967296 + b / 4294967296 = t) (hs : (b * 4294967296 % 18446744073709551616 + d) / 18446744073709551616 = s) : (u * 4294967296 + v) / 18446744073709551616 = t + c + s := by omega
theorem join64 (x y : Nat) (hx : x < 4294967296) (hy : y < 4294967296) (z : Nat) (hz : x * 4294967296 + y = z) : bits .or .u64 ((x * 4294967296 : Nat) : Int) (y : Int) = (z : Int) := by
  rw [u64_or_nat _ _ (by omega) (by omega), nat_join 32 _ _ (by omega) (by omega), hz]
theorem cube_split (x q m r : Nat) (hq : x * x = q) (hm : q / 4294967296 = m) (hr : q % 4294967296 = r) : x * x * x = m * x * 4294967296 + r * x := by
  rw [hq, show q = m * 4294967296 + r by omega, Nat.add_mul, Nat.mul_right_comm]

set_option maxHeartbeats 4000000 in
theorem cube_any (x p : Nat) (hx : x < 137438953472) (hp : p < 400) (w : World) : Calls Tryd.prog 33 #[.int .u64 (x : Int), .int .u64 (p : Int)] w fun e w' => e = .returned (.bool (cuT x p)) ∧ w' = w := by
  have hq := sq_bound hx
  obtain ⟨q, eq⟩ : ∃ q, x * x = q := ⟨_, rfl⟩
  rw [eq] at hq
  obtain ⟨h, eh⟩ : ∃ h, q / 18446744073709551616 = h := ⟨_, rfl⟩
  obtain ⟨l, el⟩ : ∃ l, q % 18446744073709551616 = l := ⟨_, rfl⟩
  obtain ⟨m, em⟩ : ∃ m, q / 4294967296 = m := ⟨_, rfl⟩
  obtain ⟨r, er⟩ : ∃ r, q % 4294967296 = r := ⟨_, rfl⟩
  have X3 := cube_split x q m r eq em er
  have hm : m < 4398046511104 := by omega
  have hr : r < 4294967296 := by omega
  have hu : m * x < 604462909807314587353088 := by
    have := Nat.mul_lt_mul_of_lt_of_le hm (Nat.le_of_lt hx) (by decide)
    omega
  have hv : r * x < 590295810358705651712 := by
    have := Nat.mul_lt_mul_of_lt_of_le hr (Nat.le_of_lt hx) (by decide)
    omega
  obtain ⟨u, eu⟩ : ∃ u, m * x = u := ⟨_, rfl⟩
  obtain ⟨v, ev⟩ : ∃ v, r * x = v := ⟨_, rfl⟩
  rw [eu, ev] at X3
  rw [eu] at hu
  rw [ev] at hv
  obtain ⟨a, ea⟩ : ∃ a, u / 18446744073709551616 = a := ⟨_, rfl⟩
  obtain ⟨b, eb⟩ : ∃ b, u % 18446744073709551616 = b := ⟨_, rfl⟩
  obtain ⟨c, ec⟩ : ∃ c, v / 18446744073709551616 = c := ⟨_, rfl⟩
  obtain ⟨d, ed⟩ : ∃ d, v % 18446744073709551616 = d := ⟨_, rfl⟩
  obtain ⟨bl, ebl⟩ : ∃ bl, b * 4294967296 % 18446744073709551616 = bl := ⟨_, rfl⟩
  obtain ⟨s, es⟩ : ∃ s, (bl + d) / 18446744073709551616 = s := ⟨_, rfl⟩
  obtain ⟨lo, elo⟩ : ∃ lo, (bl + d) % 18446744073709551616 = lo := ⟨_, rfl⟩
  obtain ⟨bh, ebh⟩ : ∃ bh, b / 4294967296 = bh := ⟨_, rfl⟩
  obtain ⟨al, eal⟩ : ∃ al, a * 4294967296 = al := ⟨_, rfl⟩
  obtain ⟨t, et⟩ : ∃ t, al + bh = t := ⟨_, rfl⟩
  have AR := cube_arith u v a b c d t s ea eb ec ed (by rw [eal, ebh]; exact et) (by rw [ebl]; exact es)
  rw [← X3] at AR
  replace AR := Lib.hid AR
  replace X3 := Lib.hid X3
  have hl64 : l < 18446744073709551616 := by omega
  have hmq : h * 4294967296 + l / 4294967296 = m := by clear AR X3 ea eb ec ed ebl es elo ebh eal et eu ev hu hv hr hx hp eq; omega
  have M1 := Lib.hid (PMul_calls (h64_nat x x h (by rw [eq]; exact eh)) (l64_nat x x l (by rw [eq]; exact el)) (by unfold inU; omega) (by unfold inU; omega))
  have M2 := Lib.hid (PMul_calls (h64_nat m x a (by rw [eu]; exact ea)) (l64_nat m x b (by rw [eu]; exact eb)) (by unfold inU; omega) (by unfold inU; omega))
  have M3 := Lib.hid (PMul_calls (h64_nat r x c (by rw [ev]; exact ec)) (l64_nat r x d (by rw [ev]; exact ed)) (by unfold inU; omega) (by unfold inU; omega))
  have pd : ∀ w, (callFunc 36 #[.int .u64 (bl : Int), .int .u64 (d : Int), .int .u64 0]).run Tryd.prog w = .ok (.value (.tuple #[.int .u64 (lo : Int), .int .u64 (s : Int)])) w := fun w => by
    rw [padd (bl : Int) (d : Int) 0 (by unfold inU; omega) (by unfold inU; omega) (by decide) (by decide) w, show l64 ((bl : Int) + (d : Int) + 0) = (lo : Int) by unfold l64; omega, show h64 ((bl : Int) + (d : Int) + 0) = (s : Int) by unfold h64; omega]
  obtain ⟨hs, ehs⟩ : ∃ hs, h * 4294967296 = hs := ⟨_, rfl⟩
  obtain ⟨lh, elh⟩ : ∃ lh, l / 4294967296 = lh := ⟨_, rfl⟩
  obtain ⟨ls, els⟩ : ∃ ls, l * 4294967296 % 18446744073709551616 = ls := ⟨_, rfl⟩
  have J1 : bits .or .u64 (hs : Int) (lh : Int) = (m : Int) := by have j1 := join64 h lh (by clear hu hv; omega) (by clear hu hv; omega) m (by rw [← elh]; exact hmq); rw [ehs] at j1; exact j1
  have J2 : bits .or .u64 (al : Int) (bh : Int) = (t : Int) := by have j1 := join64 a bh (by omega) (by omega) t (by rw [eal]; exact et); rw [eal] at j1; exact j1
  have k1 : (h : Int) * 4294967296 % 18446744073709551616 = (hs : Int) := by omega
  have k1w : IntKind.u64.wrap ((h : Int) * 4294967296) = (hs : Int) := (IntKind.wrap_u64 _).trans k1
  have k2 : (l : Int) / 4294967296 = (lh : Int) := by omega
  have k3 : (l : Int) * 4294967296 % 18446744073709551616 = (ls : Int) := by omega
  have k3w : IntKind.u64.wrap ((l : Int) * 4294967296) = (ls : Int) := (IntKind.wrap_u64 _).trans k3
  have k4 : (ls : Int) / 4294967296 = (r : Int) := by omega
  have k5 : (b : Int) * 4294967296 % 18446744073709551616 = (bl : Int) := by omega
  have k5w : IntKind.u64.wrap ((b : Int) * 4294967296) = (bl : Int) := (IntKind.wrap_u64 _).trans k5
  have k6 : (a : Int) * 4294967296 % 18446744073709551616 = (al : Int) := by omega
  have k6w : IntKind.u64.wrap ((a : Int) * 4294967296) = (al : Int) := (IntKind.wrap_u64 _).trans k6
  have k7 : (b : Int) / 4294967296 = (bh : Int) := by omega
  obtain ⟨f, ef⟩ : ∃ f, t + c = f := ⟨_, rfl⟩
  obtain ⟨g, eg⟩ : ∃ g, f + s = g := ⟨_, rfl⟩
  have k8 : ((t : Int) + (c : Int)) % 18446744073709551616 = (f : Int) := by omega
  have k8w : IntKind.u64.wrap ((t : Int) + (c : Int)) = (f : Int) := (IntKind.wrap_u64 _).trans k8
  have k9 : ((f : Int) + (s : Int)) % 18446744073709551616 = (g : Int) := by omega
  have k9w : IntKind.u64.wrap ((f : Int) + (s : Int)) = (g : Int) := (IntKind.wrap_u64 _).trans k9
  obtain ⟨ps, eps⟩ : ∃ ps, p * 4294967296 = ps := ⟨_, rfl⟩
  have k10 : (p : Int) * 4294967296 % 18446744073709551616 = (ps : Int) := by omega
  have k10w : IntKind.u64.wrap ((p : Int) * 4294967296) = (ps : Int) := (IntKind.wrap_u64 _).trans k10
  obtain ⟨B, eB⟩ : ∃ B, cuT x p = B := ⟨_, rfl⟩
  have EB : decide (g < ps) = B := by
    rw [← eB]
    unfold cuT
    rw [AR.out, ef, eg, eps]
  have EBi : decide ((g : Int) < (ps : Int)) = B := by
    rw [← EB]
    by_cases hh : g < ps
    · rw [decide_eq_true hh, decide_eq_true (by omega)]
    · rw [decide_eq_false hh, decide_eq_false (by omega)]
  rw [eB]
  clear eB AR X3 eq eh el em er eu ev ea eb ec ed ebl es elo ebh eal et ehs elh els ef eg eps hq hm hr hu hv hx hp
  go_enter Tryd.func33, Tryd.ntmps33
  go_wp2_with (fail)
  go_at_call 35
  refine (M1.out _).mono ?_
  rintro e w1 ⟨rfl, rfl⟩
  go_wp2_with (fail)
  go_at_call 35
  refine (M2.out _).mono ?_
  rintro e w2 ⟨rfl, rfl⟩
  go_wp2_with (fail)
  go_at_call 35
  refine (M3.out _).mono ?_
  rintro e w3 ⟨rfl, rfl⟩
  go_wp2_with (fail)
  go_ret
  exact ⟨rfl, rfl⟩
end Go.Proofs.YtajejlaoompieaaDoor

/- HZa -/
namespace Go.Proofs.YtajejlaoompieaaDoor
set_option linter.unusedVariables false
set_option maxRecDepth 2000
set_option linter.unusedSimpArgs false
open Go.RowKit
/-- the search for a root, bit by bit -/
def rtF (t : Nat → Bool) : Nat → Nat
  | 0 => 0
  | k + 1 => if t (rtF t k + 2 ^ (36 - k)) then rtF t k + 2 ^ (36 - k) else rtF t k
theorem rt_bound (t : Nat → Bool) : ∀ k, k ≤ 37 → rtF t k + 2 ^ (37 - k) ≤ 137438953472
  | 0, _ => by show 0 + 2 ^ 37 ≤ 137438953472; decide
  | k + 1, hk => by
    have ih := rt_bound t k (by omega)
    have e : 2 ^ (37 - k) = 2 ^ (36 - k) + 2 ^ (36 - k) := by rw [show 37 - k = 36 - k + 1 by omega, Nat.pow_succ]; omega
    rw [show 37 - (k + 1) = 36 - k by omega]
    unfold rtF
    rw [e] at ih
    clear e
    generalize 2 ^ (36 - k) = c at *
    split <;> omega
def tst (three : Bool) (p : Nat) (x : Nat) : Bool := if three then cuT x p else sqT x p
theorem tst_true (p y : Nat) : tst true p y = cuT y p := by unfold tst; rw [if_pos rfl]
theorem tst_false (p y : Nat) : tst false p y = sqT y p := by unfold tst; rw [if_neg (by decide)]
def rootF (three : Bool) (p : Nat) : Nat := rtF (tst three p) 37 % 4294967296
theorem pow36 (m : Nat) (hm : m ≤ 36) : 2 ^ m ≤ 68719476736 := Nat.le_trans (Nat.pow_le_pow_right (by decide) hm) (by decide)

set_option maxHeartbeats 4000000 in
theorem root_any (p z : Nat) (three : Bool) (hp : p < 400) (hz : ∀ k x, k = 37 → rtF (tst three p) k = x → x % 4294967296 = z) (w : World) : Calls Tryd.prog 29 #[.int .u64 (p : Int), .bool three] w fun e w' => e = .returned (.int .u32 (z : Nat)) ∧ w' = w := by
  have HP := Lib.hid hp
  have HZ := Lib.hid hz
  clear hp hz
  go_enter Tryd.func29, Tryd.ntmps29
  go_wp2_with (fail)
  go_loopw [5, 6] (fun xv iv wr => ∃ (k x : Nat), k ≤ 37 ∧ rtF (tst three p) k = x ∧ xv = .int .u64 x ∧ iv = .int .i64 (36 - (k : Int)) ∧ wr = w) (fun _ iv _ => (intOf iv + 1).toNat)
  case atStart => exact ⟨0, 0, Nat.zero_le _, rfl, rfl, rfl, rfl⟩
  case round =>
    obtain ⟨k, x, hk, ex, rfl, rfl, rfl⟩ := hrel
    by_cases hlt : k < 37
    · obtain ⟨m, em⟩ : ∃ m, 36 - k = m := ⟨_, rfl⟩
      rw [show (36 : Int) - (k : Int) = (m : Int) by omega]
      have hbd := rt_bound (tst three p) k hk
      have NX : rtF (tst three p) (k + 1) = if tst three p (x + 2 ^ m) then x + 2 ^ m else x := by
        show (if tst three p (rtF (tst three p) k + 2 ^ (36 - k)) then rtF (tst three p) k + 2 ^ (36 - k) else rtF (tst three p) k) = _
        rw [ex, em]
      have hm36 : m ≤ 36 := by omega
      obtain ⟨q, eq⟩ : ∃ q, 2 ^ m = q := ⟨_, rfl⟩
      rw [ex, show 37 - k = m + 1 by omega, Nat.pow_succ, eq] at hbd
      rw [eq] at NX
      obtain ⟨y, ey⟩ : ∃ y, x + q = y := ⟨_, rfl⟩
      rw [ey] at NX
      have hq1 : 1 ≤ q := by rw [← eq]; exact Nat.pow_pos (by decide)
      have hy : y < 137438953472 := by omega
      have hq := pow36 m hm36
      have k1 : (2 : Int) ^ m = (q : Int) := by rw [← eq]; push_cast; rfl
      have k2 : (q : Int) % 18446744073709551616 = (q : Int) := by omega
      have k2w : IntKind.u64.wrap (q : Int) = (q : Int) := (IntKind.wrap_u64 _).trans k2
      have k3 : (x : Int) + (q : Int) = (y : Int) := by omega
      have k4 : (y : Int) % 18446744073709551616 = (y : Int) := by omega
      have k4w : IntKind.u64.wrap (y : Int) = (y : Int) := (IntKind.wrap_u64 _).trans k4
      have mm : min m 64 = m := by omega
      have m0 : (0 : Int) ≤ (m : Int) := by omega
      have wm1 : IntKind.i64.wrap ((m : Int) - 1) = (m : Int) - 1 := IntWalk.i64_in _ (by omega)
      have EM := Lib.hid (show (m : Int) - 1 = 36 - ((k + 1 : Nat) : Int) by omega)
      have HLT := Lib.hid hlt
      have CC := Lib.hid (cube_any y p hy HP.out)
      have SC := Lib.hid (square_any y p hy HP.out)
      clear hlt hk ex em hbd eq ey hq1 hy hq hm36
      cases three with
      | true =>
        rw [tst_true] at NX
        obtain ⟨B, eB⟩ : ∃ B, cuT y p = B := ⟨_, rfl⟩
        rw [eB] at CC NX
        clear eB
        cases B with
        | true =>
          rw [if_pos (rfl : true = true)] at NX
          replace NX := Lib.hid NX
          go_wp2_with (fail)
          go_at_call 33
          refine (CC.out _).mono ?_
          rintro e_ wz ⟨rfl, rfl⟩
          go_wp2_with (fail)
          go_roundw
          case rel => (first | exact ⟨k + 1, y, HLT.out, NX.out, rfl, by rw [EM.out], by first | rfl | trivial⟩ | ((repeat apply Exists.intro); exact ⟨⟨k + 1, y, HLT.out, NX.out, rfl, by rw [EM.out], by first | rfl | trivial⟩, rfl⟩))
          case measure => (first | (simp [intOf]; done) | (simp [intOf]; omega))
        | false =>
          rw [if_neg Bool.false_ne_true] at NX
          replace NX := Lib.hid NX
          go_wp2_with (fail)
          go_at_call 33
          refine (CC.out _).mono ?_
          rintro e_ wz ⟨rfl, rfl⟩
          go_wp2_with (fail)
          go_roundw
          case rel => (first | exact ⟨k + 1, x, HLT.out, NX.out, rfl, by rw [EM.out], by first | rfl | trivial⟩ | ((repeat apply Exists.intro); exact ⟨⟨k + 1, x, HLT.out, NX.out, rfl, by rw [EM.out], by first | rfl | trivial⟩, rfl⟩))
          case measure => (first | (simp [intOf]; done) | (simp [intOf]; omega))
      | false =>
        rw [tst_false] at NX
        obtain ⟨B, eB⟩ : ∃ B, sqT y p = B := ⟨_, rfl⟩
        rw [eB] at SC NX
        clear eB
        cases B with
        | true =>
          rw [if_pos (rfl : true = true)] at NX
          replace NX := Lib.hid NX
          go_wp2_with (fail)
          go_at_call 34
          refine (SC.out _).mono ?_
          rintro e_ wz ⟨rfl, rfl⟩
          go_wp2_with (fail)
          go_roundw
          case rel => (first | exact ⟨k + 1, y, HLT.out, NX.out, rfl, by rw [EM.out], by first | rfl | trivial⟩ | ((repeat apply Exists.intro); exact ⟨⟨k + 1, y, HLT.out, NX.out, rfl, by rw [EM.out], by first | rfl | trivial⟩, rfl⟩))
          case measure => (first | (simp [intOf]; done) | (simp [intOf]; omega))
        | false =>
          rw [if_neg Bool.false_ne_true] at NX
          replace NX := Lib.hid NX
          go_wp2_with (fail)
          go_at_call 34
          refine (SC.out _).mono ?_
          rintro e_ wz ⟨rfl, rfl⟩
          go_wp2_with (fail)
          go_roundw
          case rel => (first | exact ⟨k + 1, x, HLT.out, NX.out, rfl, by rw [EM.out], by first | rfl | trivial⟩ | ((repeat apply Exists.intro); exact ⟨⟨k + 1, x, HLT.out, NX.out, rfl, by rw [EM.out], by first | rfl | trivial⟩, rfl⟩))
          case measure => (first | (simp [intOf]; done) | (simp [intOf]; omega))
    · have hk37 : k = 37 := by omega
      have hz := HZ.out k x hk37 ex
      rw [show (36 : Int) - (k : Int) = -1 by omega]
      have g4_ : decide ((0 : Int) ≤ -1) = false := by decide
      have c1 : (x : Int) % 4294967296 = (z : Int) := by omega
      have c2 : IntKind.u32.wrap (x : Int) = (z : Int) := (IntKind.wrap_u32' _).trans c1
      clear ex hk37 hk hlt hz HZ
      go_wp2_with (fail)
      go_ret
      exact ⟨rfl, rfl⟩
end Go.Proofs.YtajejlaoompieaaDoor

/- HZb -/
namespace Go.Proofs.YtajejlaoompieaaDoor
set_option linter.unusedVariables false
set_option maxRecDepth 2000
set_option linter.unusedSimpArgs false
open Go.RowKit
theorem infoQ : (Tryd.prog.info? 55).map (fun i => (i.zero, i.size, i.bytes)) = some (some (.int .u64 0), 1, 8) := by kernel_rfl
theorem infoQ_parts : ∃ i, Tryd.prog.info? 55 = some i ∧ i.zero = some (.int .u64 0) ∧ i.size = 1 ∧ i.bytes = 8 := by
  have h := infoQ
  generalize Tryd.prog.info? 55 = x at *
  match x, h with
  | some i, h =>
    simp only [Option.map_some, Option.some.injEq, Prod.mk.injEq] at h
    exact ⟨i, rfl, h.1, h.2.1, h.2.2⟩
def prL : List Nat := [2, 3, 5, 7, 11, 13, 17, 19, 23, 29, 31, 37, 41, 43, 47, 53, 59, 61, 67, 71, 73, 79, 83, 89, 97, 101, 103, 107, 109, 113, 127, 131, 137, 139, 149, 151, 157, 163, 167, 173, 179, 181, 191, 193, 197, 199, 211, 223, 227, 229, 233, 239, 241, 251, 257, 263, 269, 271, 277, 281, 283, 293, 307, 311]
def prN (i : Nat) : Nat := prL.getD i 0
def prI (i : Nat) : Int := (prN i : Int)
/-- how many primes lie below p -/
def cntP (p : Nat) : Nat := (prL.filter fun q => decide (q < p)).length
/-- none of the first j primes divides p -/
def isJ (p : Nat) : Nat → Bool
  | 0 => true
  | j + 1 => isJ p j && decide (0 < p % prN j)
theorem pr_fact : (List.range 312).all (fun p => decide (2 ≤ p → cntP p < 64 ∧ (isJ p (cntP p) = true → cntP (p + 1) = cntP p + 1 ∧ prN (cntP p) = p) ∧ (isJ p (cntP p) = false → cntP (p + 1) = cntP p))) = true := by decide +kernel
theorem pr_step (p : Nat) (h2 : 2 ≤ p) (hp : p < 312) : cntP p < 64 ∧ (isJ p (cntP p) = true → cntP (p + 1) = cntP p + 1 ∧ prN (cntP p) = p) ∧ (isJ p (cntP p) = false → cntP (p + 1) = cntP p) := by
  have := List.all_eq_true.1 pr_fact p (List.mem_range.2 hp)
  exact of_decide_eq_true this h2
theorem cnt_end : cntP 312 = 64 := by decide +kernel
theorem cnt_start : cntP 2 = 0 := by decide +kernel
theorem pr_pos : (List.range 64).all (fun i => decide (2 ≤ prN i ∧ prN i < 400)) = true := by decide +kernel
theorem prN_pos (i : Nat) (hi : i < 64) : 2 ≤ prN i ∧ prN i < 400 := of_decide_eq_true (List.all_eq_true.1 pr_pos i (List.mem_range.2 hi))
theorem pr_app (c p : Nat) (h : prN c = p) : nums .u64 prI c ++ [.int .u64 (p : Int)] = nums .u64 prI (c + 1) := nums_append .u64 prI (fun _ => (p : Int)) c 1 fun j hj => by
  obtain rfl : j = 0 := by omega
  show ((prN (c + 0) : Nat) : Int) = _
  rw [Nat.add_zero, h]
attribute [local go_sem] nums_length

set_option maxHeartbeats 4000000 in
theorem primes_any (w : World) : Calls Tryd.prog 28 #[.int .i64 64] w fun e w' => ∃ v, e = .returned v ∧ w'.ownsRow w.heap.size 55 1 v 64 (nums .u64 prI 64) ∧ Below w.heap.size w w' := by
  obtain ⟨i0, hi, hz0, hz1, hz2⟩ := infoQ_parts
  go_enter Tryd.func28, Tryd.ntmps28
  go_wp2_with (fail)
  go_loopw [3, 4] (fun v pv wr => ∃ (p c : Nat) (p3 : Option Addr) (c3 : Nat), 2 ≤ p ∧ p ≤ 312 ∧ cntP p = c ∧ v = .slice p3 c c3 ∧ pv = .int .u64 p ∧ Hid (wr.ownsRow w.heap.size 55 1 (.slice p3 c c3) c (nums .u64 prI c)) ∧ Hid (Below w.heap.size w wr)) (fun _ pv _ => (312 - (intOf pv).toNat))
  case atStart => exact ⟨2, 0, none, 0, Nat.le_refl _, by decide, cnt_start, rfl, rfl, Lib.hid (World.ownsRow_nil _ _ _ _), Lib.hid (Below.refl _ _)⟩
  case round =>
    obtain ⟨p, c, p3, c3, h2, hp, ec, rfl, rfl, ROW, HB⟩ := hrel
    by_cases hlt : p < 312
    · obtain ⟨hc64, hyes, hno⟩ := pr_step p h2 hlt
      rw [ec] at hc64 hyes hno
      have g1 : decide ((c : Int) < 64) = true := decide_eq_true (by omega)
      have g1n : decide (c < 64) = true := decide_eq_true hc64
      have g2 : decide ((p : Int) < 400) = true := decide_eq_true (by omega)
      have g2n : decide (p < 400) = true := decide_eq_true (by omega)
      have P_ := Lib.hid (show 2 ≤ p ∧ p < 312 ∧ c < 64 from ⟨h2, hlt, hc64⟩)
      have HY := Lib.hid hyes; have HNO := Lib.hid hno
      have s1 : ((p : Int) + 1) % 18446744073709551616 = (p : Int) + 1 := by omega
      have s1w : IntKind.u64.wrap ((p : Int) + 1) = (p : Int) + 1 := (IntKind.wrap_u64 _).trans s1
      clear h2 hp hlt hc64 hyes hno
      go_wp2_with (fail)
      clear g1 g1n g2 g2n
      go_loopw [5, 6] (fun bv iv wq => ∃ (j : Nat) (b : Bool), j ≤ c ∧ isJ p j = b ∧ bv = .bool b ∧ iv = .int .i64 j ∧ Hid (wq.ownsRow w.heap.size 55 1 (.slice p3 c c3) c (nums .u64 prI c)) ∧ Hid (Below w.heap.size w wq)) (fun _ iv _ => (c - (intOf iv).toNat))
      case atStart => exact ⟨0, true, Nat.zero_le _, rfl, rfl, rfl, ROW, HB⟩
      case round =>
        clear ROW HB
        obtain ⟨j, b, hj, eb, rfl, rfl, ROW, HB⟩ := hrel
        by_cases hjt : j < c
        · obtain ⟨X, c4, e4, hXb, hXl⟩ := row_blk ROW.out (by omega)
          cases e4
          have XC := (row_has ROW.out).1.cell j _ (nums_at .u64 prI hjt)
          rw [Nat.zero_add, show prI j = ((prN j : Nat) : Int) from rfl] at XC
          have hx := prN_pos j (by have := P_.out; omega)
          have NX : isJ p (j + 1) = (b && decide (0 < p % prN j)) := by rw [← eb]; rfl
          obtain ⟨x, ex⟩ : ∃ x, prN j = x := ⟨_, rfl⟩
          rw [ex] at XC hx NX
          have xn : ¬ ((x : Int) = 0) := by omega
          have xn2 : ¬ (x = 0) := by omega
          obtain ⟨r, er⟩ : ∃ r, p % x = r := ⟨_, rfl⟩
          rw [er] at NX
          have q1 : (p : Int).tmod (x : Int) = (r : Int) := by rw [Int.tmod_eq_emod_of_nonneg (by omega), ← er, Int.natCast_emod]
          have q1' : (p : Int) % (x : Int) = (r : Int) := by rw [← er, Int.natCast_emod]
          have hr : r < 400 := by rw [← er]; exact Nat.lt_trans (Nat.mod_lt _ (by omega)) hx.2
          have wr_ : IntKind.u64.wrap (r : Int) = (r : Int) := by rw [IntKind.wrap_u64]; omega
          have hji : (j : Int) < (c : Int) := by omega
          have j0 : (0 : Int) ≤ (j : Int) := by omega
          have wj : IntKind.i64.wrap ((j : Int) + 1) = (j : Int) + 1 := IntWalk.i64_in _ (by have := P_.out; omega)
          obtain ⟨d, ed⟩ : ∃ d, decide (0 < r) = d := ⟨_, rfl⟩
          have ed2 : decide ((0 : Int) < (r : Int)) = d := by
            rw [← ed]
            by_cases h : 0 < r
            · rw [decide_eq_true h, decide_eq_true (by omega)]
            · rw [decide_eq_false h, decide_eq_false (by omega)]
          rw [ed] at NX
          have HJT := Lib.hid hjt
          clear hjt hj eb ex er hr hx
          cases b with
          | true =>
            rw [Bool.true_and] at NX
            replace NX := Lib.hid NX
            go_wp2_with (fail)
            go_roundw
            case rel => (first | exact ⟨j + 1, d, HJT.out, NX.out, rfl, by go_num, ROW, HB⟩ | ((repeat apply Exists.intro); exact ⟨⟨j + 1, d, HJT.out, NX.out, rfl, by go_num, ROW, HB⟩, rfl⟩))
            case measure => (have := HJT.out; simp [intOf]; omega)
          | false =>
            rw [Bool.false_and] at NX
            replace NX := Lib.hid NX
            go_wp2_with (fail)
            go_roundw
            case rel => (first | exact ⟨j + 1, false, HJT.out, NX.out, rfl, by go_num, ROW, HB⟩ | ((repeat apply Exists.intro); exact ⟨⟨j + 1, false, HJT.out, NX.out, rfl, by go_num, ROW, HB⟩, rfl⟩))
            case measure => (have := HJT.out; simp [intOf]; omega)
        · obtain rfl : j = c := by omega
          clear hj hjt
          have hpp : ((p + 1 : Nat) : Int) = (p : Int) + 1 := by omega
          cases b with
          | true =>
            obtain ⟨n1, n2⟩ := HY.out eb
            have XS := Lib.hid (pr_app j p n2)
            have N63 := Lib.hid (show j + 1 ≤ maxLen by unfold maxLen; have := P_.out; omega)
            have NBY := Lib.hid (show (j + 1) * 8 ≤ 140737488355328 by have := P_.out; omega)
            have HS2 : Hid (w.heap.size ≤ (wr.alloc (.cells #[.int .u64 p] 55)).heap.size) := Lib.hid (Below.al HB.out).size
            have PN := Lib.hid (show 2 ≤ p + 1 ∧ p + 1 ≤ 312 ∧ cntP (p + 1) = j + 1 from ⟨by have := P_.out; omega, by have := P_.out; omega, n1⟩)
            clear eb n1 n2 HY HNO hpp
            go_wp2_with (at_builtin; refine wpList_append_own _ rfl _ _ 58 rfl w.heap.size 55 i0 (.int .u64 0) 1 8 Tryd.underlying58 hi hz0 hz1 hz2 rfl (by decide) _ (j) _ rfl (row_later ROW.out (Below.al (Below.refl _ _))) ⟨wr.heap.size, 0, none⟩ 1 1 [.int .u64 p] rfl rfl (Own.newAt (by rfl)).news (by intro v hv; cases hv with | head => rfl | tail _ h => nomatch h) N63.out NBY.out HS2.out ?_; intro v' w6 hrow hgr _; obtain ⟨p', c', rfl, _⟩ := row_form hrow; rw [XS.out] at hrow; have o4 := Lib.hid ((Below.al HB.out).grown hgr (Below.al HB.out).size fun q hq => row_ge ROW.out q hq); have o6 := Lib.hid hrow; clear hrow hgr)
            go_roundw
            case rel => (first | exact ⟨p + 1, j + 1, _, _, PN.out.1, PN.out.2.1, PN.out.2.2, rfl, by first | rfl | (congr 1; done) | go_num, o6, o4⟩ | ((repeat apply Exists.intro); exact ⟨⟨p + 1, j + 1, _, _, PN.out.1, PN.out.2.1, PN.out.2.2, rfl, by first | rfl | (congr 1; done) | go_num, o6, o4⟩, rfl⟩))
            case measure => (have := P_.out; simp [intOf]; omega)
          | false =>
            have n1 := HNO.out eb
            have PN := Lib.hid (show 2 ≤ p + 1 ∧ p + 1 ≤ 312 ∧ cntP (p + 1) = j from ⟨by have := P_.out; omega, by have := P_.out; omega, n1⟩)
            clear eb n1 HY HNO hpp
            go_wp2_with (fail)
            go_roundw
            case rel => (first | exact ⟨p + 1, j, _, _, PN.out.1, PN.out.2.1, PN.out.2.2, rfl, by first | rfl | (congr 1; done) | go_num, ROW, HB⟩ | ((repeat apply Exists.intro); exact ⟨⟨p + 1, j, _, _, PN.out.1, PN.out.2.1, PN.out.2.2, rfl, by first | rfl | (congr 1; done) | go_num, ROW, HB⟩, rfl⟩))
            case measure => (have := P_.out; simp [intOf]; omega)
    · have hp312 : p = 312 := by omega
      have c64 : c = 64 := by rw [← ec, hp312]; exact cnt_end
      have g1 : decide ((c : Int) < 64) = false := decide_eq_false (by omega)
      have g1n : decide (c < 64) = false := decide_eq_false (by omega)
      have C64 := Lib.hid c64
      clear h2 hp hlt ec hp312 c64
      go_wp2_with (fail)
      go_ret
      have h := ROW.out
      rw [C64.out] at h ⊢
      exact ⟨_, rfl, h, HB.out⟩
end Go.Proofs.YtajejlaoompieaaDoor

/- HZc -/
namespace Go.Proofs.YtajejlaoompieaaDoor
set_option linter.unusedVariables false
set_option maxRecDepth 2000
set_option linter.unusedSimpArgs false
open Go.RowKit
theorem rt_step (r D : Nat) (hD : 0 < D) : (if r / (2 * D) * (2 * D) + D ≤ r then r / (2 * D) * (2 * D) + D else r / (2 * D) * (2 * D)) = r / D * D := by
  have e1 : r / (2 * D) = r / D / 2 := by rw [Nat.mul_comm, Nat.div_div_eq_div_mul]
  have e2 : r / D * D ≤ r := Nat.div_mul_le_self r D
  have e3 : r < r / D * D + D := by
    have a1 := Nat.div_add_mod r D
    have a2 := Nat.mod_lt r hD
    rw [Nat.mul_comm] at a1
    omega
  rw [e1]
  generalize r / D = n at *
  have e4 : n / 2 * (2 * D) = n / 2 * 2 * D := (Nat.mul_assoc _ _ _).symm
  rw [e4]
  rcases Nat.mod_two_eq_zero_or_one n with h | h
  · have e5 : n / 2 * 2 = n := by omega
    rw [e5, if_neg (by omega)]
  · have e5 : n / 2 * 2 + 1 = n := by omega
    have e6 : (n / 2 * 2 + 1) * D = n / 2 * 2 * D + D := Nat.succ_mul _ _
    rw [e5] at e6
    replace e6 := e6.symm
    rw [e6, if_pos e2]
theorem rt_char (t : Nat → Bool) (r : Nat) (hr : r < 137438953472) (h : ∀ x, x < 137438953472 → t x = decide (x ≤ r)) : ∀ k, k ≤ 37 → rtF t k = r / 2 ^ (37 - k) * 2 ^ (37 - k)
  | 0, _ => by
    show 0 = _
    rw [show 2 ^ (37 - 0) = 137438953472 by decide, Nat.div_eq_of_lt hr, Nat.zero_mul]
  | k + 1, hk => by
    have ih := rt_char t r hr h k (by omega)
    have e : 2 ^ (37 - k) = 2 * 2 ^ (36 - k) := by rw [show 37 - k = 36 - k + 1 by omega, Nat.pow_succ, Nat.mul_comm]
    have hb := rt_bound t k (by omega)
    have hD : 0 < 2 ^ (36 - k) := Nat.pow_pos (by decide)
    rw [show 37 - (k + 1) = 36 - k by omega]
    unfold rtF
    rw [e] at ih hb
    rw [h _ (by omega), ih, ← rt_step r _ hD]
    by_cases hc : r / (2 * 2 ^ (36 - k)) * (2 * 2 ^ (36 - k)) + 2 ^ (36 - k) ≤ r
    · rw [if_pos hc, if_pos (decide_eq_true hc)]
    · rw [if_neg hc, if_neg (by rw [decide_eq_false hc]; exact Bool.false_ne_true)]
theorem sq_char (p r x : Nat) (h1 : r * r ≤ p * 18446744073709551616) (h2 : p * 18446744073709551616 < (r + 1) * (r + 1)) : sqT x p = decide (x ≤ r) := by
  unfold sqT
  by_cases hx : x ≤ r
  · rw [decide_eq_true hx, decide_eq_true (Nat.le_trans (Nat.mul_le_mul hx hx) h1)]
  · have := Nat.mul_le_mul (show r + 1 ≤ x by omega) (show r + 1 ≤ x by omega)
    rw [decide_eq_false hx, decide_eq_false (by omega)]
theorem cu_char (p r x : Nat) (h1 : r * r * r < p * 79228162514264337593543950336) (h2 : p * 79228162514264337593543950336 ≤ (r + 1) * (r + 1) * (r + 1)) : cuT x p = decide (x ≤ r) := by
  unfold cuT
  by_cases hx : x ≤ r
  · have := Nat.mul_le_mul (Nat.mul_le_mul hx hx) hx
    rw [decide_eq_true hx, decide_eq_true (by omega)]
  · have := Nat.mul_le_mul (Nat.mul_le_mul (show r + 1 ≤ x by omega) (show r + 1 ≤ x by omega)) (show r + 1 ≤ x by omega)
    rw [decide_eq_false hx, decide_eq_false (by omega)]
def cuR : List Nat := [5411319704, 6194414737, 7344290767, 8215976869, 9551921755, 10098905585, 11043570340, 11460697813, 12214315672, 13195500289, 13492127166, 14311783875, 14809980276, 15046980094, 15499789991, 16133124468, 16720292289, 16907126662, 17444216262, 17784676812, 17950125167, 18429019306, 18734950876, 19175934170, 19734090066, 20001703533, 20132865992, 20390182855, 20516441075, 20764397895, 21588763473, 21813078375, 22141143685, 22248366392, 22769593852, 22871018771, 23170020180, 23461497531, 23651862830, 23931792517, 24205322401, 24295138891, 24734567280, 24820601251, 24990902297, 25075189284, 25569408389, 26045227120, 26200031510, 26276752392, 26428864332, 26653801653, 26727943347, 27092625994, 27306805839, 27517677555, 27725365998, 27793908591, 27997534228, 28131656200, 28198240250, 28526537963, 28973835255, 29099129074]
def sqR : List Nat := [6074000999, 7439101573, 9603838834, 11363415354, 14244795007, 15485724812, 17708603819, 18721328409]
theorem cu_fact : (List.range 64).all (fun i => decide (cuR.getD i 0 * cuR.getD i 0 * cuR.getD i 0 < prN i * 79228162514264337593543950336 ∧ prN i * 79228162514264337593543950336 ≤ (cuR.getD i 0 + 1) * (cuR.getD i 0 + 1) * (cuR.getD i 0 + 1) ∧ cuR.getD i 0 < 137438953472 ∧ ((cuR.getD i 0 % 4294967296 : Nat) : Int) = kC i)) = true := by decide +kernel
theorem sq_fact : (List.range 8).all (fun i => decide (sqR.getD i 0 * sqR.getD i 0 ≤ prN i * 18446744073709551616 ∧ prN i * 18446744073709551616 < (sqR.getD i 0 + 1) * (sqR.getD i 0 + 1) ∧ sqR.getD i 0 < 137438953472 ∧ ((sqR.getD i 0 % 4294967296 : Nat) : Int) = hC i)) = true := by decide +kernel
theorem root_cu (i : Nat) (hi : i < 64) : ∃ z : Nat, (z : Int) = kC i ∧ ∀ k x, k = 37 → rtF (tst true (prN i)) k = x → x % 4294967296 = z := by
  obtain ⟨h1, h2, h3, h4⟩ := of_decide_eq_true (List.all_eq_true.1 cu_fact i (List.mem_range.2 hi))
  refine ⟨_, h4, fun k x hk hx => ?_⟩
  have := rt_char (tst true (prN i)) (cuR.getD i 0) h3 (fun x _ => by rw [tst_true]; exact cu_char _ _ x h1 h2) k (by omega)
  rw [← hx, this, hk]
  show cuR.getD i 0 / 2 ^ (37 - 37) * 2 ^ (37 - 37) % 4294967296 = _
  rw [show 37 - 37 = 0 from rfl, Nat.pow_zero, Nat.div_one, Nat.mul_one]
theorem root_sq (i : Nat) (hi : i < 8) : ∃ z : Nat, (z : Int) = hC i ∧ ∀ k x, k = 37 → rtF (tst false (prN i)) k = x → x % 4294967296 = z := by
  obtain ⟨h1, h2, h3, h4⟩ := of_decide_eq_true (List.all_eq_true.1 sq_fact i (List.mem_range.2 hi))
  refine ⟨_, h4, fun k x hk hx => ?_⟩
  have := rt_char (tst false (prN i)) (sqR.getD i 0) h3 (fun x _ => by rw [tst_false]; exact sq_char _ _ x h1 h2) k (by omega)
  rw [← hx, this, hk]
  show sqR.getD i 0 / 2 ^ (37 - 37) * 2 ^ (37 - 37) % 4294967296 = _
  rw [show 37 - 37 = 0 from rfl, Nat.pow_zero, Nat.div_one, Nat.mul_one]
end Go.Proofs.YtajejlaoompieaaDoor

/- HZd -/
namespace Go.Proofs.YtajejlaoompieaaDoor
set_option linter.unusedVariables false
set_option maxRecDepth 2000
set_option linter.unusedSimpArgs false
open Go.RowKit
theorem root_call3 (i : Nat) (hi : i < 64) : ∃ z : Nat, (z : Int) = kC i ∧ ∀ w, Calls Tryd.prog 29 #[.int .u64 (prN i : Nat), .bool true] w fun e w' => e = .returned (.int .u32 (z : Nat)) ∧ w' = w := by
  obtain ⟨z, h1, h2⟩ := root_cu i hi
  exact ⟨z, h1, fun w => root_any (prN i) z true (prN_pos i hi).2 h2 w⟩
theorem root_call2 (i : Nat) (hi : i < 8) : ∃ z : Nat, (z : Int) = hC i ∧ ∀ w, Calls Tryd.prog 29 #[.int .u64 (prN i : Nat), .bool false] w fun e w' => e = .returned (.int .u32 (z : Nat)) ∧ w' = w := by
  obtain ⟨z, h1, h2⟩ := root_sq i hi
  exact ⟨z, h1, fun w => root_any (prN i) z false (prN_pos i (by omega)).2 h2 w⟩
theorem res_cell2 {P : Program} {fn : Func} {tmps : Array Value} {w : World} {r1 T1 r2 T2 : Nat} {a1 a2 : Addr} {v1 v2 : Value} (hf : fn.results = #[.cell r1 T1, .cell r2 T2]) (h1 : tmps[r1]?.getD undef = .pointer (some a1)) (h2 : tmps[r2]?.getD undef = .pointer (some a2)) (hl1 : (loadVar T1 a1).run P w = .ok v1 w) (hl2 : (loadVar T2 a2).run P w = .ok v2 w) :
    (results fn tmps).run P w = .ok (.tuple #[v1, v2]) w := by
  have hx1 : (asAddr (Value.pointer (some a1))).run P w = .ok a1 w := by simp [asAddr]
  have hx2 : (asAddr (Value.pointer (some a2))).run P w = .ok a2 w := by simp [asAddr]
  simp [results, hf, h1, h2, hx1, hx2, hl1, hl2]
attribute [local go_sem] nums_length

set_option maxHeartbeats 8000000 in
theorem Constants_any (w : World) : Calls Tryd.prog 16 #[] w fun e w' => e = .returned (.tuple #[.agg (nums .u32 kC 64).toArray, .agg (nums .u32 hC 8).toArray]) ∧ Below w.heap.size w w' := by
  go_enter Tryd.func16, Tryd.ntmps16
  go_upto_region 3 with fail
  obtain ⟨W0, hW⟩ : ∃ W0, W0 = ((((w.alloc (.cells #[.int .u32 0, .int .u32 0, .int .u32 0, .int .u32 0, .int .u32 0, .int .u32 0, .int .u32 0, .int .u32 0, .int .u32 0, .int .u32 0, .int .u32 0, .int .u32 0, .int .u32 0, .int .u32 0, .int .u32 0, .int .u32 0, .int .u32 0, .int .u32 0, .int .u32 0, .int .u32 0, .int .u32 0, .int .u32 0, .int .u32 0, .int .u32 0, .int .u32 0, .int .u32 0, .int .u32 0, .int .u32 0, .int .u32 0, .int .u32 0, .int .u32 0, .int .u32 0, .int .u32 0, .int .u32 0, .int .u32 0, .int .u32 0, .int .u32 0, .int .u32 0, .int .u32 0, .int .u32 0, .int .u32 0, .int .u32 0, .int .u32 0, .int .u32 0, .int .u32 0, .int .u32 0, .int .u32 0, .int .u32 0, .int .u32 0, .int .u32 0, .int .u32 0, .int .u32 0, .int .u32 0, .int .u32 0, .int .u32 0, .int .u32 0, .int .u32 0, .int .u32 0, .int .u32 0, .int .u32 0, .int .u32 0, .int .u32 0, .int .u32 0, .int .u32 0] 32)).alloc (.cells #[.int .u32 0, .int .u32 0, .int .u32 0, .int .u32 0, .int .u32 0, .int .u32 0, .int .u32 0, .int .u32 0] 28)).alloc (.cells #[.int .u32 0, .int .u32 0, .int .u32 0, .int .u32 0, .int .u32 0, .int .u32 0, .int .u32 0, .int .u32 0, .int .u32 0, .int .u32 0, .int .u32 0, .int .u32 0, .int .u32 0, .int .u32 0, .int .u32 0, .int .u32 0, .int .u32 0, .int .u32 0, .int .u32 0, .int .u32 0, .int .u32 0, .int .u32 0, .int .u32 0, .int .u32 0, .int .u32 0, .int .u32 0, .int .u32 0, .int .u32 0, .int .u32 0, .int .u32 0, .int .u32 0, .int .u32 0, .int .u32 0, .int .u32 0, .int .u32 0, .int .u32 0, .int .u32 0, .int .u32 0, .int .u32 0, .int .u32 0, .int .u32 0, .int .u32 0, .int .u32 0, .int .u32 0, .int .u32 0, .int .u32 0, .int .u32 0, .int .u32 0, .int .u32 0, .int .u32 0, .int .u32 0, .int .u32 0, .int .u32 0, .int .u32 0, .int .u32 0, .int .u32 0, .int .u32 0, .int .u32 0, .int .u32 0, .int .u32 0, .int .u32 0, .int .u32 0, .int .u32 0, .int .u32 0] 32)).alloc (.cells #[.int .u32 0, .int .u32 0, .int .u32 0, .int .u32 0, .int .u32 0, .int .u32 0, .int .u32 0, .int .u32 0] 28)) := ⟨_, rfl⟩
  have hB0 : Below w.heap.size w W0 := hW ▸ (Below.al (Below.al (Below.al (Below.al (Below.refl _ _)))))
  have HR0 : Hid (Own w.heap.size (nums .u32 (fun _ => 0) 64) W0) := Lib.hid (hW ▸ (show Own w.heap.size (nums .u32 (fun _ => 0) 64) (w.alloc (.cells #[.int .u32 0, .int .u32 0, .int .u32 0, .int .u32 0, .int .u32 0, .int .u32 0, .int .u32 0, .int .u32 0, .int .u32 0, .int .u32 0, .int .u32 0, .int .u32 0, .int .u32 0, .int .u32 0, .int .u32 0, .int .u32 0, .int .u32 0, .int .u32 0, .int .u32 0, .int .u32 0, .int .u32 0, .int .u32 0, .int .u32 0, .int .u32 0, .int .u32 0, .int .u32 0, .int .u32 0, .int .u32 0, .int .u32 0, .int .u32 0, .int .u32 0, .int .u32 0, .int .u32 0, .int .u32 0, .int .u32 0, .int .u32 0, .int .u32 0, .int .u32 0, .int .u32 0, .int .u32 0, .int .u32 0, .int .u32 0, .int .u32 0, .int .u32 0, .int .u32 0, .int .u32 0, .int .u32 0, .int .u32 0, .int .u32 0, .int .u32 0, .int .u32 0, .int .u32 0, .int .u32 0, .int .u32 0, .int .u32 0, .int .u32 0, .int .u32 0, .int .u32 0, .int .u32 0, .int .u32 0, .int .u32 0, .int .u32 0, .int .u32 0, .int .u32 0] 32)) from Own.newAt (by simp)).alloc.alloc.alloc)
  have HR1 : Hid (Own (w.heap.size + 1) (nums .u32 (fun _ => 0) 8) W0) := Lib.hid (hW ▸ (show Own (w.heap.size + 1) (nums .u32 (fun _ => 0) 8) ((w.alloc (.cells #[.int .u32 0, .int .u32 0, .int .u32 0, .int .u32 0, .int .u32 0, .int .u32 0, .int .u32 0, .int .u32 0, .int .u32 0, .int .u32 0, .int .u32 0, .int .u32 0, .int .u32 0, .int .u32 0, .int .u32 0, .int .u32 0, .int .u32 0, .int .u32 0, .int .u32 0, .int .u32 0, .int .u32 0, .int .u32 0, .int .u32 0, .int .u32 0, .int .u32 0, .int .u32 0, .int .u32 0, .int .u32 0, .int .u32 0, .int .u32 0, .int .u32 0, .int .u32 0, .int .u32 0, .int .u32 0, .int .u32 0, .int .u32 0, .int .u32 0, .int .u32 0, .int .u32 0, .int .u32 0, .int .u32 0, .int .u32 0, .int .u32 0, .int .u32 0, .int .u32 0, .int .u32 0, .int .u32 0, .int .u32 0, .int .u32 0, .int .u32 0, .int .u32 0, .int .u32 0, .int .u32 0, .int .u32 0, .int .u32 0, .int .u32 0, .int .u32 0, .int .u32 0, .int .u32 0, .int .u32 0, .int .u32 0, .int .u32 0, .int .u32 0, .int .u32 0] 32)).alloc (.cells #[.int .u32 0, .int .u32 0, .int .u32 0, .int .u32 0, .int .u32 0, .int .u32 0, .int .u32 0, .int .u32 0] 28)) from Own.newAt (by simp)).alloc.alloc)
  have HS0 : Hid (Own ((w.heap.size + 1) + 1) (nums .u32 (upto kC 0) 64) W0) := Lib.hid (hW ▸ (show Own ((w.heap.size + 1) + 1) (nums .u32 (upto kC 0) 64) (((w.alloc (.cells #[.int .u32 0, .int .u32 0, .int .u32 0, .int .u32 0, .int .u32 0, .int .u32 0, .int .u32 0, .int .u32 0, .int .u32 0, .int .u32 0, .int .u32 0, .int .u32 0, .int .u32 0, .int .u32 0, .int .u32 0, .int .u32 0, .int .u32 0, .int .u32 0, .int .u32 0, .int .u32 0, .int .u32 0, .int .u32 0, .int .u32 0, .int .u32 0, .int .u32 0, .int .u32 0, .int .u32 0, .int .u32 0, .int .u32 0, .int .u32 0, .int .u32 0, .int .u32 0, .int .u32 0, .int .u32 0, .int .u32 0, .int .u32 0, .int .u32 0, .int .u32 0, .int .u32 0, .int .u32 0, .int .u32 0, .int .u32 0, .int .u32 0, .int .u32 0, .int .u32 0, .int .u32 0, .int .u32 0, .int .u32 0, .int .u32 0, .int .u32 0, .int .u32 0, .int .u32 0, .int .u32 0, .int .u32 0, .int .u32 0, .int .u32 0, .int .u32 0, .int .u32 0, .int .u32 0, .int .u32 0, .int .u32 0, .int .u32 0, .int .u32 0, .int .u32 0] 32)).alloc (.cells #[.int .u32 0, .int .u32 0, .int .u32 0, .int .u32 0, .int .u32 0, .int .u32 0, .int .u32 0, .int .u32 0] 28)).alloc (.cells #[.int .u32 0, .int .u32 0, .int .u32 0, .int .u32 0, .int .u32 0, .int .u32 0, .int .u32 0, .int .u32 0, .int .u32 0, .int .u32 0, .int .u32 0, .int .u32 0, .int .u32 0, .int .u32 0, .int .u32 0, .int .u32 0, .int .u32 0, .int .u32 0, .int .u32 0, .int .u32 0, .int .u32 0, .int .u32 0, .int .u32 0, .int .u32 0, .int .u32 0, .int .u32 0, .int .u32 0, .int .u32 0, .int .u32 0, .int .u32 0, .int .u32 0, .int .u32 0, .int .u32 0, .int .u32 0, .int .u32 0, .int .u32 0, .int .u32 0, .int .u32 0, .int .u32 0, .int .u32 0, .int .u32 0, .int .u32 0, .int .u32 0, .int .u32 0, .int .u32 0, .int .u32 0, .int .u32 0, .int .u32 0, .int .u32 0, .int .u32 0, .int .u32 0, .int .u32 0, .int .u32 0, .int .u32 0, .int .u32 0, .int .u32 0, .int .u32 0, .int .u32 0, .int .u32 0, .int .u32 0, .int .u32 0, .int .u32 0, .int .u32 0, .int .u32 0] 32)) from Own.newAt (by simp)).alloc)
  have HS1 : Hid (Own (((w.heap.size + 1) + 1) + 1) (nums .u32 (upto hC 0) 8) W0) := Lib.hid (hW ▸ (show Own (((w.heap.size + 1) + 1) + 1) (nums .u32 (upto hC 0) 8) ((((w.alloc (.cells #[.int .u32 0, .int .u32 0, .int .u32 0, .int .u32 0, .int .u32 0, .int .u32 0, .int .u32 0, .int .u32 0, .int .u32 0, .int .u32 0, .int .u32 0, .int .u32 0, .int .u32 0, .int .u32 0, .int .u32 0, .int .u32 0, .int .u32 0, .int .u32 0, .int .u32 0, .int .u32 0, .int .u32 0, .int .u32 0, .int .u32 0, .int .u32 0, .int .u32 0, .int .u32 0, .int .u32 0, .int .u32 0, .int .u32 0, .int .u32 0, .int .u32 0, .int .u32 0, .int .u32 0, .int .u32 0, .int .u32 0, .int .u32 0, .int .u32 0, .int .u32 0, .int .u32 0, .int .u32 0, .int .u32 0, .int .u32 0, .int .u32 0, .int .u32 0, .int .u32 0, .int .u32 0, .int .u32 0, .int .u32 0, .int .u32 0, .int .u32 0, .int .u32 0, .int .u32 0, .int .u32 0, .int .u32 0, .int .u32 0, .int .u32 0, .int .u32 0, .int .u32 0, .int .u32 0, .int .u32 0, .int .u32 0, .int .u32 0, .int .u32 0, .int .u32 0] 32)).alloc (.cells #[.int .u32 0, .int .u32 0, .int .u32 0, .int .u32 0, .int .u32 0, .int .u32 0, .int .u32 0, .int .u32 0] 28)).alloc (.cells #[.int .u32 0, .int .u32 0, .int .u32 0, .int .u32 0, .int .u32 0, .int .u32 0, .int .u32 0, .int .u32 0, .int .u32 0, .int .u32 0, .int .u32 0, .int .u32 0, .int .u32 0, .int .u32 0, .int .u32 0, .int .u32 0, .int .u32 0, .int .u32 0, .int .u32 0, .int .u32 0, .int .u32 0, .int .u32 0, .int .u32 0, .int .u32 0, .int .u32 0, .int .u32 0, .int .u32 0, .int .u32 0, .int .u32 0, .int .u32 0, .int .u32 0, .int .u32 0, .int .u32 0, .int .u32 0, .int .u32 0, .int .u32 0, .int .u32 0, .int .u32 0, .int .u32 0, .int .u32 0, .int .u32 0, .int .u32 0, .int .u32 0, .int .u32 0, .int .u32 0, .int .u32 0, .int .u32 0, .int .u32 0, .int .u32 0, .int .u32 0, .int .u32 0, .int .u32 0, .int .u32 0, .int .u32 0, .int .u32 0, .int .u32 0, .int .u32 0, .int .u32 0, .int .u32 0, .int .u32 0, .int .u32 0, .int .u32 0, .int .u32 0, .int .u32 0] 32)).alloc (.cells #[.int .u32 0, .int .u32 0, .int .u32 0, .int .u32 0, .int .u32 0, .int .u32 0, .int .u32 0, .int .u32 0] 28)) from Own.newAt (by simp)))
  rw [← hW]
  clear hW
  obtain ⟨S1, eS1⟩ : ∃ X, X = (((w.heap.size + 1) + 1) + 1) := ⟨_, rfl⟩
  rw [← eS1] at HS1 ⊢
  have S1w : w.heap.size ≤ S1 := by omega
  obtain ⟨S0, eS0⟩ : ∃ X, X = ((w.heap.size + 1) + 1) := ⟨_, rfl⟩
  rw [← eS0] at HS0 ⊢
  have S0w : w.heap.size ≤ S0 := by omega
  obtain ⟨R1, eR1⟩ : ∃ X, X = (w.heap.size + 1) := ⟨_, rfl⟩
  rw [← eR1] at HR1 ⊢
  have R1w : w.heap.size ≤ R1 := by omega
  obtain ⟨R0, eR0⟩ : ∃ X, X = w.heap.size := ⟨_, rfl⟩
  rw [← eR0] at HR0 ⊢
  have R0w : w.heap.size ≤ R0 := by omega
  have nR0R1 : R0 ≠ R1 := by omega
  have nR1R0 : R1 ≠ R0 := by omega
  have nR0S0 : R0 ≠ S0 := by omega
  have nS0R0 : S0 ≠ R0 := by omega
  have nR0S1 : R0 ≠ S1 := by omega
  have nS1R0 : S1 ≠ R0 := by omega
  have nR1S0 : R1 ≠ S0 := by omega
  have nS0R1 : S0 ≠ R1 := by omega
  have nR1S1 : R1 ≠ S1 := by omega
  have nS1R1 : S1 ≠ R1 := by omega
  have nS0S1 : S0 ≠ S1 := by omega
  have nS1S0 : S1 ≠ S0 := by omega
  clear eR0 eR1 eS0 eS1
  go_wp2_with (fail)
  go_at_call 28
  refine (primes_any _).mono ?_
  rintro e w1 ⟨v, rfl, hrow, hb⟩
  obtain ⟨X, c1, rfl, hXb, hXl⟩ := row_blk hrow (by decide)
  have HX := Lib.hid (row_has hrow).1
  have nXS0 : X ≠ S0 := by have := HS0.out.lt; omega
  have nXS1 : X ≠ S1 := by have := HS1.out.lt; omega
  have HR0k := Lib.hid (HR0.out.later hb)
  have HR1k := Lib.hid (HR1.out.later hb)
  have HS0k := Lib.hid (HS0.out.later hb)
  have HS1k := Lib.hid (HS1.out.later hb)
  clear HR0 HR1 HS0 HS1
  have HR0 := HR0k
  clear HR0k
  have HR1 := HR1k
  clear HR1k
  have HS0 := HS0k
  clear HS0k
  have HS1 := HS1k
  clear HS1k
  have HB := Lib.hid (Below.go hB0 hb)
  clear hB0 hb hrow hXb hXl
  go_wp2_with (fail)
  go_loopw [5] (fun iv wr => ∃ (k : Nat), k ≤ 64 ∧ iv = .int .i64 k ∧ Hid (Below w.heap.size w wr) ∧ Hid (Own R0 (nums .u32 (fun _ => 0) 64) wr) ∧ Hid (Own R1 (nums .u32 (fun _ => 0) 8) wr) ∧ Hid (Own S0 (nums .u32 (upto kC k) 64) wr) ∧ Hid (Own S1 (nums .u32 (upto hC 0) 8) wr) ∧ Hid (Has X 0 (nums .u64 prI 64) wr)) (fun iv _ => (64 - (intOf iv).toNat))
  case atStart => exact ⟨0, Nat.zero_le _, rfl, HB, HR0, HR1, HS0, HS1, HX⟩
  case round =>
    clear HR0 HR1 HS0 HS1 HX HB
    obtain ⟨k, hk, rfl, HB, HR0, HR1, HS0, HS1, HX⟩ := hrel
    by_cases hlt : k < 64
    · have XC := HX.out.cell k _ (nums_at .u64 prI (show k < 64 by omega))
      rw [Nat.zero_add, show prI k = ((prN k : Nat) : Int) from rfl] at XC
      have Xl := HX.out.lt
      obtain ⟨z, ez, RC⟩ := root_call3 k hlt
      have RC := Lib.hid RC
      obtain ⟨x, ex⟩ : ∃ x, prN k = x := ⟨_, rfl⟩
      rw [ex] at XC RC
      have FS := HS0.out.ok k (by rw [nums_length]; exact hlt)
      have CS := HS0.out.at k _ (nums_at .u32 _ hlt)
      have Sl := HS0.out.lt
      have XS := upto_step .u32 kC k 64 (z : Int) ez
      have O1 := Lib.hid (XS ▸ own_set (v := (z : Int)) HS0.out hlt)
      have QHR0 := Lib.hid (Own.far (c := S0) (o := k) (vs := [.int .u32 (z : Int)]) HR0.out nR0S0)
      have QHR1 := Lib.hid (Own.far (c := S0) (o := k) (vs := [.int .u32 (z : Int)]) HR1.out nR1S0)
      have QHS1 := Lib.hid (Own.far (c := S0) (o := k) (vs := [.int .u32 (z : Int)]) HS1.out nS1S0)
      have QHX := Lib.hid (Has.far (c := S0) (o := k) (vs := [.int .u32 (z : Int)]) HX.out nXS0)
      have O4 := Lib.hid (Below.setCells HB.out S0w [.int .u32 (z : Int)] k)
      have hki : (k : Int) < 64 := by omega
      have hki64 : (k : Int) < 64 := by omega
      have k0 : (0 : Int) ≤ (k : Int) := by omega
      have wk : IntKind.i64.wrap ((k : Int) + 1) = (k : Int) + 1 := IntWalk.i64_in _ (by omega)
      have HLT := Lib.hid hlt
      clear hlt hk ez ex XS
      go_wp2_with (fail)
      go_at_call 29
      refine (RC.out _).mono ?_
      rintro e_ wz ⟨rfl, rfl⟩
      go_wp2_with (fail)
      go_roundw
      case rel => (first | exact ⟨k + 1, HLT.out, by go_num, O4, QHR0, QHR1, O1, QHS1, QHX⟩ | ((repeat apply Exists.intro); exact ⟨⟨k + 1, HLT.out, by go_num, O4, QHR0, QHR1, O1, QHS1, QHX⟩, rfl⟩))
      case measure => (have := HLT.out; simp [intOf]; omega)
    · obtain rfl : k = 64 := by omega
      clear hlt hk
      rw [upto_all] at HS0
      go_wp2_with (fail)
      go_loopw [6] (fun iv wr => ∃ (k : Nat), k ≤ 8 ∧ iv = .int .i64 k ∧ Hid (Below w.heap.size w wr) ∧ Hid (Own R0 (nums .u32 (fun _ => 0) 64) wr) ∧ Hid (Own R1 (nums .u32 (fun _ => 0) 8) wr) ∧ Hid (Own S0 (nums .u32 kC 64) wr) ∧ Hid (Own S1 (nums .u32 (upto hC k) 8) wr) ∧ Hid (Has X 0 (nums .u64 prI 64) wr)) (fun iv _ => (8 - (intOf iv).toNat))
      case atStart => exact ⟨0, Nat.zero_le _, rfl, HB, HR0, HR1, HS0, HS1, HX⟩
      case round =>
        clear HR0 HR1 HS0 HS1 HX HB
        obtain ⟨k, hk, rfl, HB, HR0, HR1, HS0, HS1, HX⟩ := hrel
        by_cases hlt : k < 8
        · have XC := HX.out.cell k _ (nums_at .u64 prI (show k < 64 by omega))
          rw [Nat.zero_add, show prI k = ((prN k : Nat) : Int) from rfl] at XC
          have Xl := HX.out.lt
          obtain ⟨z, ez, RC⟩ := root_call2 k hlt
          have RC := Lib.hid RC
          obtain ⟨x, ex⟩ : ∃ x, prN k = x := ⟨_, rfl⟩
          rw [ex] at XC RC
          have FS := HS1.out.ok k (by rw [nums_length]; exact hlt)
          have CS := HS1.out.at k _ (nums_at .u32 _ hlt)
          have Sl := HS1.out.lt
          have XS := upto_step .u32 hC k 8 (z : Int) ez
          have O1 := Lib.hid (XS ▸ own_set (v := (z : Int)) HS1.out hlt)
          have QHR0 := Lib.hid (Own.far (c := S1) (o := k) (vs := [.int .u32 (z : Int)]) HR0.out nR0S1)
          have QHR1 := Lib.hid (Own.far (c := S1) (o := k) (vs := [.int .u32 (z : Int)]) HR1.out nR1S1)
          have QHS0 := Lib.hid (Own.far (c := S1) (o := k) (vs := [.int .u32 (z : Int)]) HS0.out nS0S1)
          have QHX := Lib.hid (Has.far (c := S1) (o := k) (vs := [.int .u32 (z : Int)]) HX.out nXS1)
          have O4 := Lib.hid (Below.setCells HB.out S1w [.int .u32 (z : Int)] k)
          have hki : (k : Int) < 8 := by omega
          have hki64 : (k : Int) < 64 := by omega
          have k0 : (0 : Int) ≤ (k : Int) := by omega
          have wk : IntKind.i64.wrap ((k : Int) + 1) = (k : Int) + 1 := IntWalk.i64_in _ (by omega)
          have HLT := Lib.hid hlt
          clear hlt hk ez ex XS
          go_wp2_with (fail)
          go_at_call 29
          refine (RC.out _).mono ?_
          rintro e_ wz ⟨rfl, rfl⟩
          go_wp2_with (fail)
          go_roundw
          case rel => (first | exact ⟨k + 1, HLT.out, by go_num, O4, QHR0, QHR1, QHS0, O1, QHX⟩ | ((repeat apply Exists.intro); exact ⟨⟨k + 1, HLT.out, by go_num, O4, QHR0, QHR1, QHS0, O1, QHX⟩, rfl⟩))
          case measure => (have := HLT.out; simp [intOf]; omega)
        · obtain rfl : k = 8 := by omega
          clear hlt hk HX
          rw [upto_all] at HS1
          go_upto_region 12 with fail
          obtain ⟨kl, ekl⟩ : ∃ kl, kC = kl := ⟨_, rfl⟩
          obtain ⟨hl, ehl⟩ : ∃ hl, hC = hl := ⟨_, rfl⟩
          rw [ekl] at HS0
          rw [ehl] at HS1
          have EKL := Lib.hid ekl; have EHL := Lib.hid ehl
          clear ekl ehl
          have HBo := HB.out
          clear HB
          obtain ⟨E, eE⟩ : ∃ E, E = w := ⟨_, rfl⟩
          subst eE
          refine wp_region_fun 4 (by kernel_rfl) (by kernel_rfl) rfl (fun s b => ⟨#[.pointer (some ⟨R0, 0, none⟩), .pointer (some ⟨R1, 0, none⟩), .pointer (some ⟨S0, 0, none⟩), .pointer (some ⟨S1, 0, none⟩), .slice (some ⟨X, 0, none⟩) 64 c1, .int .i64 ((64 : Nat) : Int), .int .i64 ((8 : Nat) : Int), .slice (some ⟨X, 0, none⟩) 64 c1, .int .i64 ((64 : Nat) : Int), .bool false, u10, u11, u12, u13, u14, u15, u16, u17, u18, .int .i64 ((8 : Nat) : Int), .bool false, u21, u22, u23, u24, u25, u26, u27, u28, u29, s 30, s 31], []⟩) (fun d s b w => (Below E.heap.size E w) ∧ (d 0 = true → s 30 = (.agg (nums .u32 kl 64).toArray)) ∧ (d 1 = true → s 31 = (.agg (nums .u32 hl 8).toArray)) ∧ (d 2 = false → Own R0 (nums .u32 (fun _ => 0) 64) w) ∧ (d 2 = true → Own R0 (nums .u32 kl 64) w) ∧ (d 3 = false → Own R1 (nums .u32 (fun _ => 0) 8) w) ∧ (d 3 = true → Own R1 (nums .u32 hl 8) w) ∧ (Own S0 (nums .u32 kl 64) w) ∧ (Own S1 (nums .u32 hl 8) w)) rfl ?h0w9 (?stw9 : StepsF _ _ _ _ 4 _ _ [0, 1, 2, 3]) ?dnw9
          case h0w9 => exact ⟨Below.drew HBo, (fun h => nomatch h), (fun h => nomatch h), (fun _ => HR0.out.drew), (fun h => nomatch h), (fun _ => HR1.out.drew), (fun h => nomatch h), HS0.out.drew, HS1.out.drew⟩
          case stw9 =>
            refine StepsF.cons (o := _) rfl (ws := []) (by kernel_rfl) (by decide) (fun d s b w hF hd hw K_ hK => ?_) ?_
            · have hB : Below E.heap.size E w := (p0_ hF.out)
              have oA := (p7_ hF.out)
              refine step_load (by simp [Region.wanted]) 32 _ rfl S0 0 rfl (nums .u32 kl 64) _ oA.cell Tryd.underlying32 rfl (by kernel_rfl) ?_
              exact hK.out (ups s 30 ((.agg (nums .u32 kl 64).toArray))) b _ ⟨hB, (fun _ => rfl), (p2_ hF.out), (p3_ hF.out), (p4_ hF.out), (p5_ hF.out), (p6_ hF.out), (p7_ hF.out), (q8_ hF.out)⟩
            refine StepsF.cons (o := _) rfl (ws := []) (by kernel_rfl) (by decide) (fun d s b w hF hd hw K_ hK => ?_) ?_
            · have hB : Below E.heap.size E w := (p0_ hF.out)
              have oB := (q8_ hF.out)
              refine step_load (by simp [Region.wanted]) 28 _ rfl S1 0 rfl (nums .u32 hl 8) _ oB.cell Tryd.underlying28 rfl (by kernel_rfl) ?_
              exact hK.out (ups s 31 ((.agg (nums .u32 hl 8).toArray))) b _ ⟨hB, (p1_ hF.out), (fun _ => rfl), (p3_ hF.out), (p4_ hF.out), (p5_ hF.out), (p6_ hF.out), (p7_ hF.out), (q8_ hF.out)⟩
            refine StepsF.cons (o := _) rfl (ws := [0, 0]) (by kernel_rfl) (by decide) (fun d s b w hF hd hw K_ hK => ?_) ?_
            · have hB : Below E.heap.size E w := (p0_ hF.out)
              have e0 : s 30 = (.agg (nums .u32 kl 64).toArray) := (p1_ hF.out) (hw 0 (by decide))
              dsimp only
              have hst := store_nums (P := Tryd.prog) (n := 64) .u32 kl ((p3_ hF.out) hd) (nums_length _ _ _)
              have oX := (p3_ hF.out) hd
              go_simp
              exact hK.out (ups s 30 ((.agg (nums .u32 kl 64).toArray))) b _ ⟨(Below.setCells hB R0w (nums .u32 kl 64) 0), (fun _ => rfl), (p2_ hF.out), (fun h => nomatch h), (fun _ => Own.store (vs := nums .u32 kl 64) oX (by rw [nums_length, nums_length])), (fun h => Own.far (c := R0) (o := 0) (vs := nums .u32 kl 64) ((p5_ hF.out) h) nR1R0), (fun h => Own.far (c := R0) (o := 0) (vs := nums .u32 kl 64) ((p6_ hF.out) h) nR1R0), (Own.far (c := R0) (o := 0) (vs := nums .u32 kl 64) (p7_ hF.out) nS0R0), (Own.far (c := R0) (o := 0) (vs := nums .u32 kl 64) (q8_ hF.out) nS1R0)⟩
            refine StepsF.cons (o := _) rfl (ws := [1, 2, 0, 1, 2]) (by kernel_rfl) (by decide) (fun d s b w hF hd hw K_ hK => ?_) ?_
            · have hB : Below E.heap.size E w := (p0_ hF.out)
              have e0 : s 30 = (.agg (nums .u32 kl 64).toArray) := (p1_ hF.out) (hw 0 (by decide))
              have e1 : s 31 = (.agg (nums .u32 hl 8).toArray) := (p2_ hF.out) (hw 1 (by decide))
              dsimp only
              have hst := store_nums (P := Tryd.prog) (n := 8) .u32 hl ((p5_ hF.out) hd) (nums_length _ _ _)
              have oX := (p5_ hF.out) hd
              go_simp
              exact hK.out (ups (ups s 30 ((.agg (nums .u32 kl 64).toArray))) 31 ((.agg (nums .u32 hl 8).toArray))) b _ ⟨(Below.setCells hB R1w (nums .u32 hl 8) 0), (fun _ => rfl), (fun _ => rfl), (fun h => Own.far (c := R1) (o := 0) (vs := nums .u32 hl 8) ((p3_ hF.out) h) nR0R1), (fun h => Own.far (c := R1) (o := 0) (vs := nums .u32 hl 8) ((p4_ hF.out) h) nR0R1), (fun h => nomatch h), (fun _ => Own.store (vs := nums .u32 hl 8) oX (by rw [nums_length, nums_length])), (Own.far (c := R1) (o := 0) (vs := nums .u32 hl 8) (p7_ hF.out) nS0R1), (Own.far (c := R1) (o := 0) (vs := nums .u32 hl 8) (q8_ hF.out) nS1R1)⟩
            exact StepsF.nil
          intro d s b w9 hF hall
          replace hF := Lib.hid hF
          have hB : Below E.heap.size E w9 := (p0_ hF.out)
          try dsimp only
          have e0 : s 30 = (.agg (nums .u32 kl 64).toArray) := (p1_ hF.out) (hall 0 (by decide))
          have e1 : s 31 = (.agg (nums .u32 hl 8).toArray) := (p2_ hF.out) (hall 1 (by decide))
          have f2 := (p4_ hF.out) (hall 2 (by decide))
          have f3 := (p6_ hF.out) (hall 3 (by decide))
          have xA := (p7_ hF.out)
          have xB := (q8_ hF.out)
          rw [e0, e1]
          clear hall hF e0 e1
          clear d s b
          have HF2 := Lib.hid f2; have HF3 := Lib.hid f3
          clear f2 f3 xA xB HR0 HR1 HS0 HS1
          go_wp2_with (fail)
          have hL0 := run_loadVar_mid (P := Tryd.prog) _ R0 0 32 (nums .u32 kl 64) _ HF2.out.cell Tryd.underlying32 rfl (by kernel_rfl)
          have hL1 := run_loadVar_mid (P := Tryd.prog) _ R1 0 28 (nums .u32 hl 8) _ HF3.out.cell Tryd.underlying28 rfl (by kernel_rfl)
          rw [EKL.out, EHL.out]
          exact bodyPost_ret (v := .tuple #[.agg (nums .u32 kl 64).toArray, .agg (nums .u32 hl 8).toArray]) (res_cell2 Tryd.results16 rfl rfl hL0 hL1) rfl ⟨rfl, hB⟩
end Go.Proofs.YtajejlaoompieaaDoor

/- HZe -/
namespace Go.Proofs.YtajejlaoompieaaDoor
set_option linter.unusedVariables false
set_option maxRecDepth 2000
set_option linter.unusedSimpArgs false
open Go.RowKit
theorem sum64 (bf : Nat → Int) (j : Nat) (hj : j < 8) : chF (padded bf 64) ((64 + plen 64) / 64) j = compF kC (compF kC hC bf) (padF 64) j := by
  rw [show (64 + plen 64) / 64 = 2 by decide]
  show compF kC (compF kC hC (fun j => padded bf 64 (64 * 0 + j))) (fun j => padded bf 64 (64 * 1 + j)) j = _
  refine compF_congr (fun _ _ => rfl) (fun i hi => compF_congr (fun _ _ => rfl) (fun _ _ => rfl) (fun i hi => ?_) i hi) (fun i hi => ?_) j hj
  · show padded bf 64 (64 * 0 + i) = bf i
    rw [Nat.mul_zero, Nat.zero_add]
    exact if_pos hi
  · show padded bf 64 (64 * 1 + i) = padF 64 i
    rw [Nat.mul_one]
    exact padded_high bf 64 i
theorem roots_sum (bf ef sf : Nat → Int) (hs : sumF bf 64 = sf) (he : compF kC (compF kC hC bf) (padF 64) = ef) (i : Nat) (hi : i < 8) : sf (4 * i) = ef i / 16777216 % 256 ∧ sf (4 * i + 3) = ef i % 256 := by
  rw [← hs, ← he]
  unfold sumF byteOf
  rw [show 4 * i / 4 = i by omega, show (4 * i + 3) / 4 = i by omega, show 4 * i % 4 = 0 by omega, show (4 * i + 3) % 4 = 3 by omega, sum64 bf i hi]
  refine ⟨rfl, ?_⟩
  rw [show ((2 ^ (24 - 8 * 3) : Nat) : Int) = 1 by decide, Int.ediv_one]
theorem stD32 (w : World) (f : Nat → Int) (c : Array Value) (hc : c.size = 32) : (storeCells ⟨w.heap.size, 0, none⟩ (nums .u8 f 32)).run Tryd.prog (w.alloc (.cells c 35)) = .ok () (w.alloc (.cells (nums .u8 f 32).toArray 35)) := st32 w f c hc
theorem stB64 (w : World) (f : Nat → Int) (c : Array Value) (hc : c.size = 64) : (storeCells ⟨w.heap.size, 0, none⟩ (nums .u8 f 64)).run Tryd.prog (w.alloc (.cells c 29)) = .ok () (w.alloc (.cells (nums .u8 f 64).toArray 29)) :=
  run_storeCells_new (P := Tryd.prog) w 29 c (nums .u8 f 64).toArray (by rw [nums_size]; kernel_rfl) (by rw [nums_size, hc]) (nums_all _ _ _)
attribute [local go_sem] nums_length stU64 stU8 stD32 stB64

set_option maxHeartbeats 8000000 in
theorem Roots_core (bf : Nat → Int) (n : Int) (hb : ∀ i, i < 64 → inB (bf i)) (hn : inB n) (w : World) (hG : Has 0 0 (nums .u32 kC 64) w) (hH : Has 1 0 (nums .u32 hC 8) w) : Calls Tryd.prog 5 #[(.agg (nums .u8 bf 64).toArray), .int .u8 n] w fun e w' => e = .returned (.bool true) ∧ Below w.heap.size w w' := by
  have HG0 := Lib.hid hG; have HH0 := Lib.hid hH; have IB := Lib.hid hb; have INn := Lib.hid hn
  obtain ⟨sf, esf⟩ : ∃ sf, sumF bf 64 = sf := ⟨_, rfl⟩
  obtain ⟨ef, eef⟩ : ∃ ef, compF kC (compF kC hC bf) (padF 64) = ef := ⟨_, rfl⟩
  have RS := Lib.hid (roots_sum bf ef sf esf eef)
  have SC := Lib.hid (fun P_ w h1 h2 h3 => Sum_of 1 1 64 P_ bf sf (T1 64) rfl esf rfl (fun k hk => by unfold T1; split <;> omega) (Nat.le_refl _) (by decide) (fun k hk j hj => hb j (by unfold T1 at hj; split at hj <;> omega)) w h1 h2 h3)
  have PC := Lib.hid (fun w => Pad_any 64 64 (by decide) (by decide) w)
  rw [show plen 64 = 64 by decide] at PC
  obtain ⟨kl, ekl⟩ : ∃ kl, kC = kl := ⟨_, rfl⟩
  obtain ⟨hl, ehl⟩ : ∃ hl, hC = hl := ⟨_, rfl⟩
  obtain ⟨mf, emf⟩ : ∃ mf, compF kC hC bf = mf := ⟨_, rfl⟩
  obtain ⟨lf, elf⟩ : ∃ lf, padF 64 = lf := ⟨_, rfl⟩
  rw [emf, elf] at eef
  rw [elf] at PC
  have B1C := Lib.hid (fun w => By_any kC hC bf (fun i _ => in_kC i) (fun j _ => in_hC j) hb w)
  have B2C := Lib.hid (fun w => By_any kC mf lf (fun i _ => in_kC i) (fun j _ => emf ▸ in_compF _ _ _ j) (fun i _ => elf ▸ in_padF _ i) w)
  have CC := Lib.hid (fun w => Constants_any w)
  have GC := Lib.hid (fun (of : Nat → Int) (hof : ∀ i, i < 64 → inB (of i)) w => By_any kC hC of (fun i _ => in_kC i) (fun j _ => in_hC j) hof w)
  have KC := Lib.hid (fun (of : Nat → Int) (hof : ∀ i, i < 64 → inB (of i)) w h => Compress_any hC of (fun j _ => in_hC j) hof w h)
  rw [emf] at B1C
  rw [eef] at B2C
  rw [ekl, ehl] at B1C CC GC
  rw [ekl] at B2C
  simp only [ekl] at KC
  rw [ehl] at KC
  have WC := Lib.hid works_any
  rw [ekl, ehl] at WC
  rw [ekl] at HG0 SC
  rw [ehl] at HH0 SC
  clear hG hH hb hn esf eef ekl ehl emf elf
  go_enter Tryd.func5, Tryd.ntmps5
  go_upto_region 1 with fail
  obtain ⟨W0, hW⟩ : ∃ W0, W0 = (w.alloc (.cells (nums .u8 bf 64).toArray 29)) := ⟨_, rfl⟩
  have hB0 : Below w.heap.size w W0 := hW ▸ (Below.al (Below.refl _ _))
  have HBk : Hid (Own w.heap.size (nums .u8 bf 64) W0) := Lib.hid (hW ▸ (show Own w.heap.size (nums .u8 bf 64) (w.alloc (.cells (nums .u8 bf 64).toArray 29)) from Own.newAt (by simp)))
  rw [← hW]
  clear hW
  obtain ⟨B, eB⟩ : ∃ X, X = w.heap.size := ⟨_, rfl⟩
  rw [← eB] at HBk ⊢
  have Bw : w.heap.size ≤ B := by omega
  clear eB
  go_wp2_with (fail)
  go_at_call 16
  refine (CC.out _).mono ?_
  rintro e w1 ⟨rfl, hb⟩
  have HBkk := Lib.hid (HBk.out.later hb)
  clear HBk
  have HBk := HBkk
  clear HBkk
  have hB1 := Below.go hB0 hb
  clear hB0 hb
  have hB0 := hB1
  clear hB1 CC
  go_upto_region 2 with fail
  obtain ⟨w2, hW⟩ : ∃ w2, w2 = ((w1.alloc (.cells #[.int .u32 0, .int .u32 0, .int .u32 0, .int .u32 0, .int .u32 0, .int .u32 0, .int .u32 0, .int .u32 0, .int .u32 0, .int .u32 0, .int .u32 0, .int .u32 0, .int .u32 0, .int .u32 0, .int .u32 0, .int .u32 0, .int .u32 0, .int .u32 0, .int .u32 0, .int .u32 0, .int .u32 0, .int .u32 0, .int .u32 0, .int .u32 0, .int .u32 0, .int .u32 0, .int .u32 0, .int .u32 0, .int .u32 0, .int .u32 0, .int .u32 0, .int .u32 0, .int .u32 0, .int .u32 0, .int .u32 0, .int .u32 0, .int .u32 0, .int .u32 0, .int .u32 0, .int .u32 0, .int .u32 0, .int .u32 0, .int .u32 0, .int .u32 0, .int .u32 0, .int .u32 0, .int .u32 0, .int .u32 0, .int .u32 0, .int .u32 0, .int .u32 0, .int .u32 0, .int .u32 0, .int .u32 0, .int .u32 0, .int .u32 0, .int .u32 0, .int .u32 0, .int .u32 0, .int .u32 0, .int .u32 0, .int .u32 0, .int .u32 0, .int .u32 0] 32)).alloc (.cells #[.int .u32 0, .int .u32 0, .int .u32 0, .int .u32 0, .int .u32 0, .int .u32 0, .int .u32 0, .int .u32 0] 28)) := ⟨_, rfl⟩
  have hBx : Below w1.heap.size w1 w2 := hW ▸ (Below.al (Below.al (Below.refl _ _)))
  have HKA : Hid (Own w1.heap.size (nums .u32 (fun _ => 0) 64) w2) := Lib.hid (hW ▸ (show Own w1.heap.size (nums .u32 (fun _ => 0) 64) (w1.alloc (.cells #[.int .u32 0, .int .u32 0, .int .u32 0, .int .u32 0, .int .u32 0, .int .u32 0, .int .u32 0, .int .u32 0, .int .u32 0, .int .u32 0, .int .u32 0, .int .u32 0, .int .u32 0, .int .u32 0, .int .u32 0, .int .u32 0, .int .u32 0, .int .u32 0, .int .u32 0, .int .u32 0, .int .u32 0, .int .u32 0, .int .u32 0, .int .u32 0, .int .u32 0, .int .u32 0, .int .u32 0, .int .u32 0, .int .u32 0, .int .u32 0, .int .u32 0, .int .u32 0, .int .u32 0, .int .u32 0, .int .u32 0, .int .u32 0, .int .u32 0, .int .u32 0, .int .u32 0, .int .u32 0, .int .u32 0, .int .u32 0, .int .u32 0, .int .u32 0, .int .u32 0, .int .u32 0, .int .u32 0, .int .u32 0, .int .u32 0, .int .u32 0, .int .u32 0, .int .u32 0, .int .u32 0, .int .u32 0, .int .u32 0, .int .u32 0, .int .u32 0, .int .u32 0, .int .u32 0, .int .u32 0, .int .u32 0, .int .u32 0, .int .u32 0, .int .u32 0] 32)) from Own.newAt (by simp)).alloc)
  have HHA : Hid (Own (w1.heap.size + 1) (nums .u32 (fun _ => 0) 8) w2) := Lib.hid (hW ▸ (show Own (w1.heap.size + 1) (nums .u32 (fun _ => 0) 8) ((w1.alloc (.cells #[.int .u32 0, .int .u32 0, .int .u32 0, .int .u32 0, .int .u32 0, .int .u32 0, .int .u32 0, .int .u32 0, .int .u32 0, .int .u32 0, .int .u32 0, .int .u32 0, .int .u32 0, .int .u32 0, .int .u32 0, .int .u32 0, .int .u32 0, .int .u32 0, .int .u32 0, .int .u32 0, .int .u32 0, .int .u32 0, .int .u32 0, .int .u32 0, .int .u32 0, .int .u32 0, .int .u32 0, .int .u32 0, .int .u32 0, .int .u32 0, .int .u32 0, .int .u32 0, .int .u32 0, .int .u32 0, .int .u32 0, .int .u32 0, .int .u32 0, .int .u32 0, .int .u32 0, .int .u32 0, .int .u32 0, .int .u32 0, .int .u32 0, .int .u32 0, .int .u32 0, .int .u32 0, .int .u32 0, .int .u32 0, .int .u32 0, .int .u32 0, .int .u32 0, .int .u32 0, .int .u32 0, .int .u32 0, .int .u32 0, .int .u32 0, .int .u32 0, .int .u32 0, .int .u32 0, .int .u32 0, .int .u32 0, .int .u32 0, .int .u32 0, .int .u32 0] 32)).alloc (.cells #[.int .u32 0, .int .u32 0, .int .u32 0, .int .u32 0, .int .u32 0, .int .u32 0, .int .u32 0, .int .u32 0] 28)) from Own.newAt (by simp)))
  rw [← hW]
  clear hW
  obtain ⟨HA, eHA⟩ : ∃ X, X = (w1.heap.size + 1) := ⟨_, rfl⟩
  rw [← eHA] at HHA ⊢
  have HAw : w1.heap.size ≤ HA := by omega
  obtain ⟨KA, eKA⟩ : ∃ X, X = w1.heap.size := ⟨_, rfl⟩
  rw [← eKA] at HKA ⊢
  have KAw : w1.heap.size ≤ KA := by omega
  have nKAHA : KA ≠ HA := by omega
  have nHAKA : HA ≠ KA := by omega
  clear eKA eHA
  have nKAB : KA ≠ B := by have := HBk.out.lt; omega
  have nBKA : B ≠ KA := Ne.symm nKAB
  have KAw2 : w.heap.size ≤ KA := by have := hB0.size; omega
  clear KAw
  have KAw := KAw2
  clear KAw2
  have nHAB : HA ≠ B := by have := HBk.out.lt; omega
  have nBHA : B ≠ HA := Ne.symm nHAB
  have HAw2 : w.heap.size ≤ HA := by have := hB0.size; omega
  clear HAw
  have HAw := HAw2
  clear HAw2
  have HBkk := Lib.hid (HBk.out.later hBx)
  clear HBk
  have HBk := HBkk
  clear HBkk
  have hB0n := Below.go hB0 hBx
  clear hB0 hBx
  have hB0 := hB0n
  clear hB0n
  have OH := Own.far (c := KA) (o := 0) (vs := nums .u32 kl 64) HHA.out nHAKA
  have hs1 := store_nums (P := Tryd.prog) (n := 64) .u32 kl HKA.out (nums_length _ _ _)
  have hs2 := store_nums (P := Tryd.prog) (n := 8) .u32 hl OH (nums_length _ _ _)
  rw [hs1]
  go_upto_region 2 with fail
  try rw [hs2]
  try go_upto_region 2 with fail
  clear hs1 hs2 OH
  have HKAn : Hid (Own KA (nums .u32 kl 64) (w2.setCells KA 0 (nums .u32 kl 64))) := Lib.hid (Own.store HKA.out (by rw [nums_length, nums_length]))
  have HHAn : Hid (Own HA (nums .u32 (fun _ => 0) 8) (w2.setCells KA 0 (nums .u32 kl 64))) := Lib.hid (Own.far (o := 0) (vs := (nums .u32 kl 64)) HHA.out nHAKA)
  have HBkn : Hid (Own B (nums .u8 bf 64) (w2.setCells KA 0 (nums .u32 kl 64))) := Lib.hid (Own.far (o := 0) (vs := (nums .u32 kl 64)) HBk.out nBKA)
  have hB0n : Below w.heap.size w (w2.setCells KA 0 (nums .u32 kl 64)) := Below.setCells hB0 KAw (nums .u32 kl 64) 0
  clear HKA HHA HBk hB0
  generalize (w2.setCells KA 0 (nums .u32 kl 64)) = w3 at *
  have HKA := HKAn
  clear HKAn
  have HHA := HHAn
  clear HHAn
  have HBk := HBkn
  clear HBkn
  have hB0 := hB0n
  clear hB0n
  have HHAn : Hid (Own HA (nums .u32 hl 8) (w3.setCells HA 0 (nums .u32 hl 8))) := Lib.hid (Own.store HHA.out (by rw [nums_length, nums_length]))
  have HKAn : Hid (Own KA (nums .u32 kl 64) (w3.setCells HA 0 (nums .u32 hl 8))) := Lib.hid (Own.far (o := 0) (vs := (nums .u32 hl 8)) HKA.out nKAHA)
  have HBkn : Hid (Own B (nums .u8 bf 64) (w3.setCells HA 0 (nums .u32 hl 8))) := Lib.hid (Own.far (o := 0) (vs := (nums .u32 hl 8)) HBk.out nBHA)
  have hB0n : Below w.heap.size w (w3.setCells HA 0 (nums .u32 hl 8)) := Below.setCells hB0 HAw (nums .u32 hl 8) 0
  clear HHA HKA HBk hB0
  generalize (w3.setCells HA 0 (nums .u32 hl 8)) = w4 at *
  have HHA := HHAn
  clear HHAn
  have HKA := HKAn
  clear HKAn
  have HBk := HBkn
  clear HBkn
  have hB0 := hB0n
  clear hB0n
  go_upto_region 3 with fail
  obtain ⟨w5, hW⟩ : ∃ w5, w5 = (w4.alloc (.cells #[.int .u8 0, .int .u8 0, .int .u8 0, .int .u8 0, .int .u8 0, .int .u8 0, .int .u8 0, .int .u8 0, .int .u8 0, .int .u8 0, .int .u8 0, .int .u8 0, .int .u8 0, .int .u8 0, .int .u8 0, .int .u8 0, .int .u8 0, .int .u8 0, .int .u8 0, .int .u8 0, .int .u8 0, .int .u8 0, .int .u8 0, .int .u8 0, .int .u8 0, .int .u8 0, .int .u8 0, .int .u8 0, .int .u8 0, .int .u8 0, .int .u8 0, .int .u8 0, .int .u8 0, .int .u8 0, .int .u8 0, .int .u8 0, .int .u8 0, .int .u8 0, .int .u8 0, .int .u8 0, .int .u8 0, .int .u8 0, .int .u8 0, .int .u8 0, .int .u8 0, .int .u8 0, .int .u8 0, .int .u8 0, .int .u8 0, .int .u8 0, .int .u8 0, .int .u8 0, .int .u8 0, .int .u8 0, .int .u8 0, .int .u8 0, .int .u8 0, .int .u8 0, .int .u8 0, .int .u8 0, .int .u8 0, .int .u8 0, .int .u8 0, .int .u8 0] 29)) := ⟨_, rfl⟩
  have hBx : Below w4.heap.size w4 w5 := hW ▸ (Below.al (Below.refl _ _))
  have HL : Hid (Own w4.heap.size (nums .u8 (fun _ => 0) 64) w5) := Lib.hid (hW ▸ (show Own w4.heap.size (nums .u8 (fun _ => 0) 64) (w4.alloc (.cells #[.int .u8 0, .int .u8 0, .int .u8 0, .int .u8 0, .int .u8 0, .int .u8 0, .int .u8 0, .int .u8 0, .int .u8 0, .int .u8 0, .int .u8 0, .int .u8 0, .int .u8 0, .int .u8 0, .int .u8 0, .int .u8 0, .int .u8 0, .int .u8 0, .int .u8 0, .int .u8 0, .int .u8 0, .int .u8 0, .int .u8 0, .int .u8 0, .int .u8 0, .int .u8 0, .int .u8 0, .int .u8 0, .int .u8 0, .int .u8 0, .int .u8 0, .int .u8 0, .int .u8 0, .int .u8 0, .int .u8 0, .int .u8 0, .int .u8 0, .int .u8 0, .int .u8 0, .int .u8 0, .int .u8 0, .int .u8 0, .int .u8 0, .int .u8 0, .int .u8 0, .int .u8 0, .int .u8 0, .int .u8 0, .int .u8 0, .int .u8 0, .int .u8 0, .int .u8 0, .int .u8 0, .int .u8 0, .int .u8 0, .int .u8 0, .int .u8 0, .int .u8 0, .int .u8 0, .int .u8 0, .int .u8 0, .int .u8 0, .int .u8 0, .int .u8 0] 29)) from Own.newAt (by simp)))
  rw [← hW]
  clear hW
  obtain ⟨L, eL⟩ : ∃ X, X = w4.heap.size := ⟨_, rfl⟩
  rw [← eL] at HL ⊢
  have Lw : w4.heap.size ≤ L := by omega
  clear eL
  have nLKA : L ≠ KA := by have := HKA.out.lt; omega
  have nKAL : KA ≠ L := Ne.symm nLKA
  have nLHA : L ≠ HA := by have := HHA.out.lt; omega
  have nHAL : HA ≠ L := Ne.symm nLHA
  have nLB : L ≠ B := by have := HBk.out.lt; omega
  have nBL : B ≠ L := Ne.symm nLB
  have Lw2 : w.heap.size ≤ L := by have := hB0.size; omega
  clear Lw
  have Lw := Lw2
  clear Lw2
  have HKAk := Lib.hid (HKA.out.later hBx)
  have HHAk := Lib.hid (HHA.out.later hBx)
  have HBkk := Lib.hid (HBk.out.later hBx)
  clear HKA HHA HBk
  have HKA := HKAk
  clear HKAk
  have HHA := HHAk
  clear HHAk
  have HBk := HBkk
  clear HBkk
  have hB0n := Below.go hB0 hBx
  clear hB0 hBx
  have hB0 := hB0n
  clear hB0n
  refine wp_region_held_drew (S := fun _ => True) (by kernel_rfl) trivial (fun _ => ?_)
  refine wpAnyH_take (i := 0) (v := ?_) rfl (by kernel_rfl) (by kernel_rfl) (by kernel_rfl) (fun _ _ _ h => h) (Or.inl ⟨by rfl, ?_⟩) trivial ?_
  rotate_left
  · intro w hSw; (try dsimp only at hSw); go_simp; try (with_reducible rfl)
  try simp only [Act.put, List.getElem_toArray, List.getElem_cons_zero, List.getElem_cons_succ, List.setIfInBounds_toArray, List.set_cons_zero, List.set_cons_succ]
  have hBx : Below w5.heap.size w5 w5.drew := Below.drew (Below.refl _ _)
  obtain ⟨w6, e6⟩ : ∃ w6, w6 = w5.drew := ⟨_, rfl⟩
  rw [← e6] at hBx ⊢
  clear e6
  have HKAk := Lib.hid (HKA.out.later hBx)
  have HHAk := Lib.hid (HHA.out.later hBx)
  have HBkk := Lib.hid (HBk.out.later hBx)
  have HLk := Lib.hid (HL.out.later hBx)
  clear HKA HHA HBk HL
  have HKA := HKAk
  clear HKAk
  have HHA := HHAk
  clear HHAk
  have HBk := HBkk
  clear HBkk
  have HL := HLk
  clear HLk
  have hB1 := Below.go hB0 hBx
  clear hB0 hBx
  refine wpAnyH_ready (rs := [1]) (by kernel_rfl) (by simp) ?_
  refine AllReadyH.cons rfl (fun K hK => ?_) AllReadyH.nil
  go_simp
  go_at_call 11
  refine (PC.out _).mono ?_
  rintro e w7 ⟨v7, rfl, hr, hb⟩
  obtain ⟨X, cX, rfl, hXb, hXl⟩ := row_blk hr (by decide)
  have HX := Lib.hid (row_has hr).1
  have nXL : X ≠ L := by have := HL.out.lt; omega
  have HKAk := Lib.hid (HKA.out.later hb)
  have HHAk := Lib.hid (HHA.out.later hb)
  have HBkk := Lib.hid (HBk.out.later hb)
  have HLk := Lib.hid (HL.out.later hb)
  clear HKA HHA HBk HL
  have HKA := HKAk
  clear HKAk
  have HHA := HHAk
  clear HHAk
  have HBk := HBkk
  clear HBkk
  have HL := HLk
  clear HLk
  have hB2 := Below.go hB1 hb
  clear hB1 hb hr hXb hXl PC
  refine hK.out _ _ trivial (fun _ => ?_)
  clear hK K
  try simp only [Act.put, List.getElem_toArray, List.getElem_cons_zero, List.getElem_cons_succ, List.setIfInBounds_toArray, List.set_cons_zero, List.set_cons_succ]
  refine wpAnyH_ready (rs := [2]) (by kernel_rfl) (by simp) ?_
  refine AllReadyH.cons rfl (fun K hK => ?_) AllReadyH.nil
  refine step_copy rfl (.tmp 17) (.tmp 18) 23 rfl rfl rfl (copy_byt L 0 X 0 64 64 64 cX 64 3 lf w7 rfl HX.out (there_own HL.out (by rw [nums_length]; decide))) ?_
  refine hK.out _ _ trivial (fun _ => ?_)
  clear hK K
  try simp only [Act.put, List.getElem_toArray, List.getElem_cons_zero, List.getElem_cons_succ, List.setIfInBounds_toArray, List.set_cons_zero, List.set_cons_succ]
  refine wpAnyH_done (by kernel_rfl) ?_ _
  have hB0 := hB2
  clear hB2
  have HLn : Hid (Own L (nums .u8 lf 64) (w7.setCells L 0 (nums .u8 lf 64))) := Lib.hid (Own.store HL.out (by rw [nums_length, nums_length]))
  have HKAn : Hid (Own KA (nums .u32 kl 64) (w7.setCells L 0 (nums .u8 lf 64))) := Lib.hid (Own.far (o := 0) (vs := (nums .u8 lf 64)) HKA.out nKAL)
  have HHAn : Hid (Own HA (nums .u32 hl 8) (w7.setCells L 0 (nums .u8 lf 64))) := Lib.hid (Own.far (o := 0) (vs := (nums .u8 lf 64)) HHA.out nHAL)
  have HBkn : Hid (Own B (nums .u8 bf 64) (w7.setCells L 0 (nums .u8 lf 64))) := Lib.hid (Own.far (o := 0) (vs := (nums .u8 lf 64)) HBk.out nBL)
  have hB0n : Below w.heap.size w (w7.setCells L 0 (nums .u8 lf 64)) := Below.setCells hB0 Lw (nums .u8 lf 64) 0
  clear HL HKA HHA HBk hB0
  generalize (w7.setCells L 0 (nums .u8 lf 64)) = w8 at *
  have HL := HLn
  clear HLn
  have HKA := HKAn
  clear HKAn
  have HHA := HHAn
  clear HHAn
  have HBk := HBkn
  clear HBkn
  have hB0 := hB0n
  clear hB0n
  clear HX nXL
  go_wp2_with (fail)
  obtain ⟨w9, hW⟩ : ∃ w9, w9 = (w8.alloc (.cells #[.slice (some ⟨B, 0, none⟩) 64 64] 23)) := ⟨_, rfl⟩
  have hBx : Below w8.heap.size w8 w9 := hW ▸ (Below.al (Below.refl _ _))
  have HQ : Hid (Own w8.heap.size ([.slice (some ⟨B, 0, none⟩) 64 64]) w9) := Lib.hid (hW ▸ (show Own w8.heap.size ([.slice (some ⟨B, 0, none⟩) 64 64]) (w8.alloc (.cells #[.slice (some ⟨B, 0, none⟩) 64 64] 23)) from Own.newAt (by simp)))
  rw [← hW]
  clear hW
  obtain ⟨Q, eQ⟩ : ∃ X, X = w8.heap.size := ⟨_, rfl⟩
  rw [← eQ] at HQ ⊢
  have Qw : w8.heap.size ≤ Q := by omega
  clear eQ
  have nQKA : Q ≠ KA := by have := HKA.out.lt; omega
  have nKAQ : KA ≠ Q := Ne.symm nQKA
  have nQHA : Q ≠ HA := by have := HHA.out.lt; omega
  have nHAQ : HA ≠ Q := Ne.symm nQHA
  have nQB : Q ≠ B := by have := HBk.out.lt; omega
  have nBQ : B ≠ Q := Ne.symm nQB
  have nQL : Q ≠ L := by have := HL.out.lt; omega
  have nLQ : L ≠ Q := Ne.symm nQL
  have Qw2 : w.heap.size ≤ Q := by have := hB0.size; omega
  clear Qw
  have Qw := Qw2
  clear Qw2
  have HKAk := Lib.hid (HKA.out.later hBx)
  have HHAk := Lib.hid (HHA.out.later hBx)
  have HBkk := Lib.hid (HBk.out.later hBx)
  have HLk := Lib.hid (HL.out.later hBx)
  clear HKA HHA HBk HL
  have HKA := HKAk
  clear HKAk
  have HHA := HHAk
  clear HHAk
  have HBk := HBkk
  clear HBkk
  have HL := HLk
  clear HLk
  have hB0n := Below.go hB0 hBx
  clear hB0 hBx
  have hB0 := hB0n
  clear hB0n
  have hP := parts_one HQ.out (show RowR w9 (.slice (some ⟨B, 0, none⟩) 64 64) 64 bf from ⟨_, 64, rfl, Nat.le_refl _, by decide, .inr ⟨B, 0, rfl, HBk.out.has⟩⟩)
  go_at_call 17
  refine (SC.out _ _ (HG0.out.later hB0) (HH0.out.later hB0) hP).mono ?_
  rintro e wa ⟨rfl, hb⟩
  clear hP HQ SC
  have HKAk := Lib.hid (HKA.out.later hb)
  have HHAk := Lib.hid (HHA.out.later hb)
  have HBkk := Lib.hid (HBk.out.later hb)
  have HLk := Lib.hid (HL.out.later hb)
  clear HKA HHA HBk HL
  have HKA := HKAk
  clear HKAk
  have HHA := HHAk
  clear HHAk
  have HBk := HBkk
  clear HBkk
  have HL := HLk
  clear HLk
  have hB1 := Below.go hB0 hb
  clear hB0 hb
  have hB0 := hB1
  clear hB1
  go_upto_region 5 with fail
  obtain ⟨wb, hW⟩ : ∃ wb, wb = (wa.alloc (.cells (nums .u8 sf 32).toArray 35)) := ⟨_, rfl⟩
  have hBx : Below wa.heap.size wa wb := hW ▸ (Below.al (Below.refl _ _))
  have HD : Hid (Own wa.heap.size (nums .u8 sf 32) wb) := Lib.hid (hW ▸ (show Own wa.heap.size (nums .u8 sf 32) (wa.alloc (.cells (nums .u8 sf 32).toArray 35)) from Own.newAt (by simp)))
  rw [← hW]
  clear hW
  obtain ⟨D, eD⟩ : ∃ X, X = wa.heap.size := ⟨_, rfl⟩
  rw [← eD] at HD ⊢
  have Dw : wa.heap.size ≤ D := by omega
  clear eD
  have nDKA : D ≠ KA := by have := HKA.out.lt; omega
  have nKAD : KA ≠ D := Ne.symm nDKA
  have nDHA : D ≠ HA := by have := HHA.out.lt; omega
  have nHAD : HA ≠ D := Ne.symm nDHA
  have nDB : D ≠ B := by have := HBk.out.lt; omega
  have nBD : B ≠ D := Ne.symm nDB
  have nDL : D ≠ L := by have := HL.out.lt; omega
  have nLD : L ≠ D := Ne.symm nDL
  have Dw2 : w.heap.size ≤ D := by have := hB0.size; omega
  clear Dw
  have Dw := Dw2
  clear Dw2
  have HKAk := Lib.hid (HKA.out.later hBx)
  have HHAk := Lib.hid (HHA.out.later hBx)
  have HBkk := Lib.hid (HBk.out.later hBx)
  have HLk := Lib.hid (HL.out.later hBx)
  clear HKA HHA HBk HL
  have HKA := HKAk
  clear HKAk
  have HHA := HHAk
  clear HHAk
  have HBk := HBkk
  clear HBkk
  have HL := HLk
  clear HLk
  have hB0n := Below.go hB0 hBx
  clear hB0 hBx
  have hB0 := hB0n
  clear hB0n
  refine wp_region_fun 9 (by kernel_rfl) (by kernel_rfl) rfl (fun s b => ⟨#[(.agg (nums .u8 bf 64).toArray), .int .u8 n, .pointer (some ⟨B, 0, none⟩), undef, .bool false, .pointer (some ⟨KA, 0, none⟩), .pointer (some ⟨HA, 0, none⟩), .pointer (some ⟨L, 0, none⟩), .pointer (some ⟨D, 0, none⟩), s 9, undef, undef, undef, (.tuple #[.agg (nums .u32 kl 64).toArray, .agg (nums .u32 hl 8).toArray]), (.tuple #[.agg (nums .u32 kl 64).toArray, .agg (nums .u32 hl 8).toArray]), (.agg (nums .u32 kl 64).toArray), (.agg (nums .u32 hl 8).toArray), .slice (some ⟨L, 0, none⟩) 64 64, .slice (some ⟨X, 0, none⟩) 64 cX, goInt ((64 : Nat) : Int), .slice (some ⟨B, 0, none⟩) 64 64, .slice (some ⟨Q, 0, none⟩) 1 1, (.agg (nums .u8 sf 32).toArray), s 23, s 24, s 25, s 26, s 27, s 28, s 29, undef, undef, undef, undef, undef, undef, undef, undef, undef, undef, undef, undef, undef, undef, undef, undef, undef, undef, undef, undef, undef, undef, undef, undef, undef, undef, undef, undef, undef, undef, undef, undef, undef, undef, undef, undef, undef, undef, undef, undef, undef], []⟩) (fun d s b w => (Below wb.heap.size wb w) ∧ (d 0 = true → s 23 = (.agg (nums .u32 kl 64).toArray)) ∧ (d 1 = true → s 24 = (.agg (nums .u32 kl 64).toArray)) ∧ (d 2 = true → s 25 = (.agg (nums .u32 hl 8).toArray)) ∧ (d 3 = true → s 26 = (.agg (nums .u8 bf 64).toArray)) ∧ (d 4 = true → s 27 = (.agg (nums .u32 mf 8).toArray)) ∧ (d 5 = true → s 28 = (.agg (nums .u8 lf 64).toArray)) ∧ (d 6 = true → s 29 = (.agg (nums .u32 ef 8).toArray)) ∧ (d 7 = true → s 9 = .pointer (some ⟨(b 7), 0, none⟩) ∧ wb.heap.size ≤ b 7) ∧ (d 7 = true → d 8 = false → Own (b 7) (nums .u32 (fun _ => 0) 8) w) ∧ (d 8 = true → Own (b 7) (nums .u32 ef 8) w) ∧ (d 8 = true → d 7 = true)) rfl ?h0wc (?stwc : StepsF _ _ _ _ 9 _ _ [0, 1, 2, 3, 4, 5, 6, 7, 8]) ?dnwc
  case h0wc => exact ⟨Below.drew (Below.refl _ _), (fun h => nomatch h), (fun h => nomatch h), (fun h => nomatch h), (fun h => nomatch h), (fun h => nomatch h), (fun h => nomatch h), (fun h => nomatch h), (fun h => nomatch h), (fun h => nomatch h), (fun h => nomatch h), (fun h => nomatch h)⟩
  case stwc =>
    refine StepsF.cons (o := _) rfl (ws := []) (by kernel_rfl) (by decide) (fun d s b w hF hd hw K_ hK => ?_) ?_
    · have hB : Below wb.heap.size wb w := (p0_ hF.out)
      refine step_load (by simp [Region.wanted]) 32 _ rfl KA 0 rfl (nums .u32 kl 64) _ (HKA.out.later hB).cell Tryd.underlying32 rfl (by kernel_rfl) ?_
      exact hK.out (ups s 23 ((.agg (nums .u32 kl 64).toArray))) b _ ⟨hB, (fun _ => rfl), (p2_ hF.out), (p3_ hF.out), (p4_ hF.out), (p5_ hF.out), (p6_ hF.out), (p7_ hF.out), (p8_ hF.out), (p9_ hF.out), (p10_ hF.out), (q11_ hF.out)⟩
    refine StepsF.cons (o := _) rfl (ws := []) (by kernel_rfl) (by decide) (fun d s b w hF hd hw K_ hK => ?_) ?_
    · have hB : Below wb.heap.size wb w := (p0_ hF.out)
      refine step_load (by simp [Region.wanted]) 32 _ rfl KA 0 rfl (nums .u32 kl 64) _ (HKA.out.later hB).cell Tryd.underlying32 rfl (by kernel_rfl) ?_
      exact hK.out (ups s 24 ((.agg (nums .u32 kl 64).toArray))) b _ ⟨hB, (p1_ hF.out), (fun _ => rfl), (p3_ hF.out), (p4_ hF.out), (p5_ hF.out), (p6_ hF.out), (p7_ hF.out), (p8_ hF.out), (p9_ hF.out), (p10_ hF.out), (q11_ hF.out)⟩
    refine StepsF.cons (o := _) rfl (ws := []) (by kernel_rfl) (by decide) (fun d s b w hF hd hw K_ hK => ?_) ?_
    · have hB : Below wb.heap.size wb w := (p0_ hF.out)
      refine step_load (by simp [Region.wanted]) 28 _ rfl HA 0 rfl (nums .u32 hl 8) _ (HHA.out.later hB).cell Tryd.underlying28 rfl (by kernel_rfl) ?_
      exact hK.out (ups s 25 ((.agg (nums .u32 hl 8).toArray))) b _ ⟨hB, (p1_ hF.out), (p2_ hF.out), (fun _ => rfl), (p4_ hF.out), (p5_ hF.out), (p6_ hF.out), (p7_ hF.out), (p8_ hF.out), (p9_ hF.out), (p10_ hF.out), (q11_ hF.out)⟩
    refine StepsF.cons (o := _) rfl (ws := []) (by kernel_rfl) (by decide) (fun d s b w hF hd hw K_ hK => ?_) ?_
    · have hB : Below wb.heap.size wb w := (p0_ hF.out)
      refine step_load (by simp [Region.wanted]) 29 _ rfl B 0 rfl (nums .u8 bf 64) _ (HBk.out.later hB).cell Tryd.underlying29 rfl (by kernel_rfl) ?_
      exact hK.out (ups s 26 ((.agg (nums .u8 bf 64).toArray))) b _ ⟨hB, (p1_ hF.out), (p2_ hF.out), (p3_ hF.out), (fun _ => rfl), (p5_ hF.out), (p6_ hF.out), (p7_ hF.out), (p8_ hF.out), (p9_ hF.out), (p10_ hF.out), (q11_ hF.out)⟩
    refine StepsF.cons (o := _) rfl (ws := [1, 2, 3]) (by kernel_rfl) (by decide) (fun d s b w hF hd hw K_ hK => ?_) ?_
    · have hB : Below wb.heap.size wb w := (p0_ hF.out)
      have e1 : s 24 = (.agg (nums .u32 kl 64).toArray) := (p2_ hF.out) (hw 1 (by decide))
      have e2 : s 25 = (.agg (nums .u32 hl 8).toArray) := (p3_ hF.out) (hw 2 (by decide))
      have e3 : s 26 = (.agg (nums .u8 bf 64).toArray) := (p4_ hF.out) (hw 3 (by decide))
      dsimp only
      go_simp
      go_at_call 18
      refine (B1C.out _).mono ?_
      rintro e w1 ⟨rfl, hb⟩
      exact hK.out (ups (ups (ups (ups s 24 ((.agg (nums .u32 kl 64).toArray))) 25 ((.agg (nums .u32 hl 8).toArray))) 26 ((.agg (nums .u8 bf 64).toArray))) 27 ((.agg (nums .u32 mf 8).toArray))) b _ ⟨(Below.go hB hb), (p1_ hF.out), (fun _ => rfl), (fun _ => rfl), (fun _ => rfl), (fun _ => rfl), (p6_ hF.out), (p7_ hF.out), (p8_ hF.out), (fun h0 h1 => ((p9_ hF.out) h0 h1).later hb), (fun h0 => ((p10_ hF.out) h0).later hb), (q11_ hF.out)⟩
    refine StepsF.cons (o := _) rfl (ws := []) (by kernel_rfl) (by decide) (fun d s b w hF hd hw K_ hK => ?_) ?_
    · have hB : Below wb.heap.size wb w := (p0_ hF.out)
      refine step_load (by simp [Region.wanted]) 29 _ rfl L 0 rfl (nums .u8 lf 64) _ (HL.out.later hB).cell Tryd.underlying29 rfl (by kernel_rfl) ?_
      exact hK.out (ups s 28 ((.agg (nums .u8 lf 64).toArray))) b _ ⟨hB, (p1_ hF.out), (p2_ hF.out), (p3_ hF.out), (p4_ hF.out), (p5_ hF.out), (fun _ => rfl), (p7_ hF.out), (p8_ hF.out), (p9_ hF.out), (p10_ hF.out), (q11_ hF.out)⟩
    refine StepsF.cons (o := _) rfl (ws := [0, 4, 5, 4]) (by kernel_rfl) (by decide) (fun d s b w hF hd hw K_ hK => ?_) ?_
    · have hB : Below wb.heap.size wb w := (p0_ hF.out)
      have e0 : s 23 = (.agg (nums .u32 kl 64).toArray) := (p1_ hF.out) (hw 0 (by decide))
      have e4 : s 27 = (.agg (nums .u32 mf 8).toArray) := (p5_ hF.out) (hw 4 (by decide))
      have e5 : s 28 = (.agg (nums .u8 lf 64).toArray) := (p6_ hF.out) (hw 5 (by decide))
      dsimp only
      go_simp
      go_at_call 18
      refine (B2C.out _).mono ?_
      rintro e w1 ⟨rfl, hb⟩
      exact hK.out (ups (ups (ups (ups s 23 ((.agg (nums .u32 kl 64).toArray))) 27 ((.agg (nums .u32 mf 8).toArray))) 28 ((.agg (nums .u8 lf 64).toArray))) 29 ((.agg (nums .u32 ef 8).toArray))) b _ ⟨(Below.go hB hb), (fun _ => rfl), (p2_ hF.out), (p3_ hF.out), (p4_ hF.out), (fun _ => rfl), (fun _ => rfl), (fun _ => rfl), (p8_ hF.out), (fun h0 h1 => ((p9_ hF.out) h0 h1).later hb), (fun h0 => ((p10_ hF.out) h0).later hb), (q11_ hF.out)⟩
    refine StepsF.cons (o := _) rfl (ws := []) (by kernel_rfl) (by decide) (fun d s b w hF hd hw K_ hK => ?_) ?_
    · have hB : Below wb.heap.size wb w := (p0_ hF.out)
      dsimp only
      go_simp
      exact hK.out (ups s 9 (.pointer (some ⟨w.heap.size, 0, none⟩))) (ups b 7 w.heap.size) _ ⟨(hB.alloc hB.size _), (p1_ hF.out), (p2_ hF.out), (p3_ hF.out), (p4_ hF.out), (p5_ hF.out), (p6_ hF.out), (p7_ hF.out), (fun _ => ⟨rfl, hB.size⟩), (fun _ _ => Own.newAt rfl), (fun h => absurd ((q11_ hF.out) h) (by simp [hd])), (fun _ => rfl)⟩
    refine StepsF.cons (o := _) rfl (ws := [7, 6, 6, 0, 1, 2, 3, 4, 5, 6, 7]) (by kernel_rfl) (by decide) (fun d s b w hF hd hw K_ hK => ?_) ?_
    · have hB : Below wb.heap.size wb w := (p0_ hF.out)
      have e0 : s 23 = (.agg (nums .u32 kl 64).toArray) := (p1_ hF.out) (hw 0 (by decide))
      have e1 : s 24 = (.agg (nums .u32 kl 64).toArray) := (p2_ hF.out) (hw 1 (by decide))
      have e2 : s 25 = (.agg (nums .u32 hl 8).toArray) := (p3_ hF.out) (hw 2 (by decide))
      have e3 : s 26 = (.agg (nums .u8 bf 64).toArray) := (p4_ hF.out) (hw 3 (by decide))
      have e4 : s 27 = (.agg (nums .u32 mf 8).toArray) := (p5_ hF.out) (hw 4 (by decide))
      have e5 : s 28 = (.agg (nums .u8 lf 64).toArray) := (p6_ hF.out) (hw 5 (by decide))
      have e6 : s 29 = (.agg (nums .u32 ef 8).toArray) := (p7_ hF.out) (hw 6 (by decide))
      have e7 : s 9 = .pointer (some ⟨(b 7), 0, none⟩) := ((p8_ hF.out) (hw 7 (by decide))).1
      have le7 : wb.heap.size ≤ b 7 := ((p8_ hF.out) (hw 7 (by decide))).2
      dsimp only
      have o7 := (p9_ hF.out) (hw 7 (by decide)) hd
      have hst := store_nums (P := Tryd.prog) (n := 8) .u32 ef o7 rfl
      go_simp
      exact hK.out (ups (ups (ups (ups (ups (ups (ups (ups s 23 ((.agg (nums .u32 kl 64).toArray))) 24 ((.agg (nums .u32 kl 64).toArray))) 25 ((.agg (nums .u32 hl 8).toArray))) 26 ((.agg (nums .u8 bf 64).toArray))) 27 ((.agg (nums .u32 mf 8).toArray))) 28 ((.agg (nums .u8 lf 64).toArray))) 29 ((.agg (nums .u32 ef 8).toArray))) 9 (.pointer (some ⟨(b 7), 0, none⟩))) b _ ⟨(Below.setCells hB le7 (nums .u32 ef 8) 0), (fun _ => rfl), (fun _ => rfl), (fun _ => rfl), (fun _ => rfl), (fun _ => rfl), (fun _ => rfl), (fun _ => rfl), (fun _ => ⟨rfl, le7⟩), (fun _ h => nomatch h), (fun _ => Own.store (vs := (nums .u32 ef 8)) o7 rfl), (fun _ => hw 7 (by decide))⟩
    exact StepsF.nil
  intro d s b wc hF hall
  replace hF := Lib.hid hF
  have hB : Below wb.heap.size wb wc := (p0_ hF.out)
  try dsimp only
  have e0 : s 23 = (.agg (nums .u32 kl 64).toArray) := (p1_ hF.out) (hall 0 (by decide))
  have e1 : s 24 = (.agg (nums .u32 kl 64).toArray) := (p2_ hF.out) (hall 1 (by decide))
  have e2 : s 25 = (.agg (nums .u32 hl 8).toArray) := (p3_ hF.out) (hall 2 (by decide))
  have e3 : s 26 = (.agg (nums .u8 bf 64).toArray) := (p4_ hF.out) (hall 3 (by decide))
  have e4 : s 27 = (.agg (nums .u32 mf 8).toArray) := (p5_ hF.out) (hall 4 (by decide))
  have e5 : s 28 = (.agg (nums .u8 lf 64).toArray) := (p6_ hF.out) (hall 5 (by decide))
  have e6 : s 29 = (.agg (nums .u32 ef 8).toArray) := (p7_ hF.out) (hall 6 (by decide))
  have e7 : s 9 = .pointer (some ⟨(b 7), 0, none⟩) := ((p8_ hF.out) (hall 7 (by decide))).1
  have le7 : wb.heap.size ≤ b 7 := ((p8_ hF.out) (hall 7 (by decide))).2
  have f8 := (p10_ hF.out) (hall 8 (by decide))
  rw [e0, e1, e2, e3, e4, e5, e6, e7]
  clear hall hF e0 e1 e2 e3 e4 e5 e6 e7
  obtain ⟨E, hz⟩ : ∃ x, x = b 7 := ⟨_, rfl⟩
  rw [← hz] at le7 f8 ⊢
  clear hz
  clear d s b
  have HE := Lib.hid f8
  have HKAk := Lib.hid (HKA.out.later hB)
  have HHAk := Lib.hid (HHA.out.later hB)
  have HBkk := Lib.hid (HBk.out.later hB)
  have HDk := Lib.hid (HD.out.later hB)
  clear HKA HHA HBk HD
  have HKA := HKAk
  clear HKAk
  have HHA := HHAk
  clear HHAk
  have HBk := HBkk
  clear HBkk
  have HD := HDk
  clear HDk
  have hB1 := Below.go hB0 hB
  have INw := hB
  clear hB0 hB f8 HL
  go_upto_region 6 with fail
  refine wp_region_lit ?_
  refine wpList_load_mid rfl 28 _ rfl E 0 rfl (nums .u32 ef 8) _ HE.out.cell Tryd.underlying28 rfl (by kernel_rfl) ?_
  clear HE le7 INw
  go_wp2_with (fail)
  go_loopw [31] (fun iv wr => ∃ (k : Nat), k ≤ 8 ∧ iv = .int .i64 k ∧ Hid (Below w.heap.size w wr) ∧ Hid (Own KA (nums .u32 kl 64) wr) ∧ Hid (Own HA (nums .u32 hl 8) wr) ∧ Hid (Own B (nums .u8 bf 64) wr) ∧ Hid (Own D (nums .u8 sf 32) wr)) (fun iv _ => (8 - (intOf iv).toNat))
  case atStart => exact ⟨0, Nat.zero_le _, rfl, Lib.hid hB1, HKA, HHA, HBk, HD⟩
  case round =>
    clear HKA HHA HBk HD hB1
    obtain ⟨k, hk, rfl, HB, HKA, HHA, HBk, HD⟩ := hrel
    by_cases hlt : k < 8
    · obtain ⟨a, ea⟩ : ∃ a, 4 * k = a := ⟨_, rfl⟩
      obtain ⟨b, eb⟩ : ∃ b, a + 3 = b := ⟨_, rfl⟩
      have hx := index_u8 ef k hlt wr
      have R := RS.out k hlt
      rw [ea, eb] at R
      obtain ⟨x, ex⟩ : ∃ x, ef k = x := ⟨_, rfl⟩
      rw [ex] at hx R
      obtain ⟨y, ey⟩ : ∃ y, sf a = y := ⟨_, rfl⟩
      obtain ⟨z, ez⟩ : ∃ z, sf b = z := ⟨_, rfl⟩
      have C1 := HD.out.at a _ (nums_at .u8 _ (show a < 32 by omega))
      have C2 := HD.out.at b _ (nums_at .u8 _ (show b < 32 by omega))
      rw [ey] at R C1
      rw [ez] at R C2
      have R1 := R.1.symm
      have R2 := R.2.symm
      clear R ey ez ex
      have Dl := HD.out.lt
      have s1 : 4 * (k : Int) = (a : Int) := by omega
      have s2 : (a : Int) + 3 = (b : Int) := by omega
      have wa_ : IntKind.i64.wrap (a : Int) = (a : Int) := IntWalk.i64_in _ (by omega)
      have wb_ : IntKind.i64.wrap (b : Int) = (b : Int) := IntWalk.i64_in _ (by omega)
      have a0 : (0 : Int) ≤ (a : Int) := by omega
      have b0 : (0 : Int) ≤ (b : Int) := by omega
      have a1 : (a : Int) < 32 := by omega
      have b1 : (b : Int) < 32 := by omega
      have hki : (k : Int) < 8 := by omega
      have k0 : (0 : Int) ≤ (k : Int) := by omega
      have wk : IntKind.i64.wrap ((k : Int) + 1) = (k : Int) + 1 := IntWalk.i64_in _ (by omega)
      have HLT := Lib.hid hlt
      clear hlt hk ea eb
      go_wp2_with (fail)
      go_roundw
      case rel => (first | exact ⟨k + 1, HLT.out, by go_num, HB, HKA, HHA, HBk, HD⟩ | ((repeat apply Exists.intro); exact ⟨⟨k + 1, HLT.out, by go_num, HB, HKA, HHA, HBk, HD⟩, rfl⟩))
      case measure => (have := HLT.out; simp [intOf]; omega)
    · obtain rfl : k = 8 := by omega
      clear hlt hk HD
      go_upto_region 12 with fail
      refine wp_region_lit ?_
      refine wpList_load_mid rfl 29 _ rfl B 0 rfl (nums .u8 bf 64) _ HBk.out.cell Tryd.underlying29 rfl (by kernel_rfl) ?_
      have hB0 := HB.out
      clear HB
      go_upto_region 13 with fail
      obtain ⟨we, hW⟩ : ∃ we, we = (wr.alloc (.cells (nums .u8 bf 64).toArray 29)) := ⟨_, rfl⟩
      have hBx : Below wr.heap.size wr we := hW ▸ (Below.al (Below.refl _ _))
      have HO : Hid (Own wr.heap.size (nums .u8 bf 64) we) := Lib.hid (hW ▸ (show Own wr.heap.size (nums .u8 bf 64) (wr.alloc (.cells (nums .u8 bf 64).toArray 29)) from Own.newAt (by simp)))
      rw [← hW]
      clear hW
      obtain ⟨O, eO⟩ : ∃ X, X = wr.heap.size := ⟨_, rfl⟩
      rw [← eO] at HO ⊢
      have Ow : wr.heap.size ≤ O := by omega
      clear eO
      have nOKA : O ≠ KA := by have := HKA.out.lt; omega
      have nKAO : KA ≠ O := Ne.symm nOKA
      have nOHA : O ≠ HA := by have := HHA.out.lt; omega
      have nHAO : HA ≠ O := Ne.symm nOHA
      have Ow2 : w.heap.size ≤ O := by have := hB0.size; omega
      clear Ow
      have Ow := Ow2
      clear Ow2
      have HKAk := Lib.hid (HKA.out.later hBx)
      have HHAk := Lib.hid (HHA.out.later hBx)
      clear HKA HHA
      have HKA := HKAk
      clear HKAk
      have HHA := HHAk
      clear HHAk
      have hB0n := Below.go hB0 hBx
      clear hB0 hBx
      have hB0 := hB0n
      clear hB0n
      obtain ⟨m, em⟩ : ∃ m : Nat, n % 64 = (m : Int) := ⟨(n % 64).toNat, by omega⟩
      have hm : m < 64 := by omega
      have em2 : n.tmod 64 = (m : Int) := by have := INn.out; unfold inB at this; rw [Int.tmod_eq_emod_of_nonneg this.1]; exact em
      have F1 := HO.out.ok m (by rw [nums_length]; exact hm)
      have C1 := HO.out.at m _ (nums_at .u8 _ hm)
      have Ol := HO.out.lt
      have m0 : (0 : Int) ≤ (m : Int) := by omega
      have m1 : (m : Int) < 64 := by omega
      have wm : IntKind.i64.wrap (m : Int) = (m : Int) := IntWalk.i64_in _ (by omega)
      have wn : IntKind.i64.wrap n = n := by have := INn.out; unfold inB at this; exact IntWalk.i64_in _ (by omega)
      have HM := Lib.hid hm
      clear hm
      go_upto_region 14 with fail
      have O1 := Lib.hid (show Own O (nums .u8 (at1 bf m n) 64) (we.setCell ⟨O, m, none⟩ (.int .u8 n)) from own_set (v := n) HO.out HM.out)
      have O2 := Lib.hid (show Own KA (nums .u32 kl 64) (we.setCell ⟨O, m, none⟩ (.int .u8 n)) from Own.far (c := O) (o := m) (vs := [.int .u8 n]) HKA.out nKAO)
      have O3 := Lib.hid (show Own HA (nums .u32 hl 8) (we.setCell ⟨O, m, none⟩ (.int .u8 n)) from Own.far (c := O) (o := m) (vs := [.int .u8 n]) HHA.out nHAO)
      have hB1 : Below w.heap.size w (we.setCell ⟨O, m, none⟩ (.int .u8 n)) := Below.setCells hB0 Ow [.int .u8 n] m
      clear F1 C1 HO HKA HHA hB0 em em2 wm wn m0 m1 Ol
      generalize (we.setCell ⟨O, m, none⟩ (.int .u8 n)) = wf at *
      have IO : Hid (∀ i, i < 64 → inB (at1 bf m n i)) := Lib.hid (fun i hi => by unfold at1; split <;> first | exact INn.out | exact IB.out i hi)
      obtain ⟨of, eof⟩ : ∃ of, at1 bf m n = of := ⟨_, rfl⟩
      rw [eof] at O1 IO
      have GO := GC.out of IO.out
      have KO := KC.out of IO.out
      clear GC KC eof
      obtain ⟨cf, ecf⟩ : ∃ cf, compF kl hl of = cf := ⟨_, rfl⟩
      simp only [ecf] at GO KO
      have GO := Lib.hid GO; have KO := Lib.hid KO
      clear ecf
      have HGf := Lib.hid (HG0.out.later hB1)
      have HHf := Lib.hid (HH0.out.later hB1)
      have hB0 := Lib.hid hB1
      clear hB1
      refine wp_region_fun 12 (by kernel_rfl) (by kernel_rfl) rfl (fun s b => ⟨#[(.agg (nums .u8 bf 64).toArray), .int .u8 n, .pointer (some ⟨B, 0, none⟩), undef, s 4, .pointer (some ⟨KA, 0, none⟩), .pointer (some ⟨HA, 0, none⟩), .pointer (some ⟨L, 0, none⟩), .pointer (some ⟨D, 0, none⟩), .pointer (some ⟨E, 0, none⟩), u10, u11, .pointer (some ⟨O, 0, none⟩), (.tuple #[.agg (nums .u32 kl 64).toArray, .agg (nums .u32 hl 8).toArray]), (.tuple #[.agg (nums .u32 kl 64).toArray, .agg (nums .u32 hl 8).toArray]), (.agg (nums .u32 kl 64).toArray), (.agg (nums .u32 hl 8).toArray), .slice (some ⟨L, 0, none⟩) 64 64, .slice (some ⟨X, 0, none⟩) 64 cX, .int .i64 64, .slice (some ⟨B, 0, none⟩) 64 64, .slice (some ⟨Q, 0, none⟩) 1 1, (.agg (nums .u8 sf 32).toArray), (.agg (nums .u32 kl 64).toArray), (.agg (nums .u32 kl 64).toArray), (.agg (nums .u32 hl 8).toArray), (.agg (nums .u8 bf 64).toArray), (.agg (nums .u32 mf 8).toArray), (.agg (nums .u8 lf 64).toArray), (.agg (nums .u32 ef 8).toArray), (.agg (nums .u32 ef 8).toArray), .int .i64 8, .bool false, u33, u34, u35, u36, u37, u38, u39, u40, u41, u42, u43, u44, u45, u46, u47, u48, u49, u50, u51, u52, u53, (.agg (nums .u8 bf 64).toArray), .int .u8 n, .int .i64 n, .int .i64 m, .int .u8 n, .pointer (some ⟨O, m, none⟩), s 60, s 61, s 62, s 63, s 64, s 65, s 66, s 67, s 68, s 69, s 70], []⟩) (fun d s b w => (Below wf.heap.size wf w) ∧ (d 0 = true → s 60 = (.agg (nums .u32 hl 8).toArray)) ∧ (d 1 = true → s 61 = (.agg (nums .u8 of 64).toArray)) ∧ (d 2 = true → s 62 = (.agg (nums .u32 cf 8).toArray)) ∧ (d 3 = true → s 63 = (.agg (nums .u32 kl 64).toArray)) ∧ (d 4 = true → s 64 = (.agg (nums .u32 hl 8).toArray)) ∧ (d 5 = true → s 65 = (.agg (nums .u8 of 64).toArray)) ∧ (d 6 = true → s 66 = (.agg (nums .u32 cf 8).toArray)) ∧ (d 7 = true → s 67 = .bool true) ∧ (d 8 = true → s 68 = .bool true) ∧ (d 9 = true → s 69 = .bool true) ∧ (d 10 = true → s 70 = .bool true) ∧ (d 11 = true → s 4 = .bool true)) rfl ?h0wg (?stwg : StepsF _ _ _ _ 12 _ _ [0, 1, 2, 3, 4, 5, 6, 7, 8, 9, 10, 11]) ?dnwg
      case h0wg => exact ⟨Below.drew (Below.refl _ _), (fun h => nomatch h), (fun h => nomatch h), (fun h => nomatch h), (fun h => nomatch h), (fun h => nomatch h), (fun h => nomatch h), (fun h => nomatch h), (fun h => nomatch h), (fun h => nomatch h), (fun h => nomatch h), (fun h => nomatch h), (fun h => nomatch h)⟩
      case stwg =>
        refine StepsF.cons (o := _) rfl (ws := []) (by kernel_rfl) (by decide) (fun d s b w hF hd hw K_ hK => ?_) ?_
        · have hB : Below wf.heap.size wf w := (p0_ hF.out)
          refine step_load (by simp [Region.wanted]) 28 _ rfl HA 0 rfl (nums .u32 hl 8) _ (O3.out.later hB).cell Tryd.underlying28 rfl (by kernel_rfl) ?_
          exact hK.out (ups s 60 ((.agg (nums .u32 hl 8).toArray))) b _ ⟨hB, (fun _ => rfl), (p2_ hF.out), (p3_ hF.out), (p4_ hF.out), (p5_ hF.out), (p6_ hF.out), (p7_ hF.out), (p8_ hF.out), (p9_ hF.out), (p10_ hF.out), (p11_ hF.out), (q12_ hF.out)⟩
        refine StepsF.cons (o := _) rfl (ws := []) (by kernel_rfl) (by decide) (fun d s b w hF hd hw K_ hK => ?_) ?_
        · have hB : Below wf.heap.size wf w := (p0_ hF.out)
          refine step_load (by simp [Region.wanted]) 29 _ rfl O 0 rfl (nums .u8 of 64) _ (O1.out.later hB).cell Tryd.underlying29 rfl (by kernel_rfl) ?_
          exact hK.out (ups s 61 ((.agg (nums .u8 of 64).toArray))) b _ ⟨hB, (p1_ hF.out), (fun _ => rfl), (p3_ hF.out), (p4_ hF.out), (p5_ hF.out), (p6_ hF.out), (p7_ hF.out), (p8_ hF.out), (p9_ hF.out), (p10_ hF.out), (p11_ hF.out), (q12_ hF.out)⟩
        refine StepsF.cons (o := _) rfl (ws := [0, 1]) (by kernel_rfl) (by decide) (fun d s b w hF hd hw K_ hK => ?_) ?_
        · have hB : Below wf.heap.size wf w := (p0_ hF.out)
          have e0 : s 60 = (.agg (nums .u32 hl 8).toArray) := (p1_ hF.out) (hw 0 (by decide))
          have e1 : s 61 = (.agg (nums .u8 of 64).toArray) := (p2_ hF.out) (hw 1 (by decide))
          dsimp only
          go_simp
          go_at_call 14
          refine (KO.out _ (HGf.out.later hB)).mono ?_
          rintro e w1 ⟨rfl, hb⟩
          exact hK.out (ups (ups (ups s 60 ((.agg (nums .u32 hl 8).toArray))) 61 ((.agg (nums .u8 of 64).toArray))) 62 ((.agg (nums .u32 cf 8).toArray))) b _ ⟨(Below.go hB hb), (fun _ => rfl), (fun _ => rfl), (fun _ => rfl), (p4_ hF.out), (p5_ hF.out), (p6_ hF.out), (p7_ hF.out), (p8_ hF.out), (p9_ hF.out), (p10_ hF.out), (p11_ hF.out), (q12_ hF.out)⟩
        refine StepsF.cons (o := _) rfl (ws := []) (by kernel_rfl) (by decide) (fun d s b w hF hd hw K_ hK => ?_) ?_
        · have hB : Below wf.heap.size wf w := (p0_ hF.out)
          refine step_load (by simp [Region.wanted]) 32 _ rfl KA 0 rfl (nums .u32 kl 64) _ (O2.out.later hB).cell Tryd.underlying32 rfl (by kernel_rfl) ?_
          exact hK.out (ups s 63 ((.agg (nums .u32 kl 64).toArray))) b _ ⟨hB, (p1_ hF.out), (p2_ hF.out), (p3_ hF.out), (fun _ => rfl), (p5_ hF.out), (p6_ hF.out), (p7_ hF.out), (p8_ hF.out), (p9_ hF.out), (p10_ hF.out), (p11_ hF.out), (q12_ hF.out)⟩
        refine StepsF.cons (o := _) rfl (ws := []) (by kernel_rfl) (by decide) (fun d s b w hF hd hw K_ hK => ?_) ?_
        · have hB : Below wf.heap.size wf w := (p0_ hF.out)
          refine step_load (by simp [Region.wanted]) 28 _ rfl HA 0 rfl (nums .u32 hl 8) _ (O3.out.later hB).cell Tryd.underlying28 rfl (by kernel_rfl) ?_
          exact hK.out (ups s 64 ((.agg (nums .u32 hl 8).toArray))) b _ ⟨hB, (p1_ hF.out), (p2_ hF.out), (p3_ hF.out), (p4_ hF.out), (fun _ => rfl), (p6_ hF.out), (p7_ hF.out), (p8_ hF.out), (p9_ hF.out), (p10_ hF.out), (p11_ hF.out), (q12_ hF.out)⟩
        refine StepsF.cons (o := _) rfl (ws := []) (by kernel_rfl) (by decide) (fun d s b w hF hd hw K_ hK => ?_) ?_
        · have hB : Below wf.heap.size wf w := (p0_ hF.out)
          refine step_load (by simp [Region.wanted]) 29 _ rfl O 0 rfl (nums .u8 of 64) _ (O1.out.later hB).cell Tryd.underlying29 rfl (by kernel_rfl) ?_
          exact hK.out (ups s 65 ((.agg (nums .u8 of 64).toArray))) b _ ⟨hB, (p1_ hF.out), (p2_ hF.out), (p3_ hF.out), (p4_ hF.out), (p5_ hF.out), (fun _ => rfl), (p7_ hF.out), (p8_ hF.out), (p9_ hF.out), (p10_ hF.out), (p11_ hF.out), (q12_ hF.out)⟩
        refine StepsF.cons (o := _) rfl (ws := [3, 4, 5, 2]) (by kernel_rfl) (by decide) (fun d s b w hF hd hw K_ hK => ?_) ?_
        · have hB : Below wf.heap.size wf w := (p0_ hF.out)
          have e2 : s 62 = (.agg (nums .u32 cf 8).toArray) := (p3_ hF.out) (hw 2 (by decide))
          have e3 : s 63 = (.agg (nums .u32 kl 64).toArray) := (p4_ hF.out) (hw 3 (by decide))
          have e4 : s 64 = (.agg (nums .u32 hl 8).toArray) := (p5_ hF.out) (hw 4 (by decide))
          have e5 : s 65 = (.agg (nums .u8 of 64).toArray) := (p6_ hF.out) (hw 5 (by decide))
          dsimp only
          go_simp
          go_at_call 18
          refine (GO.out _).mono ?_
          rintro e w1 ⟨rfl, hb⟩
          exact hK.out (ups (ups (ups (ups (ups s 62 ((.agg (nums .u32 cf 8).toArray))) 63 ((.agg (nums .u32 kl 64).toArray))) 64 ((.agg (nums .u32 hl 8).toArray))) 65 ((.agg (nums .u8 of 64).toArray))) 66 ((.agg (nums .u32 cf 8).toArray))) b _ ⟨(Below.go hB hb), (p1_ hF.out), (p2_ hF.out), (fun _ => rfl), (fun _ => rfl), (fun _ => rfl), (fun _ => rfl), (fun _ => rfl), (p8_ hF.out), (p9_ hF.out), (p10_ hF.out), (p11_ hF.out), (q12_ hF.out)⟩
        refine StepsF.cons (o := _) rfl (ws := [2, 6]) (by kernel_rfl) (by decide) (fun d s b w hF hd hw K_ hK => ?_) ?_
        · have hB : Below wf.heap.size wf w := (p0_ hF.out)
          have e2 : s 62 = (.agg (nums .u32 cf 8).toArray) := (p3_ hF.out) (hw 2 (by decide))
          have e6 : s 66 = (.agg (nums .u32 cf 8).toArray) := (p7_ hF.out) (hw 6 (by decide))
          dsimp only
          have hq := eqin_nums (P := Tryd.prog) (f := cf) (k := .u32) (n := 8) (w := w) Tryd.underlying28 Tryd.underlying27 (by simp [go_sem]) (by simp [go_sem])
          go_simp
          exact hK.out (ups (ups (ups s 62 ((.agg (nums .u32 cf 8).toArray))) 66 ((.agg (nums .u32 cf 8).toArray))) 67 (.bool true)) b _ ⟨hB, (p1_ hF.out), (p2_ hF.out), (fun _ => rfl), (p4_ hF.out), (p5_ hF.out), (p6_ hF.out), (fun _ => rfl), (fun _ => rfl), (p9_ hF.out), (p10_ hF.out), (p11_ hF.out), (q12_ hF.out)⟩
        refine StepsF.cons (o := _) rfl (ws := [7, 6]) (by kernel_rfl) (by decide) (fun d s b w hF hd hw K_ hK => ?_) ?_
        · have hB : Below wf.heap.size wf w := (p0_ hF.out)
          have e6 : s 66 = (.agg (nums .u32 cf 8).toArray) := (p7_ hF.out) (hw 6 (by decide))
          have e7 : s 67 = .bool true := (p8_ hF.out) (hw 7 (by decide))
          dsimp only
          go_simp
          exact hK.out (ups (ups (ups s 66 ((.agg (nums .u32 cf 8).toArray))) 67 (.bool true)) 68 (.bool true)) b _ ⟨hB, (p1_ hF.out), (p2_ hF.out), (p3_ hF.out), (p4_ hF.out), (p5_ hF.out), (p6_ hF.out), (fun _ => rfl), (fun _ => rfl), (fun _ => rfl), (p10_ hF.out), (p11_ hF.out), (q12_ hF.out)⟩
        refine StepsF.cons (o := _) rfl (ws := [8, 8]) (by kernel_rfl) (by decide) (fun d s b w hF hd hw K_ hK => ?_) ?_
        · have hB : Below wf.heap.size wf w := (p0_ hF.out)
          have e8 : s 68 = .bool true := (p9_ hF.out) (hw 8 (by decide))
          dsimp only
          go_simp
          go_at_call 13
          refine (WC.out _ (HGf.out.later hB) (HHf.out.later hB)).mono ?_
          rintro e w1 ⟨rfl, hb⟩
          exact hK.out (ups (ups s 68 (.bool true)) 69 (.bool true)) b _ ⟨(Below.go hB hb), (p1_ hF.out), (p2_ hF.out), (p3_ hF.out), (p4_ hF.out), (p5_ hF.out), (p6_ hF.out), (p7_ hF.out), (p8_ hF.out), (fun _ => rfl), (fun _ => rfl), (p11_ hF.out), (q12_ hF.out)⟩
        refine StepsF.cons (o := _) rfl (ws := [8, 9]) (by kernel_rfl) (by decide) (fun d s b w hF hd hw K_ hK => ?_) ?_
        · have hB : Below wf.heap.size wf w := (p0_ hF.out)
          have e8 : s 68 = .bool true := (p9_ hF.out) (hw 8 (by decide))
          have e9 : s 69 = .bool true := (p10_ hF.out) (hw 9 (by decide))
          dsimp only
          go_simp
          exact hK.out (ups (ups (ups s 68 (.bool true)) 69 (.bool true)) 70 (.bool true)) b _ ⟨hB, (p1_ hF.out), (p2_ hF.out), (p3_ hF.out), (p4_ hF.out), (p5_ hF.out), (p6_ hF.out), (p7_ hF.out), (p8_ hF.out), (fun _ => rfl), (fun _ => rfl), (fun _ => rfl), (q12_ hF.out)⟩
        refine StepsF.cons (o := _) rfl (ws := [10, 9, 0, 1, 2, 3, 4, 5, 6, 7, 8, 9, 10]) (by kernel_rfl) (by decide) (fun d s b w hF hd hw K_ hK => ?_) ?_
        · have hB : Below wf.heap.size wf w := (p0_ hF.out)
          have e0 : s 60 = (.agg (nums .u32 hl 8).toArray) := (p1_ hF.out) (hw 0 (by decide))
          have e1 : s 61 = (.agg (nums .u8 of 64).toArray) := (p2_ hF.out) (hw 1 (by decide))
          have e2 : s 62 = (.agg (nums .u32 cf 8).toArray) := (p3_ hF.out) (hw 2 (by decide))
          have e3 : s 63 = (.agg (nums .u32 kl 64).toArray) := (p4_ hF.out) (hw 3 (by decide))
          have e4 : s 64 = (.agg (nums .u32 hl 8).toArray) := (p5_ hF.out) (hw 4 (by decide))
          have e5 : s 65 = (.agg (nums .u8 of 64).toArray) := (p6_ hF.out) (hw 5 (by decide))
          have e6 : s 66 = (.agg (nums .u32 cf 8).toArray) := (p7_ hF.out) (hw 6 (by decide))
          have e7 : s 67 = .bool true := (p8_ hF.out) (hw 7 (by decide))
          have e8 : s 68 = .bool true := (p9_ hF.out) (hw 8 (by decide))
          have e9 : s 69 = .bool true := (p10_ hF.out) (hw 9 (by decide))
          have e10 : s 70 = .bool true := (p11_ hF.out) (hw 10 (by decide))
          dsimp only
          go_simp
          exact hK.out (ups (ups (ups (ups (ups (ups (ups (ups (ups (ups (ups (ups s 60 ((.agg (nums .u32 hl 8).toArray))) 61 ((.agg (nums .u8 of 64).toArray))) 62 ((.agg (nums .u32 cf 8).toArray))) 63 ((.agg (nums .u32 kl 64).toArray))) 64 ((.agg (nums .u32 hl 8).toArray))) 65 ((.agg (nums .u8 of 64).toArray))) 66 ((.agg (nums .u32 cf 8).toArray))) 67 (.bool true)) 68 (.bool true)) 69 (.bool true)) 70 (.bool true)) 4 (.bool true)) b _ ⟨hB, (fun _ => rfl), (fun _ => rfl), (fun _ => rfl), (fun _ => rfl), (fun _ => rfl), (fun _ => rfl), (fun _ => rfl), (fun _ => rfl), (fun _ => rfl), (fun _ => rfl), (fun _ => rfl), (fun _ => rfl)⟩
        exact StepsF.nil
      intro d s b wg hF hall
      replace hF := Lib.hid hF
      have hB : Below wf.heap.size wf wg := (p0_ hF.out)
      try dsimp only
      have e0 : s 60 = (.agg (nums .u32 hl 8).toArray) := (p1_ hF.out) (hall 0 (by decide))
      have e1 : s 61 = (.agg (nums .u8 of 64).toArray) := (p2_ hF.out) (hall 1 (by decide))
      have e2 : s 62 = (.agg (nums .u32 cf 8).toArray) := (p3_ hF.out) (hall 2 (by decide))
      have e3 : s 63 = (.agg (nums .u32 kl 64).toArray) := (p4_ hF.out) (hall 3 (by decide))
      have e4 : s 64 = (.agg (nums .u32 hl 8).toArray) := (p5_ hF.out) (hall 4 (by decide))
      have e5 : s 65 = (.agg (nums .u8 of 64).toArray) := (p6_ hF.out) (hall 5 (by decide))
      have e6 : s 66 = (.agg (nums .u32 cf 8).toArray) := (p7_ hF.out) (hall 6 (by decide))
      have e7 : s 67 = .bool true := (p8_ hF.out) (hall 7 (by decide))
      have e8 : s 68 = .bool true := (p9_ hF.out) (hall 8 (by decide))
      have e9 : s 69 = .bool true := (p10_ hF.out) (hall 9 (by decide))
      have e10 : s 70 = .bool true := (p11_ hF.out) (hall 10 (by decide))
      have e11 : s 4 = .bool true := (q12_ hF.out) (hall 11 (by decide))
      rw [e0, e1, e2, e3, e4, e5, e6, e7, e8, e9, e10, e11]
      clear hall hF e0 e1 e2 e3 e4 e5 e6 e7 e8 e9 e10 e11
      clear d s b
      go_wp2_with (fail)
      go_ret
      exact ⟨rfl, Below.go hB0.out hB⟩
end Go.Proofs.YtajejlaoompieaaDoor
