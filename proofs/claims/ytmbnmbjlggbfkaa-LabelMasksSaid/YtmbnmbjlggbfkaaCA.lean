/- Numbers of 32 bits: sums, exclusive or, turns; a quarter of a round, and that it can be taken back. -/
import Derived.WalkKit
import Derived.Laws.BitsAllLaws
namespace Go.Proofs.Ytmbnmbjlggbfkaa
set_option linter.unusedVariables false
set_option maxRecDepth 2000
set_option linter.unusedSimpArgs false
def in32 (x : Int) : Prop := 0 ≤ x ∧ x < 4294967296
def inB (x : Int) : Prop := 0 ≤ x ∧ x < 256
def add32 (x y : Int) : Int := (x + y) % 4294967296
def xor32 (x y : Int) : Int := ((x.toNat ^^^ y.toNat : Nat) : Int)
/-- turned to the left by n of 32 -/
def rot32 (n : Nat) (x : Int) : Int := (((x.toNat * 2 ^ n) % 4294967296 ||| x.toNat / 2 ^ (32 - n) : Nat) : Int)
theorem in_add32 (x y : Int) : in32 (add32 x y) := by unfold in32 add32; omega
theorem in_xor32 {x y : Int} (hx : in32 x) (hy : in32 y) : in32 (xor32 x y) := by
  unfold in32 xor32 at *
  have h := Nat.xor_lt_two_pow (n := 32) (x := x.toNat) (y := y.toNat) (by omega) (by omega)
  omega
theorem in_rot32 (n : Nat) {x : Int} (hx : in32 x) : in32 (rot32 n x) := by
  unfold in32 rot32 at *
  have h1 : x.toNat / 2 ^ (32 - n) < 2 ^ 32 := Nat.lt_of_le_of_lt (Nat.div_le_self _ _) (by omega)
  have h := Nat.or_lt_two_pow (n := 32) (x := (x.toNat * 2 ^ n) % 4294967296) (y := x.toNat / 2 ^ (32 - n)) (by omega) h1
  omega
def bv (x : Int) : BitVec 32 := BitVec.ofNat 32 x.toNat
theorem bv_inj {x y : Int} (hx : in32 x) (hy : in32 y) (h : bv x = bv y) : x = y := by
  unfold bv in32 at *
  have := congrArg BitVec.toNat h
  simp only [BitVec.toNat_ofNat] at this
  omega
theorem bv_add {x y : Int} (hx : in32 x) (hy : in32 y) : bv (add32 x y) = bv x + bv y := by
  unfold bv add32 in32 at *
  apply BitVec.eq_of_toNat_eq
  simp only [BitVec.toNat_ofNat, BitVec.toNat_add]
  omega
theorem bv_xor {x y : Int} : bv (xor32 x y) = bv x ^^^ bv y := by
  unfold bv xor32
  apply BitVec.eq_of_toNat_eq
  simp only [BitVec.toNat_ofNat, BitVec.toNat_xor, Int.toNat_natCast]
  rw [Nat.xor_mod_two_pow]
theorem bv_rot {n : Nat} (hn : n < 32) {x : Int} (hx : in32 x) : bv (rot32 n x) = (bv x).rotateLeft n := by
  have hi := in_rot32 n hx
  unfold bv rot32 in32 at *
  apply BitVec.eq_of_toNat_eq
  simp only [BitVec.toNat_ofNat, BitVec.toNat_rotateLeft, Int.toNat_natCast] at *
  rw [Nat.mod_eq_of_lt (a := x.toNat) (by omega), Nat.mod_eq_of_lt (a := n) hn, Nat.shiftLeft_eq, Nat.shiftRight_eq_div_pow]
  exact Nat.mod_eq_of_lt (by omega)
theorem rotl_inj {n : Nat} (hn : n < 32) {x y : BitVec 32} (h : x.rotateLeft n = y.rotateLeft n) : x = y := by
  have e : ∀ z : BitVec 32, (z.rotateLeft n).rotateRight n = z := fun z => by
    apply BitVec.eq_of_getLsbD_eq
    intro i hi
    rw [BitVec.getLsbD_rotateRight]
    simp only [BitVec.getLsbD_rotateLeft, Nat.mod_eq_of_lt hn, cond_eq_ite, decide_eq_true_eq]
    split
    · rw [if_neg (by omega)]
      simp only [show n + i < 32 by omega, decide_true, Bool.true_and]
      congr 1
      omega
    · rw [if_pos (by omega)]
      simp only [hi, decide_true, Bool.true_and]
      congr 1
      omega
  rw [← e x, ← e y, h]
theorem rot_inj {n : Nat} (hn : n < 32) {x y : Int} (hx : in32 x) (hy : in32 y) (h : rot32 n x = rot32 n y) : x = y :=
  bv_inj hx hy (rotl_inj hn (by rw [← bv_rot hn hx, ← bv_rot hn hy, h]))
theorem xor_inj {x y z : Int} (hx : in32 x) (hy : in32 y) (h : xor32 x z = xor32 y z) : x = y :=
  bv_inj hx hy (by
    have := congrArg bv h
    rw [bv_xor, bv_xor] at this
    exact (BitVec.xor_left_inj _).1 this)
theorem add_inj {x y z : Int} (hx : in32 x) (hy : in32 y) (h : add32 x z = add32 y z) : x = y := by
  unfold add32 in32 at *
  omega
/-- four numbers -/
structure Four where
  a : Int
  b : Int
  c : Int
  d : Int
def in4 (s : Four) : Prop := in32 s.a ∧ in32 s.b ∧ in32 s.c ∧ in32 s.d
/-- half of a quarter: a = a + b; d turned by m; c = c + d; b turned by n -/
def halfQ (m n : Nat) (s : Four) : Four :=
  ⟨add32 s.a s.b, rot32 n (xor32 s.b (add32 s.c (rot32 m (xor32 s.d (add32 s.a s.b))))), add32 s.c (rot32 m (xor32 s.d (add32 s.a s.b))), rot32 m (xor32 s.d (add32 s.a s.b))⟩
def quarterF (s : Four) : Four := halfQ 8 7 (halfQ 16 12 s)
theorem in_halfQ {m n : Nat} {s : Four} (h : in4 s) : in4 (halfQ m n s) :=
  ⟨in_add32 _ _, in_rot32 _ (in_xor32 h.2.1 (in_add32 _ _)), in_add32 _ _, in_rot32 _ (in_xor32 h.2.2.2 (in_add32 _ _))⟩
theorem in_quarterF {s : Four} (h : in4 s) : in4 (quarterF s) := in_halfQ (in_halfQ h)
theorem halfQ_inj {m n : Nat} (hm : m < 32) (hn : n < 32) {s t : Four} (hs : in4 s) (ht : in4 t) (h : halfQ m n s = halfQ m n t) : s = t := by
  obtain ⟨a, b, c, d⟩ := s
  obtain ⟨a', b', c', d'⟩ := t
  obtain ⟨h1, h2, h3, h4⟩ := hs
  obtain ⟨k1, k2, k3, k4⟩ := ht
  simp only [halfQ, Four.mk.injEq] at *
  obtain ⟨e1, e2, e3, e4⟩ := h
  rw [e4] at e3 e2
  have hc : c = c' := add_inj h3 k3 e3
  subst hc
  have hb : b = b' := xor_inj h2 k2 (rot_inj hn (in_xor32 h2 (in_add32 _ _)) (in_xor32 k2 (in_add32 _ _)) e2)
  subst hb
  have ha : a = a' := add_inj h1 k1 e1
  subst ha
  have hd : d = d' := xor_inj h4 k4 (rot_inj hm (in_xor32 h4 (in_add32 _ _)) (in_xor32 k4 (in_add32 _ _)) e4)
  exact ⟨rfl, rfl, rfl, hd⟩
theorem quarterF_inj {s t : Four} (hs : in4 s) (ht : in4 t) (h : quarterF s = quarterF t) : s = t :=
  halfQ_inj (by decide) (by decide) hs ht (halfQ_inj (by decide) (by decide) (in_halfQ hs) (in_halfQ ht) h)
end Go.Proofs.Ytmbnmbjlggbfkaa
