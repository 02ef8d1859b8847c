import Derived.WalkKit
import Derived.Laws.BitsAllLaws
namespace Go.Proofs.YtbilamnnneddmaaGreatDoor
set_option linter.unusedVariables false
set_option maxRecDepth 2000
set_option linter.unusedSimpArgs false
def in32 (x:Int):Prop:=0≤x∧x<4294967296
def inB (x:Int):Prop:=0≤x∧x<256
def add32 (x y:Int):Int:=(x+y)%4294967296
def xor32 (x y:Int):Int:=((x.toNat ^^^ y.toNat:Nat):Int)
def rot32 (n:Nat) (x:Int):Int:=(((x.toNat*2 ^ n)%4294967296 ||| x.toNat/2 ^ (32 - n):Nat):Int)
theorem in_add32 (x y:Int):in32 (add32 x y):=by unfold in32 add32;omega
theorem in_xor32 {x y:Int} (hx:in32 x) (hy:in32 y):in32 (xor32 x y):=by
 unfold in32 xor32 at *
 have h:=Nat.xor_lt_two_pow (n:=32) (x:=x.toNat) (y:=y.toNat) (by omega) (by omega)
 omega
theorem in_rot32 (n:Nat) {x:Int} (hx:in32 x):in32 (rot32 n x):=by
 unfold in32 rot32 at *
 have h1:x.toNat/2 ^ (32 - n)<2 ^ 32:=Nat.lt_of_le_of_lt (Nat.div_le_self _ _) (by omega)
 have h:=Nat.or_lt_two_pow (n:=32) (x:=(x.toNat*2 ^ n)%4294967296) (y:=x.toNat/2 ^ (32 - n)) (by omega) h1
 omega
structure Four where
 a:Int
 b:Int
 c:Int
 d:Int
def in4 (s:Four):Prop:=in32 s.a∧in32 s.b∧in32 s.c∧in32 s.d
def halfQ (m n:Nat) (s:Four):Four :=
 ⟨add32 s.a s.b,rot32 n (xor32 s.b (add32 s.c (rot32 m (xor32 s.d (add32 s.a s.b))))),add32 s.c (rot32 m (xor32 s.d (add32 s.a s.b))),rot32 m (xor32 s.d (add32 s.a s.b))⟩
def quarterF (s:Four):Four:=halfQ 8 7 (halfQ 16 12 s)
theorem in_halfQ {m n:Nat} {s:Four} (h:in4 s):in4 (halfQ m n s) :=
 ⟨in_add32 _ _,in_rot32 _ (in_xor32 h.2.1 (in_add32 _ _)),in_add32 _ _,in_rot32 _ (in_xor32 h.2.2.2 (in_add32 _ _))⟩
theorem in_quarterF {s:Four} (h:in4 s):in4 (quarterF s):=in_halfQ (in_halfQ h)
end Go.Proofs.YtbilamnnneddmaaGreatDoor
