import Derived.Test.YtbilamnnneddmaaGreatDoorZCOx
import Derived.Laws.MathBits
import Derived.Laws.Externs
import Derived.LoopN
import Derived.LoopTactic
import Derived.StillTailTactics
import Derived.Lib.Mul64
import Derived.Lib.Hide
import Derived.Deep.QuietTactic
namespace Go.Proofs.YtbilamnnneddmaaGreatDoor
set_option linter.unusedVariables false
set_option maxRecDepth 2000
set_option linter.unusedSimpArgs false
open Go.RowKit
def l64 (x:Int):Int:=x%18446744073709551616
def h64 (x:Int):Int:=x/18446744073709551616
def inU (x:Int):Prop:=0≤x∧x<18446744073709551616
theorem in_l64 (x:Int):inU (l64 x):=by unfold inU l64;omega
theorem padd (x y c:Int) (hx:inU x) (hy:inU y) (c0:0≤c) (c1:c≤1) (w:World) :
  (callFunc 183 #[.int .u64 x,.int .u64 y,.int .u64 c]).run Tryz.prog w = .ok (.value (.tuple #[.int .u64 (l64 (x+y+c)),.int .u64 (h64 (x+y+c))])) w:=by
 rw[run_callFunc_extern Tryz.func183 (by kernel_rfl) (by kernel_rfl) (by kernel_rfl) (e:=add64Entry) (by kernel_rfl),run_add64 x y c hx.1 hy.1 (by omega) (by omega)]
 rfl
theorem pret_tup {k k':IntKind} {a b c d:Int} (h:a=b) (h':c=d):Ending.returned (.tuple #[.int k a,.int k' c]) = .returned (.tuple #[.int k b,.int k' d]):=by rw[h,h']
theorem pmul64_walk (x y:Int) (hx0:0≤x) (hx:x<18446744073709551616) (hy0:0≤y) (hy:y<18446744073709551616) :
 IntKind.u64.wrap (IntKind.u64.wrap (IntKind.u64.wrap (x/4294967296*(y/4294967296))+IntKind.u64.wrap (IntKind.u64.wrap (x/4294967296*bits BinOp.and IntKind.u64 y 4294967295)+IntKind.u64.wrap (bits BinOp.and IntKind.u64 x 4294967295*bits BinOp.and IntKind.u64 y 4294967295)/4294967296)/4294967296) +
  IntKind.u64.wrap (bits BinOp.and IntKind.u64 (IntKind.u64.wrap (IntKind.u64.wrap (x/4294967296*bits BinOp.and IntKind.u64 y 4294967295)+IntKind.u64.wrap (bits BinOp.and IntKind.u64 x 4294967295*bits BinOp.and IntKind.u64 y 4294967295)/4294967296)) 4294967295+IntKind.u64.wrap (bits BinOp.and IntKind.u64 x 4294967295*(y/4294967296)))/4294967296)=h64 (x*y):=by
 rw[and_low32 x hx0 hx,and_low32 y hy0 hy,and_low32 (IntKind.u64.wrap _) (by rw[IntKind.wrap_u64];omega) (by rw[IntKind.wrap_u64];omega)]
 simp only[IntKind.wrap_u64]
 exact mul64_arith x y hx0 hx hy0 hy
set_option maxHeartbeats 1000000 in
theorem PMul64_any (x y:Int) (hx:inU x) (hy:inU y) (w:World) :
  Calls Tryz.prog 190 #[.int .u64 x,.int .u64 y] w fun e w'=>e = .returned (.tuple #[.int .u64 (h64 (x*y)),.int .u64 (l64 (x*y))])∧w=w':=by
 have hx0:=hx.1;have hx1:=hx.2;have hy0:=hy.1;have hy1:=hy.2
 go_enter Tryz.func190,Tryz.ntmps190
 go_wp2
 go_ret2
 exact⟨pret_tup (pmul64_walk x y hx0 hx1 hy0 hy1) (IntKind.wrap_u64 _),rfl⟩
theorem step_arith (t a b c:Int) (ht:inU t) (ha:inU a) (hb:inU b) (hc:inU c) :
  0≤h64 (l64 (a*b)+t+0)∧h64 (l64 (a*b)+t+0)≤1∧0≤h64 (l64 (l64 (a*b)+t+0)+c+0)∧h64 (l64 (l64 (a*b)+t+0)+c+0)≤1 ∧
  l64 (l64 (l64 (a*b)+t+0)+c+0)=l64 (t+a*b+c) ∧
  h64 (a*b)+h64 (l64 (a*b)+t+0)+h64 (l64 (l64 (a*b)+t+0)+c+0)=h64 (t+a*b+c) ∧
  inU (h64 (a*b)+h64 (l64 (a*b)+t+0))∧inU (h64 (t+a*b+c))∧inU (h64 (a*b)):=by
 have p0:=Int.mul_nonneg ha.1 hb.1
 have p1:a*b≤18446744073709551615*18446744073709551615:=Int.mul_le_mul (by have:=ha.2;omega) (by have:=hb.2;omega) hb.1 (by decide)
 generalize a*b=p at *
 unfold inU l64 h64 at *
 refine⟨?_,?_,?_,?_,?_,?_,?_,?_,?_⟩<;>omega
set_option maxHeartbeats 2000000 in
theorem step_core (t a b c H L l1 c1 l2 c2 h1 h2:Int) (w:World) (e1:IntKind.u64.wrap (H+c1)=h1) (e2:IntKind.u64.wrap (h1+c2)=h2)
  (mx:Hid (∀ w,Calls Tryz.prog 190 #[.int .u64 a,.int .u64 b] w fun e w'=>e = .returned (.tuple #[.int .u64 H,.int .u64 L])∧w=w'))
  (A1:∀ w,(callFunc 183 #[.int .u64 L,.int .u64 t,.int .u64 0]).run Tryz.prog w = .ok (.value (.tuple #[.int .u64 l1,.int .u64 c1])) w)
  (A2:∀ w,(callFunc 183 #[.int .u64 l1,.int .u64 c,.int .u64 0]).run Tryz.prog w = .ok (.value (.tuple #[.int .u64 l2,.int .u64 c2])) w) :
  Calls Tryz.prog 182 #[.int .u64 t,.int .u64 a,.int .u64 b,.int .u64 c] w fun e w'=>e = .returned (.tuple #[.int .u64 l2,.int .u64 h2])∧w=w':=by
 go_enter Tryz.func182,Tryz.ntmps182
 go_wp2_with (fail);go_at_call 190;refine (mx.out _).mono ?_;rintro e w1 ⟨rfl,rfl⟩
 go_wp2
 exact bodyPost_ret (v := .tuple #[.int .u64 l2,.int .u64 h2]) (by simp[results,Tryz.results182,go_sem]) rfl ⟨rfl,rfl⟩
theorem step_any (t a b c:Int) (ht:inU t) (ha:inU a) (hb:inU b) (hc:inU c) (w:World) :
  Calls Tryz.prog 182 #[.int .u64 t,.int .u64 a,.int .u64 b,.int .u64 c] w fun e w'=>e = .returned (.tuple #[.int .u64 (l64 (t+a*b+c)),.int .u64 (h64 (t+a*b+c))])∧w=w':=by
 obtain⟨p1,p2,p3,p4,e1,e2,i1,i2,i3⟩:=step_arith t a b c ht ha hb hc
 have A1:=padd (l64 (a*b)) t 0 (in_l64 _) ht (by decide) (by decide)
 have A2:=padd (l64 (l64 (a*b)+t+0)) c 0 (in_l64 _) hc (by decide) (by decide)
 rw[e1] at A2
 refine step_core t a b c _ _ _ _ _ _ (h64 (a*b)+h64 (l64 (a*b)+t+0)) _ w ?_ ?_ (Lib.hid (PMul64_any a b ha hb)) A1 A2
 ·rw[IntKind.wrap_u64];unfold inU at i1;omega
 ·rw[IntKind.wrap_u64,e2];unfold inU at i2;omega
end Go.Proofs.YtbilamnnneddmaaGreatDoor
namespace Go.Proofs.YtbilamnnneddmaaGreatDoor
set_option linter.unusedVariables false
set_option maxRecDepth 2000
set_option linter.unusedSimpArgs false
open Go.RowKit
def limb (N i:Nat):Int:=((N/2 ^ (64*i)%18446744073709551616:Nat):Int)
theorem in_limb (N i:Nat):inU (limb N i):=by unfold inU limb;omega
def car (A B k:Nat):Int:=(((A%2 ^ (64*k)+B%2 ^ (64*k))/2 ^ (64*k):Nat):Int)
theorem pw64 (k:Nat):2 ^ (64*(k+1))=2 ^ (64*k)*18446744073709551616:=by rw[Nat.mul_add,Nat.pow_add]
theorem car_bd (A B k:Nat):0≤car A B k∧car A B k≤1:=by
 unfold car
 have hM:0<2 ^ (64*k):=Nat.two_pow_pos _
 have h1:=Nat.mod_lt A hM
 have h2:=Nat.mod_lt B hM
 generalize 2 ^ (64*k)=M at *
 have:(A%M+B%M)/M<2:=Nat.div_lt_of_lt_mul (by omega)
 exact⟨Int.natCast_nonneg _,Int.ofNat_le.2 (Nat.le_of_lt_succ this)⟩
theorem car0 (A B:Nat):car A B 0=0:=by simp[car,Nat.mod_one]
theorem nat_add_div (A B M:Nat) (hM:0<M):(A+B)/M=A/M+B/M+(A%M+B%M)/M:=by
 have h:A+B=(A%M+B%M)+M*(A/M+B/M):=by
  have:=Nat.div_add_mod A M;have:=Nat.div_add_mod B M;rw[Nat.mul_add];omega
 have e:(A+B)/M=(A%M+B%M+M*(A/M+B/M))/M:=by rw[← h]
 rw[e,Nat.add_mul_div_left _ _ hM,Nat.add_comm]
theorem nat_mod_mul (A M D:Nat):A%(M*D)=A%M+M*(A/M%D):=Nat.mod_mul
theorem plus_low (A B k:Nat):l64 (limb A k+limb B k+car A B k)=limb (A+B) k:=by
 unfold l64 limb car
 have hM:0<2 ^ (64*k):=Nat.two_pow_pos _
 generalize 2 ^ (64*k)=M at *
 rw[nat_add_div A B M hM]
 omega
theorem plus_high (A B k:Nat):h64 (limb A k+limb B k+car A B k)=car A B (k+1):=by
 unfold h64 limb car
 have hM:0<2 ^ (64*k):=Nat.two_pow_pos _
 rw[pw64]
 generalize 2 ^ (64*k)=M at *
 rw[nat_mod_mul A M,nat_mod_mul B M,← Nat.div_div_eq_div_mul,show A%M+M*(A/M%18446744073709551616)+(B%M+M*(B/M%18446744073709551616))=A%M+B%M+M*(A/M%18446744073709551616+B/M%18446744073709551616) by rw[Nat.mul_add];omega,Nat.add_mul_div_left _ _ hM]
 omega
def mixL (F G:Nat→Int) (k:Nat):Nat→Int:=fun j=>if j<k then F j else G j
theorem mixL_at (F G:Nat→Int) (k:Nat):mixL F G k k=G k:=if_neg (Nat.lt_irrefl _)
theorem mixL_step (q:IntKind) (F G:Nat→Int) (k n:Nat) (v:Int) (hv:v=F k):nums q (at1 (mixL F G k) k v) n=nums q (mixL F G (k+1)) n:=nums_congr _ fun j _=>by
 unfold at1 mixL
 by_cases h:j=k
 ·rw[if_pos h,if_pos (by omega),h];exact hv
 ·rw[if_neg h]
  by_cases h2:j<k
  ·rw[if_pos h2,if_pos (by omega)]
  ·rw[if_neg h2,if_neg (by omega)]
theorem mixL_all (q:IntKind) (F G:Nat→Int) (n:Nat):nums q (mixL F G n) n=nums q F n:=nums_congr _ fun _ hj=>if_pos hj
set_option maxHeartbeats 4000000 in
theorem plus_any (A B:Nat) (w:World) :
  Calls Tryz.prog 160 #[(.agg (nums .u64 (limb A) 4).toArray),(.agg (nums .u64 (limb B) 4).toArray)] w fun e w'=>e = .returned (.agg (nums .u64 (limb (A+B)) 4).toArray)∧Below w.heap.size w w':=by
 go_enter Tryz.func160,Tryz.ntmps160
 go_upto_region 1 with fail
 obtain⟨W0,hW⟩:∃ W0,W0=(((w.alloc (.cells (nums .u64 (limb A) 4).toArray 214)).alloc (.cells (nums .u64 (limb B) 4).toArray 214)).alloc (.cells #[.int .u64 0,.int .u64 0,.int .u64 0,.int .u64 0] 214)):=⟨_,rfl⟩
 have hB0:Below w.heap.size w W0:=hW ▸ (Below.al (Below.al (Below.al (Below.refl _ _))))
 have HX:Hid (Own w.heap.size (nums .u64 (limb A) 4) W0):=Lib.hid (hW ▸ (show Own w.heap.size (nums .u64 (limb A) 4) (w.alloc (.cells (nums .u64 (limb A) 4).toArray 214)) from Own.newAt (by simp)).alloc.alloc)
 have HY:Hid (Own (w.heap.size+1) (nums .u64 (limb B) 4) W0):=Lib.hid (hW ▸ (show Own (w.heap.size+1) (nums .u64 (limb B) 4) ((w.alloc (.cells (nums .u64 (limb A) 4).toArray 214)).alloc (.cells (nums .u64 (limb B) 4).toArray 214)) from Own.newAt (by simp)).alloc)
 have HR:Hid (Own ((w.heap.size+1)+1) (nums .u64 (fun _=>0) 4) W0):=Lib.hid (hW ▸ (show Own ((w.heap.size+1)+1) (nums .u64 (fun _=>0) 4) (((w.alloc (.cells (nums .u64 (limb A) 4).toArray 214)).alloc (.cells (nums .u64 (limb B) 4).toArray 214)).alloc (.cells #[.int .u64 0,.int .u64 0,.int .u64 0,.int .u64 0] 214)) from Own.newAt (by simp)))
 rw[← hW]
 clear hW
 obtain⟨R,eR⟩:∃ X,X=((w.heap.size+1)+1):=⟨_,rfl⟩
 rw[← eR] at HR ⊢
 have Rw:w.heap.size≤R:=by omega
 obtain⟨Y,eY⟩:∃ X,X=(w.heap.size+1):=⟨_,rfl⟩
 rw[← eY] at HY ⊢
 have Yw:w.heap.size≤Y:=by omega
 obtain⟨X,eX⟩:∃ X,X=w.heap.size:=⟨_,rfl⟩
 rw[← eX] at HX ⊢
 have Xw:w.heap.size≤X:=by omega
 have nXY:X≠Y:=by omega
 have nYX:Y≠X:=by omega
 have nXR:X≠R:=by omega
 have nRX:R≠X:=by omega
 have nYR:Y≠R:=by omega
 have nRY:R≠Y:=by omega
 clear eX eY eR
 go_wp2_with (fail)
 go_loopw [5,7] (fun cv iv wr=>∃ (k:Nat),k≤4∧cv = .int .u64 (car A B k)∧iv = .int .i64 k∧Hid (Below w.heap.size w wr)∧Hid (Own X (nums .u64 (mixL (limb (A+B)) (limb A) k) 4) wr)∧Hid (Own Y (nums .u64 (limb B) 4) wr)∧Hid (Own R (nums .u64 (fun _=>0) 4) wr)) (fun _ iv _=>(4 - (intOf iv).toNat))
 case atStart=>exact⟨0,by omega,by rw[car0],rfl,Lib.hid hB0,HX,HY,HR⟩
 case round =>
  clear HX HY HR hB0
  obtain⟨k,hk,rfl,rfl,HB,HX,HY,HR⟩:=hrel
  by_cases hlt:k<4
  ·have x0:=HX.out.at k _ (nums_at _ _ hlt)
   have xf:=HX.out.ok k (by rw[nums_length];exact hlt)
   have y0:=HY.out.at k _ (nums_at _ _ hlt)
   rw[mixL_at] at x0
   have Xl:=HX.out.lt
   have ad:=padd (limb A k) (limb B k) (car A B k) (in_limb _ _) (in_limb _ _) (car_bd _ _ _).1 (car_bd _ _ _).2
   rw[plus_low,plus_high] at ad
   have ME:=Lib.hid (mixL_step .u64 (limb (A+B)) (limb A) k 4 _ rfl)
   obtain⟨x,ex⟩:∃ x,limb A k=x:=⟨_,rfl⟩
   obtain⟨y,ey⟩:∃ y,limb B k=y:=⟨_,rfl⟩
   obtain⟨z,ez⟩:∃ z,limb (A+B) k=z:=⟨_,rfl⟩
   obtain⟨ca,ec⟩:∃ ca,car A B k=ca:=⟨_,rfl⟩
   obtain⟨cb,ed⟩:∃ cb,car A B (k+1)=cb:=⟨_,rfl⟩
   rw[ex] at x0 ad;rw[ey] at y0 ad;rw[ez] at ad ME;rw[ec] at ad ⊢;rw[ed] at ad
   have k0:(0:Int)≤(k:Int):=by omega
   have k1:(k:Int)<4:=by omega
   have k63:(k:Int)+1≤9223372036854775807:=by omega
   have ED:=Lib.hid ed;have eX:=Lib.hid ex;have eY:=Lib.hid ey
   clear ex ey ez ec ed hk x0 xf y0 Xl
   obtain⟨E,eE⟩:∃ E,E=w:=⟨_,rfl⟩
   subst eE
   go_wp2_with (fail)
   refine wp_region_fun 15 (by kernel_rfl) (by kernel_rfl) rfl (fun s b=>⟨#[(.agg (nums .u64 (limb A) 4).toArray),(.agg (nums .u64 (limb B) 4).toArray),.pointer (some ⟨X,0,none⟩),.pointer (some ⟨Y,0,none⟩),.pointer (some ⟨R,0,none⟩),s 5,.int .i64 k,.int .i64 k,.bool true,.int .i64 k,s 10,s 11,s 12,s 13,s 14,s 15,s 16,s 17,s 18,s 19,s 20,s 21,s 22,u23,undef],[]⟩) (fun d s b w=>(Below E.heap.size E w)∧(d 0=true→s 11 = .int .i64 (k:Int))∧(d 1=true→s 12 = .int .i64 (k:Int))∧(d 2=true→s 13 = .pointer (some ⟨X,k,none⟩))∧(d 3=true→s 14 = .int .u64 x)∧(d 4=true→s 15 = .int .i64 (k:Int))∧(d 5=true→s 16 = .pointer (some ⟨Y,k,none⟩))∧(d 6=true→s 17 = .int .u64 y)∧(d 7=true→s 18 = .int .u64 ca)∧(d 8=true→s 19 = .tuple #[.int .u64 z,.int .u64 cb])∧(d 9=true→s 10 = .tuple #[.int .u64 z,.int .u64 cb])∧(d 10=true→s 20 = .int .u64 z)∧(d 11=true→s 21 = .int .u64 cb)∧(d 12=true→s 22 = .pointer (some ⟨X,k,none⟩))∧(d 13=false→Own X (nums .u64 (mixL (limb (A+B)) (limb A) k) 4) w)∧(d 13=true→Own X (nums .u64 (mixL (limb (A+B)) (limb A) (k+1)) 4) w)∧(d 14=true→s 5 = .int .u64 cb)∧(d 14=false→s 5 = .int .u64 ca)∧(d 14=true→d 7=true)∧(d 13=true→d 3=true)∧(Own Y (nums .u64 (limb B) 4) w)∧(Own R (nums .u64 (fun _=>0) 4) w)) rfl ?h0w1 (?stw1:StepsF _ _ _ _ 15 _ _ [0,1,2,3,4,5,6,7,8,9,10,11,12,13,14]) ?dnw1
   case h0w1=>exact⟨Below.drew HB.out,(fun h=>nomatch h),(fun h=>nomatch h),(fun h=>nomatch h),(fun h=>nomatch h),(fun h=>nomatch h),(fun h=>nomatch h),(fun h=>nomatch h),(fun h=>nomatch h),(fun h=>nomatch h),(fun h=>nomatch h),(fun h=>nomatch h),(fun h=>nomatch h),(fun h=>nomatch h),(fun _=>HX.out.drew),(fun h=>nomatch h),(fun h=>nomatch h),(fun _=>rfl),(fun h=>nomatch h),(fun h=>nomatch h),HY.out.drew,HR.out.drew⟩
   case stw1 =>
    refine sc_ rfl [] (fun d s b w hF hd hw K_ hK=>?_) ?_
    ·have hB:Below E.heap.size E w:=(p0_ hF.out)
     dsimp only
     go_simp
     exact hK.out (ups s 11 (.int .i64 (k:Int))) b _ ⟨hB,(fun _=>rfl),hF.out.2.2⟩
    refine sc_ rfl [] (fun d s b w hF hd hw K_ hK=>?_) ?_
    ·have hB:Below E.heap.size E w:=(p0_ hF.out)
     dsimp only
     go_simp
     exact hK.out (ups s 12 (.int .i64 (k:Int))) b _ ⟨hB,(p1_ hF.out),(fun _=>rfl),hF.out.2.2.2⟩
    refine sc_ rfl [1] (fun d s b w hF hd hw K_ hK=>?_) ?_
    ·have hB:Below E.heap.size E w:=(p0_ hF.out)
     have e1:=p2_ hF.out (hw 1 (by decide))
     dsimp only
     go_simp
     exact hK.out (ups (ups s 12 (.int .i64 (k:Int))) 13 (.pointer (some ⟨X,k,none⟩))) b _ ⟨hB,(p1_ hF.out),(fun _=>rfl),(fun _=>rfl),hF.out.2.2.2.2⟩
    refine sc_ rfl [2] (fun d s b w hF hd hw K_ hK=>?_) ?_
    ·have hB:Below E.heap.size E w:=(p0_ hF.out)
     have e2:=p3_ hF.out (hw 2 (by decide))
     dsimp only
     have cX:=((p14_ hF.out) (by cases e:d 13 with | false=>rfl | true=>exact absurd ((p19_ hF.out) e) (by simp[hd]))).at k _ (by rw[nums_at _ _ hlt,mixL_at,eX.out])
     go_simp
     exact hK.out (ups (ups s 13 (.pointer (some ⟨X,k,none⟩))) 14 (.int .u64 x)) b _ ⟨hB,k2_ hF.out.2 fun t=>⟨(fun _=>rfl),(fun _=>rfl),k14_ t.2.2 fun t=>⟨(fun _=>rfl),t.2⟩⟩⟩
    refine sc_ rfl [] (fun d s b w hF hd hw K_ hK=>?_) ?_
    ·have hB:Below E.heap.size E w:=(p0_ hF.out)
     dsimp only
     go_simp
     exact hK.out (ups s 15 (.int .i64 (k:Int))) b _ ⟨hB,k4_ hF.out.2 fun t=>⟨(fun _=>rfl),t.2⟩⟩
    refine sc_ rfl [4] (fun d s b w hF hd hw K_ hK=>?_) ?_
    ·have hB:Below E.heap.size E w:=(p0_ hF.out)
     have e4:=p5_ hF.out (hw 4 (by decide))
     dsimp only
     go_simp
     exact hK.out (ups (ups s 15 (.int .i64 (k:Int))) 16 (.pointer (some ⟨Y,k,none⟩))) b _ ⟨hB,k4_ hF.out.2 fun t=>⟨(fun _=>rfl),(fun _=>rfl),t.2.2⟩⟩
    refine sc_ rfl [5] (fun d s b w hF hd hw K_ hK=>?_) ?_
    ·have hB:Below E.heap.size E w:=(p0_ hF.out)
     have e5:=p6_ hF.out (hw 5 (by decide))
     dsimp only
     have cY:=(p20_ hF.out).at k _ (by rw[nums_at _ _ hlt,eY.out])
     go_simp
     exact hK.out (ups (ups s 16 (.pointer (some ⟨Y,k,none⟩))) 17 (.int .u64 y)) b _ ⟨hB,k5_ hF.out.2 fun t=>⟨(fun _=>rfl),(fun _=>rfl),t.2.2⟩⟩
    refine sc_ rfl [] (fun d s b w hF hd hw K_ hK=>?_) ?_
    ·have hB:Below E.heap.size E w:=(p0_ hF.out)
     have e14:s 5 = .int .u64 ca:=(p17_ hF.out) (by cases e:d 14 with | false=>rfl | true=>exact absurd ((p18_ hF.out) e) (by simp[hd]))
     dsimp only
     go_simp
     exact hK.out (ups (ups s 5 (.int .u64 ca)) 18 (.int .u64 ca)) b _ ⟨hB,k7_ hF.out.2 fun t=>⟨(fun _=>rfl),k7_ t.2 fun t=>⟨(fun h=>absurd ((p18_ hF.out) h) (by simp[hd])),(fun _=>rfl),(fun _=>rfl),t.2.2.2⟩⟩⟩
    refine sc_ rfl [3,6,7] (fun d s b w hF hd hw K_ hK=>?_) ?_
    ·have hB:Below E.heap.size E w:=(p0_ hF.out)
     have e3:=p4_ hF.out (hw 3 (by decide))
     have e6:=p7_ hF.out (hw 6 (by decide))
     have e7:=p8_ hF.out (hw 7 (by decide))
     dsimp only
     have adw:=ad w
     go_simp
     exact hK.out (ups (ups (ups (ups s 14 (.int .u64 x)) 17 (.int .u64 y)) 18 (.int .u64 ca)) 19 (.tuple #[.int .u64 z,.int .u64 cb])) b _ ⟨hB,k3_ hF.out.2 fun t=>⟨(fun _=>rfl),k2_ t.2 fun t=>⟨(fun _=>rfl),(fun _=>rfl),(fun _=>rfl),t.2.2.2⟩⟩⟩
    refine sc_ rfl [8] (fun d s b w hF hd hw K_ hK=>?_) ?_
    ·have hB:Below E.heap.size E w:=(p0_ hF.out)
     have e8:=p9_ hF.out (hw 8 (by decide))
     dsimp only
     go_simp
     exact hK.out (ups (ups s 19 (.tuple #[.int .u64 z,.int .u64 cb])) 10 (.tuple #[.int .u64 z,.int .u64 cb])) b _ ⟨hB,k8_ hF.out.2 fun t=>⟨(fun _=>rfl),(fun _=>rfl),t.2.2⟩⟩
    refine sc_ rfl [9] (fun d s b w hF hd hw K_ hK=>?_) ?_
    ·have hB:Below E.heap.size E w:=(p0_ hF.out)
     have e9:=p10_ hF.out (hw 9 (by decide))
     dsimp only
     go_simp
     exact hK.out (ups (ups s 10 (.tuple #[.int .u64 z,.int .u64 cb])) 20 (.int .u64 z)) b _ ⟨hB,k9_ hF.out.2 fun t=>⟨(fun _=>rfl),(fun _=>rfl),t.2.2⟩⟩
    refine sc_ rfl [9] (fun d s b w hF hd hw K_ hK=>?_) ?_
    ·have hB:Below E.heap.size E w:=(p0_ hF.out)
     have e9:=p10_ hF.out (hw 9 (by decide))
     dsimp only
     go_simp
     exact hK.out (ups (ups s 10 (.tuple #[.int .u64 z,.int .u64 cb])) 21 (.int .u64 cb)) b _ ⟨hB,k9_ hF.out.2 fun t=>⟨(fun _=>rfl),t.2.1,(fun _=>rfl),t.2.2.2⟩⟩
    refine sc_ rfl [0,0,1,2,3,4,5,6,7,8,9,10] (fun d s b w hF hd hw K_ hK=>?_) ?_
    ·have hB:Below E.heap.size E w:=(p0_ hF.out)
     have e0:=p1_ hF.out (hw 0 (by decide))
     have e1:=p2_ hF.out (hw 1 (by decide))
     have e2:=p3_ hF.out (hw 2 (by decide))
     have e3:=p4_ hF.out (hw 3 (by decide))
     have e4:=p5_ hF.out (hw 4 (by decide))
     have e5:=p6_ hF.out (hw 5 (by decide))
     have e6:=p7_ hF.out (hw 6 (by decide))
     have e7:=p8_ hF.out (hw 7 (by decide))
     have e8:=p9_ hF.out (hw 8 (by decide))
     have e9:=p10_ hF.out (hw 9 (by decide))
     have e10:=p11_ hF.out (hw 10 (by decide))
     dsimp only
     go_simp
     exact hK.out (ups (ups (ups (ups (ups (ups (ups (ups (ups (ups (ups (ups s 11 (.int .i64 (k:Int))) 12 (.int .i64 (k:Int))) 13 (.pointer (some ⟨X,k,none⟩))) 14 (.int .u64 x)) 15 (.int .i64 (k:Int))) 16 (.pointer (some ⟨Y,k,none⟩))) 17 (.int .u64 y)) 18 (.int .u64 ca)) 19 (.tuple #[.int .u64 z,.int .u64 cb])) 10 (.tuple #[.int .u64 z,.int .u64 cb])) 20 (.int .u64 z)) 22 (.pointer (some ⟨X,k,none⟩))) b _ ⟨hB,(fun _=>rfl),(fun _=>rfl),(fun _=>rfl),(fun _=>rfl),(fun _=>rfl),(fun _=>rfl),(fun _=>rfl),(fun _=>rfl),(fun _=>rfl),(fun _=>rfl),(fun _=>rfl),(p12_ hF.out),(fun _=>rfl),hF.out.2.2.2.2.2.2.2.2.2.2.2.2.2.2⟩
    refine sc_ rfl [12,10,8,0,1,2,3,4,5,6,7,8,9,10] (fun d s b w hF hd hw K_ hK=>?_) ?_
    ·have hB:Below E.heap.size E w:=(p0_ hF.out)
     have e0:=p1_ hF.out (hw 0 (by decide))
     have e1:=p2_ hF.out (hw 1 (by decide))
     have e2:=p3_ hF.out (hw 2 (by decide))
     have e3:=p4_ hF.out (hw 3 (by decide))
     have e4:=p5_ hF.out (hw 4 (by decide))
     have e5:=p6_ hF.out (hw 5 (by decide))
     have e6:=p7_ hF.out (hw 6 (by decide))
     have e7:=p8_ hF.out (hw 7 (by decide))
     have e8:=p9_ hF.out (hw 8 (by decide))
     have e9:=p10_ hF.out (hw 9 (by decide))
     have e10:=p11_ hF.out (hw 10 (by decide))
     have e12:=p13_ hF.out (hw 12 (by decide))
     dsimp only
     have oX:=(p14_ hF.out) hd
     have fr:=oX.ok k (by rw[nums_length];exact hlt)
     have ce:=oX.at k _ (by rw[nums_at _ _ hlt])
     go_simp
     exact hK.out (ups (ups (ups (ups (ups (ups (ups (ups (ups (ups (ups (ups s 11 (.int .i64 (k:Int))) 12 (.int .i64 (k:Int))) 13 (.pointer (some ⟨X,k,none⟩))) 14 (.int .u64 x)) 15 (.int .i64 (k:Int))) 16 (.pointer (some ⟨Y,k,none⟩))) 17 (.int .u64 y)) 18 (.int .u64 ca)) 19 (.tuple #[.int .u64 z,.int .u64 cb])) 10 (.tuple #[.int .u64 z,.int .u64 cb])) 20 (.int .u64 z)) 22 (.pointer (some ⟨X,k,none⟩))) b _ ⟨(Below.setCells hB Xw [.int .u64 z] k),(fun _=>rfl),(fun _=>rfl),(fun _=>rfl),(fun _=>rfl),(fun _=>rfl),(fun _=>rfl),(fun _=>rfl),(fun _=>rfl),(fun _=>rfl),(fun _=>rfl),(fun _=>rfl),(p12_ hF.out),(fun _=>rfl),(fun h=>nomatch h),(fun _=>(ME.out ▸ own_set (v:=z) oX hlt)),k3_ hF.out.2.2.2.2.2.2.2.2.2.2.2.2.2.2.2.2 fun t=>⟨(fun _=>hw 3 (by decide)),(Own.far (o:=k) (vs:=[.int .u64 z]) (p20_ hF.out) nYX),(Own.far (o:=k) (vs:=[.int .u64 z]) (q21_ hF.out) nRX)⟩⟩
    refine sc_ rfl [11,13,0,1,2,3,4,5,6,7,8,9,10,11,12,13] (fun d s b w hF hd hw K_ hK=>?_) ?_
    ·have hB:Below E.heap.size E w:=(p0_ hF.out)
     have e0:=p1_ hF.out (hw 0 (by decide))
     have e1:=p2_ hF.out (hw 1 (by decide))
     have e2:=p3_ hF.out (hw 2 (by decide))
     have e3:=p4_ hF.out (hw 3 (by decide))
     have e4:=p5_ hF.out (hw 4 (by decide))
     have e5:=p6_ hF.out (hw 5 (by decide))
     have e6:=p7_ hF.out (hw 6 (by decide))
     have e7:=p8_ hF.out (hw 7 (by decide))
     have e8:=p9_ hF.out (hw 8 (by decide))
     have e9:=p10_ hF.out (hw 9 (by decide))
     have e10:=p11_ hF.out (hw 10 (by decide))
     have e11:=p12_ hF.out (hw 11 (by decide))
     have e12:=p13_ hF.out (hw 12 (by decide))
     dsimp only
     go_simp
     exact hK.out (ups (ups (ups (ups (ups (ups (ups (ups (ups (ups (ups (ups (ups (ups s 11 (.int .i64 (k:Int))) 12 (.int .i64 (k:Int))) 13 (.pointer (some ⟨X,k,none⟩))) 14 (.int .u64 x)) 15 (.int .i64 (k:Int))) 16 (.pointer (some ⟨Y,k,none⟩))) 17 (.int .u64 y)) 18 (.int .u64 ca)) 19 (.tuple #[.int .u64 z,.int .u64 cb])) 10 (.tuple #[.int .u64 z,.int .u64 cb])) 20 (.int .u64 z)) 21 (.int .u64 cb)) 22 (.pointer (some ⟨X,k,none⟩))) 5 (.int .u64 cb)) b _ ⟨hB,(fun _=>rfl),(fun _=>rfl),(fun _=>rfl),(fun _=>rfl),(fun _=>rfl),(fun _=>rfl),(fun _=>rfl),(fun _=>rfl),(fun _=>rfl),(fun _=>rfl),(fun _=>rfl),(fun _=>rfl),(fun _=>rfl),k2_ hF.out.2.2.2.2.2.2.2.2.2.2.2.2.2.2 fun t=>⟨(fun _=>rfl),(fun h=>nomatch h),(fun _=>hw 7 (by decide)),t.2.2.2⟩⟩
    exact StepsF.nil
   intro d s b w1 hF hall
   replace hF:=Lib.hid hF
   have hB:Below E.heap.size E w1:=(p0_ hF.out)
   try dsimp only
   have e0:s 11 = .int .i64 (k:Int):=(p1_ hF.out) (hall 0 (by decide))
   have e1:s 12 = .int .i64 (k:Int):=(p2_ hF.out) (hall 1 (by decide))
   have e2:s 13 = .pointer (some ⟨X,k,none⟩):=(p3_ hF.out) (hall 2 (by decide))
   have e3:s 14 = .int .u64 x:=(p4_ hF.out) (hall 3 (by decide))
   have e4:s 15 = .int .i64 (k:Int):=(p5_ hF.out) (hall 4 (by decide))
   have e5:s 16 = .pointer (some ⟨Y,k,none⟩):=(p6_ hF.out) (hall 5 (by decide))
   have e6:s 17 = .int .u64 y:=(p7_ hF.out) (hall 6 (by decide))
   have e7:s 18 = .int .u64 ca:=(p8_ hF.out) (hall 7 (by decide))
   have e8:s 19 = .tuple #[.int .u64 z,.int .u64 cb]:=(p9_ hF.out) (hall 8 (by decide))
   have e9:s 10 = .tuple #[.int .u64 z,.int .u64 cb]:=(p10_ hF.out) (hall 9 (by decide))
   have e10:s 20 = .int .u64 z:=(p11_ hF.out) (hall 10 (by decide))
   have e11:s 21 = .int .u64 cb:=(p12_ hF.out) (hall 11 (by decide))
   have e12:s 22 = .pointer (some ⟨X,k,none⟩):=(p13_ hF.out) (hall 12 (by decide))
   have f13:=(p15_ hF.out) (hall 13 (by decide))
   have e14:s 5 = .int .u64 cb:=(p16_ hF.out) (hall 14 (by decide))
   have oy:=(p20_ hF.out)
   have orr:=(q21_ hF.out)
   rw[e0,e1,e2,e3,e4,e5,e6,e7,e8,e9,e10,e11,e12,e14]
   clear hall hF e0 e1 e2 e3 e4 e5 e6 e7 e8 e9 e10 e11 e12 e14
   clear d s b
   have o0:=Lib.hid hB;have o1:=Lib.hid f13;have o2:=Lib.hid oy;have o3:=Lib.hid orr
   clear HX HY HR HB hB f13 oy orr
   go_wp2_with (fail)
   go_roundw
   case rel=>(first | exact⟨k+1,by omega,by rw[ED.out],by go_num,o0,o1,o2,o3⟩ | ((repeat apply Exists.intro);exact⟨⟨k+1,by omega,by rw[ED.out],by go_num,o0,o1,o2,o3⟩,rfl⟩))
   case measure=>simp[intOf];omega
  ·have e4:k=4:=by omega
   subst e4
   rw[mixL_all] at HX
   go_upto_region 7 with fail
   have hB0:=HB.out
   refine wp_region_lit ?_
   refine wpList_load_mid rfl 214 _ rfl X 0 rfl (nums .u64 (limb (A+B)) 4) _ HX.out.cell Tryz.underlying214 rfl (by kernel_rfl) ?_
   refine wpList_store_mid rfl 214 _ _ rfl R 0 (nums .u64 (limb (A+B)) 4).toArray rfl rfl HR.out.free (by kernel_rfl) (nums_all _ _ _) ?_
   change wpList _ _ _ [] _ (wr.setCells R 0 (nums .u64 (limb (A+B)) 4))
   have HRn:Hid (Own R (nums .u64 (limb (A+B)) 4) (wr.setCells R 0 (nums .u64 (limb (A+B)) 4))):=Lib.hid (Own.store HR.out (by simp[nums_length]))
   have HXn:Hid (Own X (nums .u64 (limb (A+B)) 4) (wr.setCells R 0 (nums .u64 (limb (A+B)) 4))):=Lib.hid (Own.far (o:=0) (vs:=(nums .u64 (limb (A+B)) 4)) HX.out nXR)
   have hB0n:Below w.heap.size w (wr.setCells R 0 (nums .u64 (limb (A+B)) 4)):=Below.setCells hB0 Rw (nums .u64 (limb (A+B)) 4) 0
   clear HR HX hB0
   generalize (wr.setCells R 0 (nums .u64 (limb (A+B)) 4))=wz at *
   have HR:=HRn
   clear HRn
   have HX:=HXn
   clear HXn
   have hB0:=hB0n
   clear hB0n
   go_wp2_with (fail)
   have hL:=run_loadVar_mid (P:=Tryz.prog) _ R 0 214 (nums .u64 (limb (A+B)) 4) _ HR.out.cell Tryz.underlying214 rfl (by kernel_rfl)
   exact bodyPost_ret (v := .agg (nums .u64 (limb (A+B)) 4).toArray) (res_cell Tryz.results160 rfl hL) rfl ⟨rfl,hB0⟩
end Go.Proofs.YtbilamnnneddmaaGreatDoor
namespace Go.Proofs.YtbilamnnneddmaaGreatDoor
set_option linter.unusedVariables false
set_option maxRecDepth 2000
set_option linter.unusedSimpArgs false
open Go.RowKit
theorem calls_stay {P:Program} {f:FuncId} {ar:Array Value} {w:World} {v:Value} (h:Calls P f ar w fun e w'=>e = .returned v∧w=w'):Calls P f ar w fun e w'=>e = .returned v∧Below w.heap.size w w' :=
 h.mono fun _ _ h=>⟨h.1,h.2 ▸ Below.refl _ _⟩
theorem index_num (f:Nat→Int) (k:Nat) (hk:k<4) (w:World):(Instr.index 214 (.agg (nums .u64 f 4).toArray) (.int .i64 k)).run Tryz.prog w = .ok (.int .u64 (f k)) w:=match k,hk with
 | 0,_=>by kernel_rfl
 | 1,_=>by kernel_rfl
 | 2,_=>by kernel_rfl
 | 3,_=>by kernel_rfl
def carT (P A b i j:Nat):Nat:=(P%2 ^ (64*(i+j))+A%2 ^ (64*j)*b*2 ^ (64*i))/2 ^ (64*(i+j))
theorem carT0 (P A b i:Nat):carT P A b i 0=0:=by
 unfold carT
 simp only[Nat.mul_zero,Nat.pow_zero,Nat.mod_one,Nat.zero_mul,Nat.add_zero]
 exact Nat.div_eq_of_lt (Nat.mod_lt _ (Nat.two_pow_pos _))
theorem carT_bd (P A b i j:Nat) (hb:b<18446744073709551616):inU (carT P A b i j:Nat):=by
 have:carT P A b i j<18446744073709551616:=by
  unfold carT
  rw[Nat.mul_add,Nat.pow_add]
  have hm:0<2 ^ (64*i):=Nat.two_pow_pos _
  have hn:0<2 ^ (64*j):=Nat.two_pow_pos _
  generalize 2 ^ (64*i)=m at *
  generalize 2 ^ (64*j)=n at *
  have hM:0<m*n:=Nat.mul_pos hm hn
  refine Nat.div_lt_of_lt_mul ?_
  have h1:=Nat.mod_lt P hM
  have h2:A%n*b*m≤(m*n)*b:=by
   have:A%n≤n:=Nat.le_of_lt (Nat.mod_lt A hn)
   calc A%n*b*m≤n*b*m:=Nat.mul_le_mul_right _ (Nat.mul_le_mul_right _ this)
    _=(m*n)*b:=by rw[Nat.mul_comm (n*b) m,Nat.mul_assoc]
  have h3:(m*n)*(b+1)≤(m*n)*18446744073709551616:=Nat.mul_le_mul_left _ hb
  rw[Nat.mul_succ] at h3
  omega
 unfold inU;omega
theorem times_next (P A b i j:Nat) :
  l64 (limb P (i+j)+limb A j*(b:Int)+(carT P A b i j:Nat))=limb (P+A*b*2 ^ (64*i)) (i+j) ∧
  h64 (limb P (i+j)+limb A j*(b:Int)+(carT P A b i j:Nat))=(carT P A b i (j+1):Nat):=by
 unfold l64 h64 limb carT
 have hm:0<2 ^ (64*i):=Nat.two_pow_pos _
 have hn:0<2 ^ (64*j):=Nat.two_pow_pos _
 have q1:2 ^ (64*(i+j))=2 ^ (64*i)*2 ^ (64*j):=by rw[← Nat.pow_add,Nat.mul_add]
 have q2:2 ^ (64*(i+(j+1)))=2 ^ (64*i)*2 ^ (64*j)*18446744073709551616:=by rw[show i+(j+1)=(i+j)+1 by omega,pw64,q1]
 rw[q2,q1,pw64 j]
 clear q1 q2
 generalize 2 ^ (64*i)=m at *
 generalize 2 ^ (64*j)=n at *
 have hM:0<m*n:=Nat.mul_pos hm hn
 have eP:=Nat.div_add_mod P (m*n)
 have eA:=Nat.div_add_mod A n
 have eAq:=Nat.div_add_mod (A/n) 18446744073709551616
 have g1:P+A*b*m=(P%(m*n)+A%n*b*m)+(m*n)*(P/(m*n)+A/n*b):=by
  have:A*b*m=A%n*b*m+(m*n)*(A/n*b):=by
   conv=>lhs;rw[← eA]
   grind
  rw[this,Nat.mul_add];omega
 have g2:P%(m*n*18446744073709551616)+A%(n*18446744073709551616)*b*m=(P%(m*n)+A%n*b*m)+(m*n)*(P/(m*n)%18446744073709551616+A/n%18446744073709551616*b):=by
  rw[nat_mod_mul P (m*n),nat_mod_mul A n]
  grind
 have c1:(P+A*b*m)/(m*n)=(P%(m*n)+A%n*b*m)/(m*n)+(P/(m*n)+A/n*b):=by
  rw[g1,Nat.add_mul_div_left _ _ hM]
 rw[g2,← Nat.div_div_eq_div_mul _ (m*n) 18446744073709551616,Nat.add_mul_div_left _ _ hM,c1]
 have g3:A/n*b=18446744073709551616*(A/n/18446744073709551616*b)+A/n%18446744073709551616*b:=by
  conv=>lhs;rw[← eAq]
  grind
 rw[g3]
 have e0:((A/n%18446744073709551616:Nat):Int)*(b:Int)=((A/n%18446744073709551616*b:Nat):Int):=by rw[Int.natCast_mul]
 rw[e0]
 generalize A/n%18446744073709551616*b=u at *
 generalize A/n/18446744073709551616*b=v at *
 generalize (P%(m*n)+A%n*b*m)/(m*n)=q at *
 generalize P/(m*n)=p at *
 constructor<;>omega
theorem mixL_eq (q:IntKind) (F G:Nat→Int) (k n:Nat) (h:∀ j,j<k→j<n→F j=G j):nums q (mixL F G k) n=nums q G n:=nums_congr _ fun j hj=>by
 unfold mixL
 by_cases e:j<k
 ·rw[if_pos e,h j e hj]
 ·rw[if_neg e]
theorem limb_low (P X i j:Nat) (h:j<i):limb (P+X*2 ^ (64*i)) j=limb P j:=by
 unfold limb
 have:2 ^ (64*i)=2 ^ (64*j)*18446744073709551616*2 ^ (64*(i - j - 1)):=by
  rw[show (18446744073709551616:Nat)=2 ^ 64 from rfl,← Nat.pow_add,← Nat.pow_add];congr 1;omega
 rw[this]
 have hM:0<2 ^ (64*j):=Nat.two_pow_pos _
 generalize 2 ^ (64*j)=M at *
 generalize 2 ^ (64*(i - j - 1))=t
 rw[show X*(M*18446744073709551616*t)=M*(18446744073709551616*(X*t)) by grind,Nat.add_mul_div_left _ _ hM,Nat.add_mul_mod_self_left]
theorem limb_of (B i:Nat):limb B i=((B/2 ^ (64*i)%18446744073709551616:Nat):Int):=rfl
theorem prod_next (A B i:Nat):A*(B%2 ^ (64*i))+A*(B/2 ^ (64*i)%18446744073709551616)*2 ^ (64*i)=A*(B%2 ^ (64*(i+1))):=by
 rw[pw64,nat_mod_mul]
 grind
set_option maxHeartbeats 8000000 in
theorem times_any (A B:Nat) (hB:B<2 ^ 256) (w:World) :
  Calls Tryz.prog 159 #[(.agg (nums .u64 (limb A) 4).toArray),(.agg (nums .u64 (limb B) 4).toArray)] w fun e w'=>e = .returned (.agg (nums .u64 (limb (A*B)) 4).toArray)∧Below w.heap.size w w':=by
 have BB:=Lib.hid hB
 clear hB
 go_enter Tryz.func159,Tryz.ntmps159
 go_upto_region 2 with fail
 obtain⟨W0,hW⟩:∃ W0,W0=((((w.alloc (.cells (nums .u64 (limb A) 4).toArray 214)).alloc (.cells (nums .u64 (limb B) 4).toArray 214)).alloc (.cells #[.int .u64 0,.int .u64 0,.int .u64 0,.int .u64 0] 214)).alloc (.cells #[.int .u64 0,.int .u64 0,.int .u64 0,.int .u64 0] 214)):=⟨_,rfl⟩
 have hB0:Below w.heap.size w W0:=hW ▸ (Below.al (Below.al (Below.al (Below.al (Below.refl _ _)))))
 have HX:Hid (Own w.heap.size (nums .u64 (limb A) 4) W0):=Lib.hid (hW ▸ (show Own w.heap.size (nums .u64 (limb A) 4) (w.alloc (.cells (nums .u64 (limb A) 4).toArray 214)) from Own.newAt (by simp)).alloc.alloc.alloc)
 have HY:Hid (Own (w.heap.size+1) (nums .u64 (limb B) 4) W0):=Lib.hid (hW ▸ (show Own (w.heap.size+1) (nums .u64 (limb B) 4) ((w.alloc (.cells (nums .u64 (limb A) 4).toArray 214)).alloc (.cells (nums .u64 (limb B) 4).toArray 214)) from Own.newAt (by simp)).alloc.alloc)
 have HR:Hid (Own ((w.heap.size+1)+1) (nums .u64 (fun _=>0) 4) W0):=Lib.hid (hW ▸ (show Own ((w.heap.size+1)+1) (nums .u64 (fun _=>0) 4) (((w.alloc (.cells (nums .u64 (limb A) 4).toArray 214)).alloc (.cells (nums .u64 (limb B) 4).toArray 214)).alloc (.cells #[.int .u64 0,.int .u64 0,.int .u64 0,.int .u64 0] 214)) from Own.newAt (by simp)).alloc)
 have HQ:Hid (Own (((w.heap.size+1)+1)+1) (nums .u64 (fun _=>0) 4) W0):=Lib.hid (hW ▸ (show Own (((w.heap.size+1)+1)+1) (nums .u64 (fun _=>0) 4) ((((w.alloc (.cells (nums .u64 (limb A) 4).toArray 214)).alloc (.cells (nums .u64 (limb B) 4).toArray 214)).alloc (.cells #[.int .u64 0,.int .u64 0,.int .u64 0,.int .u64 0] 214)).alloc (.cells #[.int .u64 0,.int .u64 0,.int .u64 0,.int .u64 0] 214)) from Own.newAt (by simp)))
 rw[← hW]
 clear hW
 obtain⟨Q,eQ⟩:∃ X,X=(((w.heap.size+1)+1)+1):=⟨_,rfl⟩
 rw[← eQ] at HQ ⊢
 have Qw:w.heap.size≤Q:=by omega
 obtain⟨R,eR⟩:∃ X,X=((w.heap.size+1)+1):=⟨_,rfl⟩
 rw[← eR] at HR ⊢
 have Rw:w.heap.size≤R:=by omega
 obtain⟨Y,eY⟩:∃ X,X=(w.heap.size+1):=⟨_,rfl⟩
 rw[← eY] at HY ⊢
 have Yw:w.heap.size≤Y:=by omega
 obtain⟨X,eX⟩:∃ X,X=w.heap.size:=⟨_,rfl⟩
 rw[← eX] at HX ⊢
 have Xw:w.heap.size≤X:=by omega
 have nXY:X≠Y:=by omega
 have nYX:Y≠X:=by omega
 have nXR:X≠R:=by omega
 have nRX:R≠X:=by omega
 have nXQ:X≠Q:=by omega
 have nQX:Q≠X:=by omega
 have nYR:Y≠R:=by omega
 have nRY:R≠Y:=by omega
 have nYQ:Y≠Q:=by omega
 have nQY:Q≠Y:=by omega
 have nRQ:R≠Q:=by omega
 have nQR:Q≠R:=by omega
 clear eX eY eR eQ
 refine wp_region_lit ?_
 refine wpList_load_mid rfl 214 _ rfl Y 0 rfl (nums .u64 (limb B) 4) _ HY.out.cell Tryz.underlying214 rfl (by kernel_rfl) ?_
 go_wp2_with (fail)
 go_loopw [11] (fun iv wr=>∃ (i:Nat),i≤4∧iv = .int .i64 i∧Hid (Below w.heap.size w wr)∧Hid (Own X (nums .u64 (limb A) 4) wr)∧Hid (Own Q (nums .u64 (limb (A*(B%2 ^ (64*i)))) 4) wr)∧Hid (Own R (nums .u64 (fun _=>0) 4) wr)) (fun iv _=>(4 - (intOf iv).toNat))
 case atStart=>exact⟨0,by omega,rfl,Lib.hid hB0,HX,Lib.hid (by rw[show nums .u64 (limb (A*(B%2 ^ (64*0)))) 4=nums .u64 (fun _=>0) 4 from nums_congr _ fun j _=>by simp[Nat.mod_one,limb]];exact HQ.out),HR⟩
 case round =>
  clear HX HY HR HQ hB0
  obtain⟨i,hi,rfl,HB,HX,HQ,HR⟩:=hrel
  by_cases hlt:i<4
  ·have ix:=index_num (limb B) i hlt
   have i0:(0:Int)≤(i:Int):=by omega
   have i4:(i:Int)<4:=by omega
   have i63:(i:Int)+1≤9223372036854775807:=by omega
   have hp:=prod_next A B i
   have eb:=limb_of B i
   have hb:B/2 ^ (64*i)%18446744073709551616<18446744073709551616:=Nat.mod_lt _ (by decide)
   rw[eb] at ix
   generalize B/2 ^ (64*i)%18446744073709551616=bi at *
   obtain⟨P_,eP⟩:∃ P_,A*(B%2 ^ (64*i))=P_:=⟨_,rfl⟩
   rw[eP] at HQ hp
   have HP:=Lib.hid hp
   have hB':=Lib.hid hb
   obtain⟨m,em⟩:∃ m:Nat,m=4 - i:=⟨_,rfl⟩
   have e1:IntKind.i64.wrap (4 - (i:Int))=(m:Int):=by rw[IntWalk.i64_in _ (by omega)];omega
   have hm:i+m=4:=by omega
   clear em eb eP hp hb hi
   go_wp2_with (fail)
   go_loopw [8,17] (fun cv jv ws=>∃ (j:Nat),j≤m∧cv = .int .u64 ((carT P_ A bi i j:Nat):Int)∧jv = .int .i64 j∧Hid (Below w.heap.size w ws)∧Hid (Own X (nums .u64 (limb A) 4) ws)∧Hid (Own Q (nums .u64 (mixL (limb (P_+A*bi*2 ^ (64*i))) (limb P_) (i+j)) 4) ws)∧Hid (Own R (nums .u64 (fun _=>0) 4) ws)) (fun _ jv _=>(m - (intOf jv).toNat))
   case atStart=>exact⟨0,by omega,by rw[carT0];rfl,rfl,HB,HX,Lib.hid (by rw[mixL_eq _ _ _ _ _ (fun j hj _=>limb_low P_ (A*bi) i j (by omega))];exact HQ.out),HR⟩
   case round =>
    clear HX HQ HR HB
    obtain⟨j,hj,rfl,rfl,HB,HX,HQ,HR⟩:=hrel
    by_cases hjm:j<m
    ·have hij:i+j<4:=by omega
     have hj4:j<4:=by omega
     have tn:=times_next P_ A bi i j
     have cb0:=carT_bd P_ A bi i j hB'.out
     have cb1:=carT_bd P_ A bi i (j+1) hB'.out
     have SC:=Lib.hid (fun w=>step_any (limb P_ (i+j)) (limb A j) bi (carT P_ A bi i j:Nat) (in_limb _ _) (in_limb _ _) (by unfold inU;have:=hB'.out;omega) cb0 w)
     rw[tn.1,tn.2] at SC
     have ME:=Lib.hid (mixL_step .u64 (limb (P_+A*bi*2 ^ (64*i))) (limb P_) (i+j) 4 _ rfl)
     clear tn cb0 cb1
     obtain⟨x,ex⟩:∃ x,limb P_ (i+j)=x:=⟨_,rfl⟩
     obtain⟨y,ey⟩:∃ y,limb A j=y:=⟨_,rfl⟩
     obtain⟨z,ez⟩:∃ z,limb (P_+A*bi*2 ^ (64*i)) (i+j)=z:=⟨_,rfl⟩
     obtain⟨ca,ec⟩:∃ ca,((carT P_ A bi i j:Nat):Int)=ca:=⟨_,rfl⟩
     obtain⟨cb,ed⟩:∃ cb,((carT P_ A bi i (j+1):Nat):Int)=cb:=⟨_,rfl⟩
     rw[ex,ey,ez,ec,ed] at SC
     rw[ez] at ME;rw[ec]
     have EX:=Lib.hid ex;have EY:=Lib.hid ey;have ED:=Lib.hid ed
     have j0:(0:Int)≤(j:Int):=by omega
     have j4:(j:Int)<4:=by omega
     have jm:(j:Int)<(m:Int):=by omega
     have j63:(j:Int)+1≤9223372036854775807:=by omega
     obtain⟨k,ek⟩:∃ k:Nat,i+j=k:=⟨_,rfl⟩
     have ew:IntKind.i64.wrap ((i:Int)+(j:Int))=(k:Int):=by rw[IntWalk.i64_in _ (by omega)];omega
     have ew':(i:Int)+(j:Int)=(k:Int):=by omega
     rw[ek] at HQ ME EX hij
     have k0:(0:Int)≤(k:Int):=by omega
     have k4:(k:Int)<4:=by omega
     have wk:IntKind.i64.wrap (k:Int)=(k:Int):=IntWalk.i64_in _ (by omega)
     have EK:=Lib.hid ek
     clear ex ey ez ec ed ek
     obtain⟨E,eE⟩:∃ E,E=w:=⟨_,rfl⟩
     subst eE
     go_wp2_with (fail)
     refine wp_region_fun 20 (by kernel_rfl) (by kernel_rfl) rfl (fun s b=>⟨#[(.agg (nums .u64 (limb A) 4).toArray),(.agg (nums .u64 (limb B) 4).toArray),.pointer (some ⟨X,0,none⟩),.pointer (some ⟨Y,0,none⟩),.pointer (some ⟨R,0,none⟩),.pointer (some ⟨Q,0,none⟩),.int .i64 i,.int .u64 bi,s 8,.int .i64 j,(.agg (nums .u64 (limb B) 4).toArray),.int .i64 i,.bool true,.int .i64 i,.int .u64 bi,.int .i64 i,.int .i64 m,.int .i64 j,.bool true,.int .i64 j,s 20,s 21,s 22,s 23,s 24,s 25,s 26,s 27,s 28,s 29,s 30,s 31,s 32,s 33,s 34,s 35,s 36,s 37,u38,u39,undef],[]⟩) (fun d s b w=>(Below E.heap.size E w)∧(d 0=true→s 21 = .int .i64 i)∧(d 1=true→s 22 = .int .i64 j)∧(d 2=true→s 23 = .int .i64 (k:Int))∧(d 3=true→s 24 = .int .i64 i)∧(d 4=true→s 25 = .int .i64 j)∧(d 5=true→s 26 = .int .i64 (k:Int))∧(d 6=true→s 27 = .pointer (some ⟨Q,k,none⟩))∧(d 7=true→s 28 = .int .u64 x)∧(d 8=true→s 29 = .int .i64 j)∧(d 9=true→s 30 = .pointer (some ⟨X,j,none⟩))∧(d 10=true→s 31 = .int .u64 y)∧(d 11=true→s 32 = .int .u64 bi)∧(d 12=true→s 33 = .int .u64 ca)∧(d 13=true→s 34 = .tuple #[.int .u64 z,.int .u64 cb])∧(d 14=true→s 20 = .tuple #[.int .u64 z,.int .u64 cb])∧(d 15=true→s 35 = .int .u64 z)∧(d 16=true→s 36 = .int .u64 cb)∧(d 17=true→s 37 = .pointer (some ⟨Q,k,none⟩))∧(d 18=false→Own Q (nums .u64 (mixL (limb (P_+A*bi*2 ^ (64*i))) (limb P_) k) 4) w)∧(d 18=true→Own Q (nums .u64 (mixL (limb (P_+A*bi*2 ^ (64*i))) (limb P_) (k+1)) 4) w)∧(d 19=true→s 8 = .int .u64 cb)∧(d 19=false→s 8 = .int .u64 ca)∧(d 19=true→d 12=true)∧(d 18=true→d 7=true)∧(Own X (nums .u64 (limb A) 4) w)∧(Own R (nums .u64 (fun _=>0) 4) w)) rfl ?h0w1 (?stw1:StepsF _ _ _ _ 20 _ _ [0,1,2,3,4,5,6,7,8,9,10,11,12,13,14,15,16,17,18,19]) ?dnw1
     case h0w1=>exact⟨Below.drew HB.out,(fun h=>nomatch h),(fun h=>nomatch h),(fun h=>nomatch h),(fun h=>nomatch h),(fun h=>nomatch h),(fun h=>nomatch h),(fun h=>nomatch h),(fun h=>nomatch h),(fun h=>nomatch h),(fun h=>nomatch h),(fun h=>nomatch h),(fun h=>nomatch h),(fun h=>nomatch h),(fun h=>nomatch h),(fun h=>nomatch h),(fun h=>nomatch h),(fun h=>nomatch h),(fun h=>nomatch h),(fun _=>HQ.out.drew),(fun h=>nomatch h),(fun h=>nomatch h),(fun _=>rfl),(fun h=>nomatch h),(fun h=>nomatch h),HX.out.drew,HR.out.drew⟩
     case stw1 =>
      refine sc_ rfl [] (fun d s b w hF hd hw K_ hK=>?_) ?_
      ·have hB:Below E.heap.size E w:=(p0_ hF.out)
       dsimp only
       go_simp
       exact hK.out (ups s 21 (.int .i64 i)) b _ ⟨hB,(fun _=>rfl),hF.out.2.2⟩
      refine sc_ rfl [] (fun d s b w hF hd hw K_ hK=>?_) ?_
      ·have hB:Below E.heap.size E w:=(p0_ hF.out)
       dsimp only
       go_simp
       exact hK.out (ups s 22 (.int .i64 j)) b _ ⟨hB,(p1_ hF.out),(fun _=>rfl),hF.out.2.2.2⟩
      refine sc_ rfl [0,1] (fun d s b w hF hd hw K_ hK=>?_) ?_
      ·have hB:Below E.heap.size E w:=(p0_ hF.out)
       have e0:=p1_ hF.out (hw 0 (by decide))
       have e1:=p2_ hF.out (hw 1 (by decide))
       dsimp only
       go_simp
       exact hK.out (ups (ups (ups s 21 (.int .i64 i)) 22 (.int .i64 j)) 23 (.int .i64 (k:Int))) b _ ⟨hB,(fun _=>rfl),(fun _=>rfl),(fun _=>rfl),hF.out.2.2.2.2⟩
      refine sc_ rfl [] (fun d s b w hF hd hw K_ hK=>?_) ?_
      ·have hB:Below E.heap.size E w:=(p0_ hF.out)
       dsimp only
       go_simp
       exact hK.out (ups s 24 (.int .i64 i)) b _ ⟨hB,k3_ hF.out.2 fun t=>⟨(fun _=>rfl),t.2⟩⟩
      refine sc_ rfl [] (fun d s b w hF hd hw K_ hK=>?_) ?_
      ·have hB:Below E.heap.size E w:=(p0_ hF.out)
       dsimp only
       go_simp
       exact hK.out (ups s 25 (.int .i64 j)) b _ ⟨hB,k4_ hF.out.2 fun t=>⟨(fun _=>rfl),t.2⟩⟩
      refine sc_ rfl [3,4] (fun d s b w hF hd hw K_ hK=>?_) ?_
      ·have hB:Below E.heap.size E w:=(p0_ hF.out)
       have e3:=p4_ hF.out (hw 3 (by decide))
       have e4:=p5_ hF.out (hw 4 (by decide))
       dsimp only
       go_simp
       exact hK.out (ups (ups (ups s 24 (.int .i64 i)) 25 (.int .i64 j)) 26 (.int .i64 (k:Int))) b _ ⟨hB,k3_ hF.out.2 fun t=>⟨(fun _=>rfl),(fun _=>rfl),(fun _=>rfl),t.2.2.2⟩⟩
      refine sc_ rfl [5] (fun d s b w hF hd hw K_ hK=>?_) ?_
      ·have hB:Below E.heap.size E w:=(p0_ hF.out)
       have e5:=p6_ hF.out (hw 5 (by decide))
       dsimp only
       go_simp
       exact hK.out (ups (ups s 26 (.int .i64 (k:Int))) 27 (.pointer (some ⟨Q,k,none⟩))) b _ ⟨hB,k5_ hF.out.2 fun t=>⟨(fun _=>rfl),(fun _=>rfl),t.2.2⟩⟩
      refine sc_ rfl [6] (fun d s b w hF hd hw K_ hK=>?_) ?_
      ·have hB:Below E.heap.size E w:=(p0_ hF.out)
       have e6:=p7_ hF.out (hw 6 (by decide))
       dsimp only
       have cX:=((p19_ hF.out) (by cases e:d 18 with | false=>rfl | true=>exact absurd ((p24_ hF.out) e) (by simp[hd]))).at k _ (by rw[nums_at _ _ hij,mixL_at,EX.out])
       go_simp
       exact hK.out (ups (ups s 27 (.pointer (some ⟨Q,k,none⟩))) 28 (.int .u64 x)) b _ ⟨hB,k6_ hF.out.2 fun t=>⟨(fun _=>rfl),(fun _=>rfl),k15_ t.2.2 fun t=>⟨(fun _=>rfl),t.2⟩⟩⟩
      refine sc_ rfl [] (fun d s b w hF hd hw K_ hK=>?_) ?_
      ·have hB:Below E.heap.size E w:=(p0_ hF.out)
       dsimp only
       go_simp
       exact hK.out (ups s 29 (.int .i64 j)) b _ ⟨hB,k8_ hF.out.2 fun t=>⟨(fun _=>rfl),t.2⟩⟩
      refine sc_ rfl [8] (fun d s b w hF hd hw K_ hK=>?_) ?_
      ·have hB:Below E.heap.size E w:=(p0_ hF.out)
       have e8:=p9_ hF.out (hw 8 (by decide))
       dsimp only
       go_simp
       exact hK.out (ups (ups s 29 (.int .i64 j)) 30 (.pointer (some ⟨X,j,none⟩))) b _ ⟨hB,k8_ hF.out.2 fun t=>⟨(fun _=>rfl),(fun _=>rfl),t.2.2⟩⟩
      refine sc_ rfl [9] (fun d s b w hF hd hw K_ hK=>?_) ?_
      ·have hB:Below E.heap.size E w:=(p0_ hF.out)
       have e9:=p10_ hF.out (hw 9 (by decide))
       dsimp only
       have cY:=(p25_ hF.out).at j _ (by rw[nums_at _ _ hj4,EY.out])
       go_simp
       exact hK.out (ups (ups s 30 (.pointer (some ⟨X,j,none⟩))) 31 (.int .u64 y)) b _ ⟨hB,k9_ hF.out.2 fun t=>⟨(fun _=>rfl),(fun _=>rfl),t.2.2⟩⟩
      refine sc_ rfl [] (fun d s b w hF hd hw K_ hK=>?_) ?_
      ·have hB:Below E.heap.size E w:=(p0_ hF.out)
       dsimp only
       go_simp
       exact hK.out (ups s 32 (.int .u64 bi)) b _ ⟨hB,k11_ hF.out.2 fun t=>⟨(fun _=>rfl),t.2⟩⟩
      refine sc_ rfl [] (fun d s b w hF hd hw K_ hK=>?_) ?_
      ·have hB:Below E.heap.size E w:=(p0_ hF.out)
       have e19:s 8 = .int .u64 ca:=(p22_ hF.out) (by cases e:d 19 with | false=>rfl | true=>exact absurd ((p23_ hF.out) e) (by simp[hd]))
       dsimp only
       go_simp
       exact hK.out (ups (ups s 8 (.int .u64 ca)) 33 (.int .u64 ca)) b _ ⟨hB,k12_ hF.out.2 fun t=>⟨(fun _=>rfl),k7_ t.2 fun t=>⟨(fun h=>absurd ((p23_ hF.out) h) (by simp[hd])),(fun _=>rfl),(fun _=>rfl),t.2.2.2⟩⟩⟩
      refine sc_ rfl [7,10,11,12] (fun d s b w hF hd hw K_ hK=>?_) ?_
      ·have hB:Below E.heap.size E w:=(p0_ hF.out)
       have e7:=p8_ hF.out (hw 7 (by decide))
       have e10:=p11_ hF.out (hw 10 (by decide))
       have e11:=p12_ hF.out (hw 11 (by decide))
       have e12:=p13_ hF.out (hw 12 (by decide))
       dsimp only
       go_simp
       go_at_call 182
       refine (calls_stay (SC.out _)).mono ?_
       rintro e w1 ⟨rfl,hb⟩
       exact hK.out (ups (ups (ups (ups (ups s 28 (.int .u64 x)) 31 (.int .u64 y)) 32 (.int .u64 bi)) 33 (.int .u64 ca)) 34 (.tuple #[.int .u64 z,.int .u64 cb])) b _ ⟨(Below.go hB hb),k7_ hF.out.2 fun t=>⟨(fun _=>rfl),k2_ t.2 fun t=>⟨(fun _=>rfl),(fun _=>rfl),(fun _=>rfl),(fun _=>rfl),k4_ t.2.2.2.2 fun t=>⟨(fun h0=>((p19_ hF.out) h0).later hb),(fun h0=>((p20_ hF.out) h0).later hb),k4_ t.2.2 fun t=>⟨(((p25_ hF.out)).later hb),(((q26_ hF.out)).later hb)⟩⟩⟩⟩⟩
      refine sc_ rfl [13] (fun d s b w hF hd hw K_ hK=>?_) ?_
      ·have hB:Below E.heap.size E w:=(p0_ hF.out)
       have e13:=p14_ hF.out (hw 13 (by decide))
       dsimp only
       go_simp
       exact hK.out (ups (ups s 34 (.tuple #[.int .u64 z,.int .u64 cb])) 20 (.tuple #[.int .u64 z,.int .u64 cb])) b _ ⟨hB,k13_ hF.out.2 fun t=>⟨(fun _=>rfl),(fun _=>rfl),t.2.2⟩⟩
      refine sc_ rfl [14] (fun d s b w hF hd hw K_ hK=>?_) ?_
      ·have hB:Below E.heap.size E w:=(p0_ hF.out)
       have e14:=p15_ hF.out (hw 14 (by decide))
       dsimp only
       go_simp
       exact hK.out (ups (ups s 20 (.tuple #[.int .u64 z,.int .u64 cb])) 35 (.int .u64 z)) b _ ⟨hB,k14_ hF.out.2 fun t=>⟨(fun _=>rfl),(fun _=>rfl),t.2.2⟩⟩
      refine sc_ rfl [14] (fun d s b w hF hd hw K_ hK=>?_) ?_
      ·have hB:Below E.heap.size E w:=(p0_ hF.out)
       have e14:=p15_ hF.out (hw 14 (by decide))
       dsimp only
       go_simp
       exact hK.out (ups (ups s 20 (.tuple #[.int .u64 z,.int .u64 cb])) 36 (.int .u64 cb)) b _ ⟨hB,k14_ hF.out.2 fun t=>⟨(fun _=>rfl),t.2.1,(fun _=>rfl),t.2.2.2⟩⟩
      refine sc_ rfl [2,0,1,2,3,4,5,6,7,8,9,10,11,12,13,14,15] (fun d s b w hF hd hw K_ hK=>?_) ?_
      ·have hB:Below E.heap.size E w:=(p0_ hF.out)
       have e0:=p1_ hF.out (hw 0 (by decide))
       have e1:=p2_ hF.out (hw 1 (by decide))
       have e2:=p3_ hF.out (hw 2 (by decide))
       have e3:=p4_ hF.out (hw 3 (by decide))
       have e4:=p5_ hF.out (hw 4 (by decide))
       have e5:=p6_ hF.out (hw 5 (by decide))
       have e6:=p7_ hF.out (hw 6 (by decide))
       have e7:=p8_ hF.out (hw 7 (by decide))
       have e8:=p9_ hF.out (hw 8 (by decide))
       have e9:=p10_ hF.out (hw 9 (by decide))
       have e10:=p11_ hF.out (hw 10 (by decide))
       have e11:=p12_ hF.out (hw 11 (by decide))
       have e12:=p13_ hF.out (hw 12 (by decide))
       have e13:=p14_ hF.out (hw 13 (by decide))
       have e14:=p15_ hF.out (hw 14 (by decide))
       have e15:=p16_ hF.out (hw 15 (by decide))
       dsimp only
       go_simp
       exact hK.out (ups (ups (ups (ups (ups (ups (ups (ups (ups (ups (ups (ups (ups (ups (ups (ups (ups s 21 (.int .i64 i)) 22 (.int .i64 j)) 23 (.int .i64 (k:Int))) 24 (.int .i64 i)) 25 (.int .i64 j)) 26 (.int .i64 (k:Int))) 27 (.pointer (some ⟨Q,k,none⟩))) 28 (.int .u64 x)) 29 (.int .i64 j)) 30 (.pointer (some ⟨X,j,none⟩))) 31 (.int .u64 y)) 32 (.int .u64 bi)) 33 (.int .u64 ca)) 34 (.tuple #[.int .u64 z,.int .u64 cb])) 20 (.tuple #[.int .u64 z,.int .u64 cb])) 35 (.int .u64 z)) 37 (.pointer (some ⟨Q,k,none⟩))) b _ ⟨hB,(fun _=>rfl),(fun _=>rfl),(fun _=>rfl),(fun _=>rfl),(fun _=>rfl),(fun _=>rfl),(fun _=>rfl),(fun _=>rfl),(fun _=>rfl),(fun _=>rfl),(fun _=>rfl),(fun _=>rfl),(fun _=>rfl),(fun _=>rfl),(fun _=>rfl),(fun _=>rfl),(p17_ hF.out),(fun _=>rfl),hF.out.2.2.2.2.2.2.2.2.2.2.2.2.2.2.2.2.2.2.2⟩
      refine sc_ rfl [17,15,13,0,1,2,3,4,5,6,7,8,9,10,11,12,13,14,15] (fun d s b w hF hd hw K_ hK=>?_) ?_
      ·have hB:Below E.heap.size E w:=(p0_ hF.out)
       have e0:=p1_ hF.out (hw 0 (by decide))
       have e1:=p2_ hF.out (hw 1 (by decide))
       have e2:=p3_ hF.out (hw 2 (by decide))
       have e3:=p4_ hF.out (hw 3 (by decide))
       have e4:=p5_ hF.out (hw 4 (by decide))
       have e5:=p6_ hF.out (hw 5 (by decide))
       have e6:=p7_ hF.out (hw 6 (by decide))
       have e7:=p8_ hF.out (hw 7 (by decide))
       have e8:=p9_ hF.out (hw 8 (by decide))
       have e9:=p10_ hF.out (hw 9 (by decide))
       have e10:=p11_ hF.out (hw 10 (by decide))
       have e11:=p12_ hF.out (hw 11 (by decide))
       have e12:=p13_ hF.out (hw 12 (by decide))
       have e13:=p14_ hF.out (hw 13 (by decide))
       have e14:=p15_ hF.out (hw 14 (by decide))
       have e15:=p16_ hF.out (hw 15 (by decide))
       have e17:=p18_ hF.out (hw 17 (by decide))
       dsimp only
       have oX:=(p19_ hF.out) hd
       have fr:=oX.ok k (by rw[nums_length];exact hij)
       have ce:=oX.at k _ (by rw[nums_at _ _ hij])
       go_simp
       exact hK.out (ups (ups (ups (ups (ups (ups (ups (ups (ups (ups (ups (ups (ups (ups (ups (ups (ups s 21 (.int .i64 i)) 22 (.int .i64 j)) 23 (.int .i64 (k:Int))) 24 (.int .i64 i)) 25 (.int .i64 j)) 26 (.int .i64 (k:Int))) 27 (.pointer (some ⟨Q,k,none⟩))) 28 (.int .u64 x)) 29 (.int .i64 j)) 30 (.pointer (some ⟨X,j,none⟩))) 31 (.int .u64 y)) 32 (.int .u64 bi)) 33 (.int .u64 ca)) 34 (.tuple #[.int .u64 z,.int .u64 cb])) 20 (.tuple #[.int .u64 z,.int .u64 cb])) 35 (.int .u64 z)) 37 (.pointer (some ⟨Q,k,none⟩))) b _ ⟨(Below.setCells hB Qw [.int .u64 z] k),(fun _=>rfl),(fun _=>rfl),(fun _=>rfl),(fun _=>rfl),(fun _=>rfl),(fun _=>rfl),(fun _=>rfl),(fun _=>rfl),(fun _=>rfl),(fun _=>rfl),(fun _=>rfl),(fun _=>rfl),(fun _=>rfl),(fun _=>rfl),(fun _=>rfl),(fun _=>rfl),(p17_ hF.out),(fun _=>rfl),(fun h=>nomatch h),(fun _=>(ME.out ▸ own_set (v:=z) oX hij)),k3_ hF.out.2.2.2.2.2.2.2.2.2.2.2.2.2.2.2.2.2.2.2.2.2 fun t=>⟨(fun _=>hw 7 (by decide)),(Own.far (o:=k) (vs:=[.int .u64 z]) (p25_ hF.out) nXQ),(Own.far (o:=k) (vs:=[.int .u64 z]) (q26_ hF.out) nRQ)⟩⟩
      refine sc_ rfl [16,18,0,1,2,3,4,5,6,7,8,9,10,11,12,13,14,15,16,17,18] (fun d s b w hF hd hw K_ hK=>?_) ?_
      ·have hB:Below E.heap.size E w:=(p0_ hF.out)
       have e0:=p1_ hF.out (hw 0 (by decide))
       have e1:=p2_ hF.out (hw 1 (by decide))
       have e2:=p3_ hF.out (hw 2 (by decide))
       have e3:=p4_ hF.out (hw 3 (by decide))
       have e4:=p5_ hF.out (hw 4 (by decide))
       have e5:=p6_ hF.out (hw 5 (by decide))
       have e6:=p7_ hF.out (hw 6 (by decide))
       have e7:=p8_ hF.out (hw 7 (by decide))
       have e8:=p9_ hF.out (hw 8 (by decide))
       have e9:=p10_ hF.out (hw 9 (by decide))
       have e10:=p11_ hF.out (hw 10 (by decide))
       have e11:=p12_ hF.out (hw 11 (by decide))
       have e12:=p13_ hF.out (hw 12 (by decide))
       have e13:=p14_ hF.out (hw 13 (by decide))
       have e14:=p15_ hF.out (hw 14 (by decide))
       have e15:=p16_ hF.out (hw 15 (by decide))
       have e16:=p17_ hF.out (hw 16 (by decide))
       have e17:=p18_ hF.out (hw 17 (by decide))
       dsimp only
       go_simp
       exact hK.out (ups (ups (ups (ups (ups (ups (ups (ups (ups (ups (ups (ups (ups (ups (ups (ups (ups (ups (ups s 21 (.int .i64 i)) 22 (.int .i64 j)) 23 (.int .i64 (k:Int))) 24 (.int .i64 i)) 25 (.int .i64 j)) 26 (.int .i64 (k:Int))) 27 (.pointer (some ⟨Q,k,none⟩))) 28 (.int .u64 x)) 29 (.int .i64 j)) 30 (.pointer (some ⟨X,j,none⟩))) 31 (.int .u64 y)) 32 (.int .u64 bi)) 33 (.int .u64 ca)) 34 (.tuple #[.int .u64 z,.int .u64 cb])) 20 (.tuple #[.int .u64 z,.int .u64 cb])) 35 (.int .u64 z)) 36 (.int .u64 cb)) 37 (.pointer (some ⟨Q,k,none⟩))) 8 (.int .u64 cb)) b _ ⟨hB,(fun _=>rfl),(fun _=>rfl),(fun _=>rfl),(fun _=>rfl),(fun _=>rfl),(fun _=>rfl),(fun _=>rfl),(fun _=>rfl),(fun _=>rfl),(fun _=>rfl),(fun _=>rfl),(fun _=>rfl),(fun _=>rfl),(fun _=>rfl),(fun _=>rfl),(fun _=>rfl),(fun _=>rfl),(fun _=>rfl),k2_ hF.out.2.2.2.2.2.2.2.2.2.2.2.2.2.2.2.2.2.2.2 fun t=>⟨(fun _=>rfl),(fun h=>nomatch h),(fun _=>hw 12 (by decide)),t.2.2.2⟩⟩
      exact StepsF.nil
     intro d s b w1 hF hall
     replace hF:=Lib.hid hF
     have hB:Below E.heap.size E w1:=(p0_ hF.out)
     try dsimp only
     have e0:s 21 = .int .i64 i:=(p1_ hF.out) (hall 0 (by decide))
     have e1:s 22 = .int .i64 j:=(p2_ hF.out) (hall 1 (by decide))
     have e2:s 23 = .int .i64 (k:Int):=(p3_ hF.out) (hall 2 (by decide))
     have e3:s 24 = .int .i64 i:=(p4_ hF.out) (hall 3 (by decide))
     have e4:s 25 = .int .i64 j:=(p5_ hF.out) (hall 4 (by decide))
     have e5:s 26 = .int .i64 (k:Int):=(p6_ hF.out) (hall 5 (by decide))
     have e6:s 27 = .pointer (some ⟨Q,k,none⟩):=(p7_ hF.out) (hall 6 (by decide))
     have e7:s 28 = .int .u64 x:=(p8_ hF.out) (hall 7 (by decide))
     have e8:s 29 = .int .i64 j:=(p9_ hF.out) (hall 8 (by decide))
     have e9:s 30 = .pointer (some ⟨X,j,none⟩):=(p10_ hF.out) (hall 9 (by decide))
     have e10:s 31 = .int .u64 y:=(p11_ hF.out) (hall 10 (by decide))
     have e11:s 32 = .int .u64 bi:=(p12_ hF.out) (hall 11 (by decide))
     have e12:s 33 = .int .u64 ca:=(p13_ hF.out) (hall 12 (by decide))
     have e13:s 34 = .tuple #[.int .u64 z,.int .u64 cb]:=(p14_ hF.out) (hall 13 (by decide))
     have e14:s 20 = .tuple #[.int .u64 z,.int .u64 cb]:=(p15_ hF.out) (hall 14 (by decide))
     have e15:s 35 = .int .u64 z:=(p16_ hF.out) (hall 15 (by decide))
     have e16:s 36 = .int .u64 cb:=(p17_ hF.out) (hall 16 (by decide))
     have e17:s 37 = .pointer (some ⟨Q,k,none⟩):=(p18_ hF.out) (hall 17 (by decide))
     have f18:=(p20_ hF.out) (hall 18 (by decide))
     have e19:s 8 = .int .u64 cb:=(p21_ hF.out) (hall 19 (by decide))
     have ox:=(p25_ hF.out)
     have orr:=(q26_ hF.out)
     rw[e0,e1,e2,e3,e4,e5,e6,e7,e8,e9,e10,e11,e12,e13,e14,e15,e16,e17,e19]
     clear hall hF e0 e1 e2 e3 e4 e5 e6 e7 e8 e9 e10 e11 e12 e13 e14 e15 e16 e17 e19
     clear d s b
     have o0:=Lib.hid hB;have o1:=Lib.hid f18;have o2:=Lib.hid ox;have o3:=Lib.hid orr
     clear HX HQ HR HB hB f18 ox orr
     go_wp2_with (fail)
     go_roundw
     case rel=>(first | exact⟨j+1,by omega,by rw[ED.out],by go_num,o0,o2,by rw[← Nat.add_assoc,EK.out];exact o1,o3⟩ | ((repeat apply Exists.intro);exact⟨⟨j+1,by omega,by rw[ED.out],by go_num,o0,o2,by rw[← Nat.add_assoc,EK.out];exact o1,o3⟩,rfl⟩))
     case measure=>simp[intOf];omega
    ·have ejm:j=m:=by omega
     subst ejm
     have HQ2:Hid (Own Q (nums .u64 (limb (A*(B%2 ^ (64*(i+1))))) 4) wr):=Lib.hid (by have h:=HQ.out;rw[hm,mixL_all,HP.out] at h;exact h)
     clear HQ
     go_wp2_with (fail)
     go_roundw
     case rel=>(first | exact⟨i+1,by omega,by go_num,HB,HX,HQ2,HR⟩ | ((repeat apply Exists.intro);exact⟨⟨i+1,by omega,by go_num,HB,HX,HQ2,HR⟩,rfl⟩))
     case measure=>simp[intOf];omega
  ·have e4:i=4:=by omega
   subst e4
   rw[show B%2 ^ (64*4)=B from Nat.mod_eq_of_lt BB.out] at HQ
   go_upto_region 12 with fail
   have hB0:=HB.out
   refine wp_region_lit ?_
   refine wpList_load_mid rfl 214 _ rfl Q 0 rfl (nums .u64 (limb (A*B)) 4) _ HQ.out.cell Tryz.underlying214 rfl (by kernel_rfl) ?_
   refine wpList_store_mid rfl 214 _ _ rfl R 0 (nums .u64 (limb (A*B)) 4).toArray rfl rfl HR.out.free (by kernel_rfl) (nums_all _ _ _) ?_
   change wpList _ _ _ [] _ (wr.setCells R 0 (nums .u64 (limb (A*B)) 4))
   have HRn:Hid (Own R (nums .u64 (limb (A*B)) 4) (wr.setCells R 0 (nums .u64 (limb (A*B)) 4))):=Lib.hid (Own.store HR.out (by simp[nums_length]))
   have HQn:Hid (Own Q (nums .u64 (limb (A*B)) 4) (wr.setCells R 0 (nums .u64 (limb (A*B)) 4))):=Lib.hid (Own.far (o:=0) (vs:=(nums .u64 (limb (A*B)) 4)) HQ.out nQR)
   have hB0n:Below w.heap.size w (wr.setCells R 0 (nums .u64 (limb (A*B)) 4)):=Below.setCells hB0 Rw (nums .u64 (limb (A*B)) 4) 0
   clear HR HQ hB0
   generalize (wr.setCells R 0 (nums .u64 (limb (A*B)) 4))=wz at *
   have HR:=HRn
   clear HRn
   have HQ:=HQn
   clear HQn
   have hB0:=hB0n
   clear hB0n
   go_wp2_with (fail)
   have hL:=run_loadVar_mid (P:=Tryz.prog) _ R 0 214 (nums .u64 (limb (A*B)) 4) _ HR.out.cell Tryz.underlying214 rfl (by kernel_rfl)
   exact bodyPost_ret (v := .agg (nums .u64 (limb (A*B)) 4).toArray) (res_cell Tryz.results159 rfl hL) rfl ⟨rfl,hB0⟩
end Go.Proofs.YtbilamnnneddmaaGreatDoor
namespace Go.Proofs.YtbilamnnneddmaaGreatDoor
set_option linter.unusedVariables false
set_option maxRecDepth 2000
set_option linter.unusedSimpArgs false
open Go.RowKit
def PP:Nat:=1361129467683753853853498429727072845819
def TT:Nat:=1361129467683753853853498429727072845824
theorem and3 (x:Int) (h:inU x):bits .and .u64 x 3=x%4:=by
 obtain⟨a,rfl⟩:=Int.eq_ofNat_of_zero_le h.1
 have:=h.2
 rw[show (3:Int)=((3:Nat):Int) from rfl,u64_and_nat a 3 (by omega) (by decide),show (3:Nat)=2 ^ 2 - 1 from rfl,Nat.and_two_pow_sub_one_eq_mod]
 omega
theorem or62 (x y:Int) (hx:inU x) (hy:inU y):bits .or .u64 (x/4) (y*4611686018427387904%18446744073709551616)=x/4+y%4*4611686018427387904:=by
 obtain⟨a,rfl⟩:=Int.eq_ofNat_of_zero_le hx.1
 obtain⟨b,rfl⟩:=Int.eq_ofNat_of_zero_le hy.1
 have h1:=hx.2;have h2:=hy.2
 have e1:(a:Int)/4=((a/4:Nat):Int):=by omega
 have e2:(b:Int)*4611686018427387904%18446744073709551616=((2 ^ 62*(b%4):Nat):Int):=by omega
 rw[e1,e2,u64_or_nat _ _ (by omega) (by omega),Nat.or_comm,← Nat.two_pow_add_eq_or_of_lt (i:=62) (by omega)]
 omega
theorem limb_parts (N:Nat) (h:N<2 ^ 256):∃ n0 n1 n2 n3:Nat,n0<18446744073709551616∧n1<18446744073709551616∧n2<18446744073709551616∧n3<18446744073709551616∧N=n0+18446744073709551616*n1+340282366920938463463374607431768211456*n2+6277101735386680763835789423207666416102355444464034512896*n3 ∧
  limb N 0=n0∧limb N 1=n1∧limb N 2=n2∧limb N 3=n3:=by
 refine⟨N/2 ^ (64*0)%18446744073709551616,N/2 ^ (64*1)%18446744073709551616,N/2 ^ (64*2)%18446744073709551616,N/2 ^ (64*3)%18446744073709551616,by omega,by omega,by omega,by omega,?_,rfl,rfl,rfl,rfl⟩
 simp only[Nat.reduceMul,Nat.reducePow] at *
 omega
theorem nums4 (f:Nat→Int):nums .u64 f 4=[.int .u64 (f 0),.int .u64 (f 1),.int .u64 (f 2),.int .u64 (f 3)]:=rfl
theorem limb_small (x i:Nat) (h:x<18446744073709551616):limb x i=if i=0 then (x:Int) else 0:=by
 unfold limb
 by_cases e:i=0
 ·subst e;rw[if_pos rfl];simp only[Nat.mul_zero,Nat.pow_zero,Nat.div_one];omega
 ·rw[if_neg e]
  obtain⟨j,rfl⟩:∃ j,i=j+1:=⟨i - 1,by omega⟩
  rw[pw64,Nat.div_eq_of_lt]
  ·rfl
  ·have:1≤2 ^ (64*j):=Nat.two_pow_pos _
   have:=Nat.mul_le_mul_right 18446744073709551616 this
   omega
theorem nums_small (x:Nat) (h:x<18446744073709551616):(nums .u64 (limb x) 4).toArray=#[.int .u64 (x:Int),.int .u64 0,.int .u64 0,.int .u64 0]:=by
 rw[nums4,limb_small x 0 h,limb_small x 1 h,limb_small x 2 h,limb_small x 3 h];rfl
theorem low_high (N:Nat) (h:N<2 ^ 256):∃ a b c d:Int,inU a∧inU b∧inU c∧inU d∧nums .u64 (limb N) 4=[.int .u64 a,.int .u64 b,.int .u64 c,.int .u64 d] ∧
  nums .u64 (limb (N%TT)) 4=[.int .u64 a,.int .u64 b,.int .u64 (c%4),.int .u64 0]∧nums .u64 (limb (N/TT)) 4=[.int .u64 (c/4+d%4*4611686018427387904),.int .u64 (d/4),.int .u64 0,.int .u64 0]:=by
 obtain⟨n0,n1,n2,n3,b0,b1,b2,b3,e,l0,l1,l2,l3⟩:=limb_parts N h
 refine⟨n0,n1,n2,n3,by unfold inU;omega,by unfold inU;omega,by unfold inU;omega,by unfold inU;omega,?_,?_,?_⟩
 ·rw[nums4,l0,l1,l2,l3]
 ·have e1:N%TT=n0+18446744073709551616*n1+340282366920938463463374607431768211456*(n2%4):=by unfold TT;omega
  rw[nums4,e1]
  congr 1
  ·congr 1;unfold limb;simp only[Nat.reduceMul,Nat.reducePow];omega
  ·congr 1
   ·congr 1;unfold limb;simp only[Nat.reduceMul,Nat.reducePow];omega
   ·congr 1
    ·congr 1;unfold limb;simp only[Nat.reduceMul,Nat.reducePow];omega
    ·congr 1;congr 1;unfold limb;simp only[Nat.reduceMul,Nat.reducePow];omega
 ·have e1:N/TT=n2/4+n3%4*4611686018427387904+18446744073709551616*(n3/4):=by unfold TT;omega
  rw[nums4,e1]
  congr 1
  ·congr 1;unfold limb;simp only[Nat.reduceMul,Nat.reducePow];omega
  ·congr 1
   ·congr 1;unfold limb;simp only[Nat.reduceMul,Nat.reducePow];omega
   ·congr 1
    ·congr 1;unfold limb;simp only[Nat.reduceMul,Nat.reducePow];omega
    ·congr 1;congr 1;unfold limb;simp only[Nat.reduceMul,Nat.reducePow];omega
attribute [local go_sem] nums_length
set_option maxHeartbeats 8000000 in
theorem fold_any (N:Nat) (hN:N<2 ^ 256) (w:World) :
  Calls Tryz.prog 181 #[(.agg (nums .u64 (limb N) 4).toArray)] w fun e w'=>e = .returned (.agg (nums .u64 (limb (N%TT+N/TT*5)) 4).toArray)∧Below w.heap.size w w':=by
 have TM:=Lib.hid (fun w=>times_any (N/TT) 5 (by decide) w)
 rw[nums_small 5 (by decide)] at TM
 have PL:=Lib.hid (fun w=>plus_any (N%TT) (N/TT*5) w)
 obtain⟨a0,a1,a2,a3,h0,h1,h2,h3,e,el,eh⟩:=low_high N hN
 have A3:=and3 a2 h2
 have O6:=or62 a2 a3 h2 h3
 have O7:bits .or .u64 (a2/4) (IntKind.u64.wrap (a3*4611686018427387904))=a2/4+a3%4*4611686018427387904:=by rw[IntKind.wrap_u64];exact O6
 rw[el] at PL;rw[eh] at TM;rw[e]
 have EH:=Lib.hid eh
 unfold inU at h0 h1 h2 h3
 clear hN e el eh
 obtain⟨b0,f0⟩:∃ z,a2/4+a3%4*4611686018427387904=z:=⟨_,rfl⟩
 obtain⟨b1,f1⟩:∃ z,a3/4=z:=⟨_,rfl⟩
 obtain⟨b2,f2⟩:∃ z,a2%4=z:=⟨_,rfl⟩
 rw[f0] at O6 O7 TM;rw[f1] at TM;rw[f2] at PL A3
 clear f0 f2 EH
 generalize N%TT+N/TT*5=M at *
 generalize N/TT*5=Q_ at *
 go_enter Tryz.func181,Tryz.ntmps181
 go_wp2_with (fail)
 obtain⟨W0,hW⟩:∃ W0,W0=((((w.alloc (.cells #[.int .u64 a0,.int .u64 a1,.int .u64 a2,.int .u64 a3] 214)).alloc (.cells #[.int .u64 0,.int .u64 0,.int .u64 0,.int .u64 0] 214)).alloc (.cells #[.int .u64 a0,.int .u64 a1,.int .u64 b2,.int .u64 0] 214)).alloc (.cells #[.int .u64 b0,.int .u64 b1,.int .u64 0,.int .u64 0] 214)):=⟨_,rfl⟩
 have hB0:Below w.heap.size w W0:=hW ▸ (Below.al (Below.al (Below.al (Below.al (Below.refl _ _)))))
 have HX:Hid (Own w.heap.size ([.int .u64 a0,.int .u64 a1,.int .u64 a2,.int .u64 a3]) W0):=Lib.hid (hW ▸ (show Own w.heap.size ([.int .u64 a0,.int .u64 a1,.int .u64 a2,.int .u64 a3]) (w.alloc (.cells #[.int .u64 a0,.int .u64 a1,.int .u64 a2,.int .u64 a3] 214)) from Own.newAt (by simp)).alloc.alloc.alloc)
 have HR:Hid (Own (w.heap.size+1) ([.int .u64 0,.int .u64 0,.int .u64 0,.int .u64 0]) W0):=Lib.hid (hW ▸ (show Own (w.heap.size+1) ([.int .u64 0,.int .u64 0,.int .u64 0,.int .u64 0]) ((w.alloc (.cells #[.int .u64 a0,.int .u64 a1,.int .u64 a2,.int .u64 a3] 214)).alloc (.cells #[.int .u64 0,.int .u64 0,.int .u64 0,.int .u64 0] 214)) from Own.newAt (by simp)).alloc.alloc)
 have HL:Hid (Own ((w.heap.size+1)+1) ([.int .u64 a0,.int .u64 a1,.int .u64 b2,.int .u64 0]) W0):=Lib.hid (hW ▸ (show Own ((w.heap.size+1)+1) ([.int .u64 a0,.int .u64 a1,.int .u64 b2,.int .u64 0]) (((w.alloc (.cells #[.int .u64 a0,.int .u64 a1,.int .u64 a2,.int .u64 a3] 214)).alloc (.cells #[.int .u64 0,.int .u64 0,.int .u64 0,.int .u64 0] 214)).alloc (.cells #[.int .u64 a0,.int .u64 a1,.int .u64 b2,.int .u64 0] 214)) from Own.newAt (by simp)).alloc)
 have HH:Hid (Own (((w.heap.size+1)+1)+1) ([.int .u64 b0,.int .u64 b1,.int .u64 0,.int .u64 0]) W0):=Lib.hid (hW ▸ (show Own (((w.heap.size+1)+1)+1) ([.int .u64 b0,.int .u64 b1,.int .u64 0,.int .u64 0]) ((((w.alloc (.cells #[.int .u64 a0,.int .u64 a1,.int .u64 a2,.int .u64 a3] 214)).alloc (.cells #[.int .u64 0,.int .u64 0,.int .u64 0,.int .u64 0] 214)).alloc (.cells #[.int .u64 a0,.int .u64 a1,.int .u64 b2,.int .u64 0] 214)).alloc (.cells #[.int .u64 b0,.int .u64 b1,.int .u64 0,.int .u64 0] 214)) from Own.newAt (by simp)))
 rw[← hW]
 clear hW
 obtain⟨Hi,eHi⟩:∃ X,X=(((w.heap.size+1)+1)+1):=⟨_,rfl⟩
 rw[← eHi] at HH ⊢
 have Hiw:w.heap.size≤Hi:=by omega
 obtain⟨Lo,eLo⟩:∃ X,X=((w.heap.size+1)+1):=⟨_,rfl⟩
 rw[← eLo] at HL ⊢
 have Low:w.heap.size≤Lo:=by omega
 obtain⟨R,eR⟩:∃ X,X=(w.heap.size+1):=⟨_,rfl⟩
 rw[← eR] at HR ⊢
 have Rw:w.heap.size≤R:=by omega
 obtain⟨X,eX⟩:∃ X,X=w.heap.size:=⟨_,rfl⟩
 rw[← eX] at HX ⊢
 have Xw:w.heap.size≤X:=by omega
 have nXR:X≠R:=by omega
 have nRX:R≠X:=by omega
 have nXLo:X≠Lo:=by omega
 have nLoX:Lo≠X:=by omega
 have nXHi:X≠Hi:=by omega
 have nHiX:Hi≠X:=by omega
 have nRLo:R≠Lo:=by omega
 have nLoR:Lo≠R:=by omega
 have nRHi:R≠Hi:=by omega
 have nHiR:Hi≠R:=by omega
 have nLoHi:Lo≠Hi:=by omega
 have nHiLo:Hi≠Lo:=by omega
 clear eX eR eLo eHi
 clear HX
 refine wp_region_fun 6 (by kernel_rfl) (by kernel_rfl) rfl (fun s b=>⟨#[.agg #[.int .u64 a0,.int .u64 a1,.int .u64 a2,.int .u64 a3],.pointer (some ⟨X,0,none⟩),.pointer (some ⟨R,0,none⟩),.pointer (some ⟨Lo,0,none⟩),.pointer (some ⟨Hi,0,none⟩),.pointer (some ⟨X,0,none⟩),.int .u64 a0,.pointer (some ⟨X,1,none⟩),.int .u64 a1,.pointer (some ⟨X,2,none⟩),.int .u64 a2,.int .u64 b2,.agg #[.int .u64 a0,.int .u64 a1,.int .u64 b2,.int .u64 0],.pointer (some ⟨X,2,none⟩),.int .u64 a2,.int .u64 (a2/4),.pointer (some ⟨X,3,none⟩),.int .u64 a3,.int .u64 (IntKind.u64.wrap (a3*4611686018427387904)),.int .u64 b0,.pointer (some ⟨X,3,none⟩),.int .u64 a3,.int .u64 b1,.agg #[.int .u64 b0,.int .u64 b1,.int .u64 0,.int .u64 0],s 24,s 25,s 26,s 27,s 28],[]⟩) (fun d s b w=>(d 5=false→Below W0.heap.size W0 w)∧(d 0=true→s 24 = .agg #[.int .u64 a0,.int .u64 a1,.int .u64 b2,.int .u64 0])∧(d 1=true→s 25 = .agg #[.int .u64 b0,.int .u64 b1,.int .u64 0,.int .u64 0])∧(d 2=true→s 26 = .agg #[.int .u64 ((5:Nat):Int),.int .u64 0,.int .u64 0,.int .u64 0])∧(d 3=true→s 27=(.agg (nums .u64 (limb Q_) 4).toArray))∧(d 4=true→s 28=(.agg (nums .u64 (limb M) 4).toArray))∧(d 5=true→∀ j,j<5→d j=true)∧(d 5=true→∃ w2,Below W0.heap.size W0 w2∧w=w2.setCells R 0 (nums .u64 (limb M) 4))) rfl ?h0y1 (?sty1:StepsF _ _ _ _ 6 _ _ [0,1,2,3,4,5]) ?dny1
 case h0y1=>exact⟨fun _=>Below.drew (Below.refl _ _),by repeat (first | exact nf_ | refine⟨nf_,?_⟩)⟩
 case sty1 =>
  refine sc_ rfl [] (fun d s b w hF hd hw K_ hK=>?_) ?_
  ·have hk:=nd_ (p6_ hF.out) hd
   have hB:Below W0.heap.size W0 w:=(p0_ hF.out) hk
   dsimp only
   have oq:=HL.out.later hB
   have q0:=oq.at 0 _ rfl
   have q1:=oq.at 1 _ rfl
   have q2:=oq.at 2 _ rfl
   have q3:=oq.at 3 _ rfl
   go_simp
   exact hK.out (ups s 24 (.agg #[.int .u64 a0,.int .u64 a1,.int .u64 b2,.int .u64 0])) b _ ⟨(fun _=>hB),(fun _=>rfl),k4_ hF.out.2.2 fun t=>⟨(fun h=>ab_ (p6_ hF.out h) hd),(fun h=>ab_ (p6_ hF.out h) hd)⟩⟩
  refine sc_ rfl [] (fun d s b w hF hd hw K_ hK=>?_) ?_
  ·have hk:=nd_ (p6_ hF.out) hd
   have hB:Below W0.heap.size W0 w:=(p0_ hF.out) hk
   dsimp only
   have oq:=HH.out.later hB
   have q0:=oq.at 0 _ rfl
   have q1:=oq.at 1 _ rfl
   have q2:=oq.at 2 _ rfl
   have q3:=oq.at 3 _ rfl
   go_simp
   exact hK.out (ups s 25 (.agg #[.int .u64 b0,.int .u64 b1,.int .u64 0,.int .u64 0])) b _ ⟨(fun _=>hB),(p1_ hF.out),(fun _=>rfl),k3_ hF.out.2.2.2 fun t=>⟨(fun h=>ab_ (p6_ hF.out h) hd),(fun h=>ab_ (p6_ hF.out h) hd)⟩⟩
  refine sc_ rfl [] (fun d s b w hF hd hw K_ hK=>?_) ?_
  ·have hk:=nd_ (p6_ hF.out) hd
   have hB:Below W0.heap.size W0 w:=(p0_ hF.out) hk
   dsimp only
   go_simp
   exact hK.out (ups s 26 (.agg #[.int .u64 ((5:Nat):Int),.int .u64 0,.int .u64 0,.int .u64 0])) b _ ⟨(fun _=>hB),k2_ hF.out.2 fun t=>⟨(fun _=>rfl),k2_ t.2 fun t=>⟨(fun h=>ab_ (p6_ hF.out h) hd),(fun h=>ab_ (p6_ hF.out h) hd)⟩⟩⟩
  refine sc_ rfl [1,2] (fun d s b w hF hd hw K_ hK=>?_) ?_
  ·have hk:=nd_ (p6_ hF.out) hd
   have hB:Below W0.heap.size W0 w:=(p0_ hF.out) hk
   have e1:=p2_ hF.out (hw 1 (by decide))
   have e2:=p3_ hF.out (hw 2 (by decide))
   dsimp only
   go_simp
   go_at_call 159
   refine (TM.out _).mono ?_
   rintro e w1 ⟨rfl,hb⟩
   exact hK.out (ups (ups (ups s 25 (.agg #[.int .u64 b0,.int .u64 b1,.int .u64 0,.int .u64 0])) 26 (.agg #[.int .u64 ((5:Nat):Int),.int .u64 0,.int .u64 0,.int .u64 0])) 27 ((.agg (nums .u64 (limb Q_) 4).toArray))) b _ ⟨(fun _=>(Below.go hB hb)),(p1_ hF.out),(fun _=>rfl),(fun _=>rfl),(fun _=>rfl),(p5_ hF.out),(fun h=>ab_ (p6_ hF.out h) hd),(fun h=>ab_ (p6_ hF.out h) hd)⟩
  refine sc_ rfl [0,3,3] (fun d s b w hF hd hw K_ hK=>?_) ?_
  ·have hk:=nd_ (p6_ hF.out) hd
   have hB:Below W0.heap.size W0 w:=(p0_ hF.out) hk
   have e0:=p1_ hF.out (hw 0 (by decide))
   have e3:=p4_ hF.out (hw 3 (by decide))
   dsimp only
   go_simp
   go_at_call 160
   refine (PL.out _).mono ?_
   rintro e w1 ⟨rfl,hb⟩
   exact hK.out (ups (ups (ups s 24 (.agg #[.int .u64 a0,.int .u64 a1,.int .u64 b2,.int .u64 0])) 27 ((.agg (nums .u64 (limb Q_) 4).toArray))) 28 ((.agg (nums .u64 (limb M) 4).toArray))) b _ ⟨(fun _=>(Below.go hB hb)),(fun _=>rfl),k2_ hF.out.2.2 fun t=>⟨(fun _=>rfl),(fun _=>rfl),(fun h=>ab_ (p6_ hF.out h) hd),(fun h=>ab_ (p6_ hF.out h) hd)⟩⟩
  refine sc_ rfl [4,4,0,1,2,3,4] (fun d s b w hF hd hw K_ hK=>?_) ?_
  ·have hB:Below W0.heap.size W0 w:=(p0_ hF.out) hd
   have e0:=p1_ hF.out (hw 0 (by decide))
   have e1:=p2_ hF.out (hw 1 (by decide))
   have e2:=p3_ hF.out (hw 2 (by decide))
   have e3:=p4_ hF.out (hw 3 (by decide))
   have e4:=p5_ hF.out (hw 4 (by decide))
   dsimp only
   have oz:=HR.out.later hB
   have hst:=store_nums (P:=Tryz.prog) (n:=4) .u64 (limb M) oz rfl
   have oX:=HR.out.later hB
   clear oX
   go_simp
   exact hK.out (ups (ups (ups (ups (ups s 24 (.agg #[.int .u64 a0,.int .u64 a1,.int .u64 b2,.int .u64 0])) 25 (.agg #[.int .u64 b0,.int .u64 b1,.int .u64 0,.int .u64 0])) 26 (.agg #[.int .u64 ((5:Nat):Int),.int .u64 0,.int .u64 0,.int .u64 0])) 27 ((.agg (nums .u64 (limb Q_) 4).toArray))) 28 ((.agg (nums .u64 (limb M) 4).toArray))) b _ ⟨(fun h=>nomatch h),(fun _=>rfl),(fun _=>rfl),(fun _=>rfl),(fun _=>rfl),(fun _=>rfl),(fun _ j hj=>by have hj2:=hw j (by simp;omega);simp[upd,hj2]),(fun _=>⟨w,hB,rfl⟩)⟩
  exact StepsF.nil
 intro d s b y1 hF hall
 replace hF:=Lib.hid hF
 obtain⟨y1,hB,rfl⟩:=(q7_ hF.out) (hall 5 (by decide))
 try dsimp only
 have e0:s 24 = .agg #[.int .u64 a0,.int .u64 a1,.int .u64 b2,.int .u64 0]:=(p1_ hF.out) (hall 0 (by decide))
 have e1:s 25 = .agg #[.int .u64 b0,.int .u64 b1,.int .u64 0,.int .u64 0]:=(p2_ hF.out) (hall 1 (by decide))
 have e2:s 26 = .agg #[.int .u64 ((5:Nat):Int),.int .u64 0,.int .u64 0,.int .u64 0]:=(p3_ hF.out) (hall 2 (by decide))
 have e3:s 27=(.agg (nums .u64 (limb Q_) 4).toArray):=(p4_ hF.out) (hall 3 (by decide))
 have e4:s 28=(.agg (nums .u64 (limb M) 4).toArray):=(p5_ hF.out) (hall 4 (by decide))
 rw[e0,e1,e2,e3,e4]
 clear hall hF e0 e1 e2 e3 e4
 clear d s b
 have HR1:=Lib.hid (Own.store (vs:=nums .u64 (limb M) 4) (HR.out.later hB) rfl)
 have hB1:=Below.setCells (Below.go hB0 hB) Rw (nums .u64 (limb M) 4) 0
 go_wp2_with (fail)
 have hL:=run_loadVar_mid (P:=Tryz.prog) _ R 0 214 (nums .u64 (limb M) 4) _ HR1.out.cell Tryz.underlying214 rfl (by kernel_rfl)
 exact bodyPost_ret (v := .agg (nums .u64 (limb M) 4).toArray) (res_cell Tryz.results181 rfl hL) rfl ⟨rfl,hB1⟩
theorem fold_arith (N:Nat) (h:N<2 ^ 255):N%TT+N/TT*5<1701411834604692317316873037158841057280∧(N%TT+N/TT*5)%PP=N%PP:=by
 have e:=Nat.div_add_mod N TT
 constructor
 ·unfold TT at *;omega
 ·have:N=N%TT+N/TT*5+N/TT*PP:=by unfold PP;unfold TT at *;omega
  conv=>rhs;rw[this,Nat.add_mul_mod_self_right]
theorem over_arith (F:Nat) (h:F<1701411834604692317316873037158841057280):limb (F+5) 2/4=(((F+5)/TT:Nat):Int)∧(F+5)/TT≤1∧(F+5*((F+5)/TT))%TT=F%PP:=by
 refine⟨?_,?_,?_⟩
 ·unfold limb TT;simp only[Nat.reduceMul,Nat.reducePow];omega
 ·unfold TT;omega
 ·have:(F+5)/TT=0∨(F+5)/TT=1:=by unfold TT;omega
  rcases this with e | e
  ·rw[e];unfold TT at e;unfold TT PP;omega
  ·rw[e];unfold TT at e;unfold TT PP;omega
theorem strike (G:Nat) (h:G<2722258935367507707706996859454145691648):nums .u64 (at1 (limb G) 2 (limb G 2%4)) 4=nums .u64 (limb (G%TT)) 4:=nums_congr _ fun i hi=>by
 have hi':i=0∨i=1∨i=2∨i=3:=by omega
 unfold at1 limb TT
 rcases hi' with rfl | rfl | rfl | rfl<;>simp only[Nat.reduceMul,Nat.reducePow,Nat.reduceEqDiff,if_false,if_true,reduceIte]<;>omega
set_option maxHeartbeats 8000000 in
theorem rest_any (N:Nat) (hN:N<2 ^ 255) (w:World) :
  Calls Tryz.prog 158 #[(.agg (nums .u64 (limb N) 4).toArray)] w fun e w'=>e = .returned (.agg (nums .u64 (limb (N%PP)) 4).toArray)∧Below w.heap.size w w':=by
 have FO:=Lib.hid (fun w=>fold_any N (by omega) w)
 obtain⟨f1,f2⟩:=fold_arith N hN
 obtain⟨F,eF⟩:∃ F,N%TT+N/TT*5=F:=⟨_,rfl⟩
 rw[eF] at f1 f2 FO
 obtain⟨g1,g2,g3⟩:=over_arith F f1
 have P5:=Lib.hid (fun w=>plus_any F 5 w)
 rw[nums_small 5 (by decide)] at P5
 obtain⟨c,ec⟩:∃ c,(F+5)/TT=c:=⟨_,rfl⟩
 rw[ec] at g1 g2 g3
 have PC:=Lib.hid (fun w=>plus_any F (5*c) w)
 rw[nums_small (5*c) (by omega)] at PC
 have IX:∀ w,(Instr.index 214 (.agg (nums .u64 (limb (F+5)) 4).toArray) (.int .i64 2)).run Tryz.prog w = .ok (.int .u64 (limb (F+5) 2)) w:=index_num (limb (F+5)) 2 (by decide)
 have S1:=strike (F+5*c) (by omega)
 rw[g3,f2] at S1
 have IG:=in_limb (F+5*c) 2
 have A3:=and3 _ IG
 generalize F+5*c=G at *
 obtain⟨x,ex⟩:∃ x,limb (F+5) 2=x:=⟨_,rfl⟩
 rw[ex] at IX g1
 have e5:((5*c:Nat):Int)=5*(c:Int):=by omega
 rw[e5] at PC
 have w5:IntKind.u64.wrap (5*(c:Int))=5*(c:Int):=by rw[IntKind.wrap_u64];omega
 generalize F+5=F5 at *
 generalize N%PP=M at *
 have S2:=Lib.hid S1
 clear eF f1 f2 g2 g3 ec S1 hN e5 IG ex
 go_enter Tryz.func158,Tryz.ntmps158
 go_upto_region 1 with fail
 obtain⟨W0,hW⟩:∃ W0,W0=((w.alloc (.cells (nums .u64 (limb N) 4).toArray 214)).alloc (.cells #[.int .u64 0,.int .u64 0,.int .u64 0,.int .u64 0] 214)):=⟨_,rfl⟩
 have hB0:Below w.heap.size w W0:=hW ▸ (Below.al (Below.al (Below.refl _ _)))
 have HX:Hid (Own w.heap.size (nums .u64 (limb N) 4) W0):=Lib.hid (hW ▸ (show Own w.heap.size (nums .u64 (limb N) 4) (w.alloc (.cells (nums .u64 (limb N) 4).toArray 214)) from Own.newAt (by simp)).alloc)
 have HR:Hid (Own (w.heap.size+1) (nums .u64 (fun _=>0) 4) W0):=Lib.hid (hW ▸ (show Own (w.heap.size+1) (nums .u64 (fun _=>0) 4) ((w.alloc (.cells (nums .u64 (limb N) 4).toArray 214)).alloc (.cells #[.int .u64 0,.int .u64 0,.int .u64 0,.int .u64 0] 214)) from Own.newAt (by simp)))
 rw[← hW]
 clear hW
 obtain⟨R,eR⟩:∃ X,X=(w.heap.size+1):=⟨_,rfl⟩
 rw[← eR] at HR ⊢
 have Rw:w.heap.size≤R:=by omega
 obtain⟨X,eX⟩:∃ X,X=w.heap.size:=⟨_,rfl⟩
 rw[← eX] at HX ⊢
 have Xw:w.heap.size≤X:=by omega
 have nXR:X≠R:=by omega
 have nRX:R≠X:=by omega
 clear eX eR
 refine wp_region_lit ?_
 refine wpList_load_mid rfl 214 _ rfl X 0 rfl (nums .u64 (limb N) 4) _ HX.out.cell Tryz.underlying214 rfl (by kernel_rfl) ?_
 go_wp2_with (fail)
 go_at_call 181
 refine (FO.out _).mono ?_
 rintro e w1 ⟨rfl,hb⟩
 have HXk:=Lib.hid (HX.out.later hb)
 have HRk:=Lib.hid (HR.out.later hb)
 clear HX HR
 have HX:=HXk
 clear HXk
 have HR:=HRk
 clear HRk
 have hBn:=Below.go hB0 hb
 clear hB0 hb
 have hB0:=hBn
 clear hBn
 have hst:=store_nums (P:=Tryz.prog) (n:=4) .u64 (limb F) HX.out rfl
 go_upto_region 2 with fail
 have HXn:Hid (Own X (nums .u64 (limb F) 4) (w1.setCells X 0 (nums .u64 (limb F) 4))):=Lib.hid (Own.store HX.out rfl)
 have HRn:Hid (Own R (nums .u64 (fun _=>0) 4) (w1.setCells X 0 (nums .u64 (limb F) 4))):=Lib.hid (Own.far (o:=0) (vs:=(nums .u64 (limb F) 4)) HR.out nRX)
 have hB0n:Below w.heap.size w (w1.setCells X 0 (nums .u64 (limb F) 4)):=Below.setCells hB0 Xw (nums .u64 (limb F) 4) 0
 clear HX HR hB0
 generalize (w1.setCells X 0 (nums .u64 (limb F) 4))=w2 at *
 have HX:=HXn
 clear HXn
 have HR:=HRn
 clear HRn
 have hB0:=hB0n
 clear hB0n
 clear hst
 refine wp_region_lit ?_
 refine wpList_load_mid rfl 214 _ rfl X 0 rfl (nums .u64 (limb F) 4) _ HX.out.cell Tryz.underlying214 rfl (by kernel_rfl) ?_
 go_wp2_with (fail)
 go_at_call 160
 refine (P5.out _).mono ?_
 rintro e w3 ⟨rfl,hb⟩
 have HXk:=Lib.hid (HX.out.later hb)
 have HRk:=Lib.hid (HR.out.later hb)
 clear HX HR
 have HX:=HXk
 clear HXk
 have HR:=HRk
 clear HRk
 have hBn:=Below.go hB0 hb
 clear hB0 hb
 have hB0:=hBn
 clear hBn
 go_upto_region 3 with fail
 refine wp_region_lit ?_
 refine wpList_load_mid rfl 214 _ rfl X 0 rfl (nums .u64 (limb F) 4) _ HX.out.cell Tryz.underlying214 rfl (by kernel_rfl) ?_
 go_wp2_with (fail)
 go_at_call 160
 refine (PC.out _).mono ?_
 rintro e w4 ⟨rfl,hb⟩
 have HXk:=Lib.hid (HX.out.later hb)
 have HRk:=Lib.hid (HR.out.later hb)
 clear HX HR
 have HX:=HXk
 clear HXk
 have HR:=HRk
 clear HRk
 have hBn:=Below.go hB0 hb
 clear hB0 hb
 have hB0:=hBn
 clear hBn
 have hst:=store_nums (P:=Tryz.prog) (n:=4) .u64 (limb G) HX.out rfl
 go_upto_region 4 with fail
 have HXn:Hid (Own X (nums .u64 (limb G) 4) (w4.setCells X 0 (nums .u64 (limb G) 4))):=Lib.hid (Own.store HX.out rfl)
 have HRn:Hid (Own R (nums .u64 (fun _=>0) 4) (w4.setCells X 0 (nums .u64 (limb G) 4))):=Lib.hid (Own.far (o:=0) (vs:=(nums .u64 (limb G) 4)) HR.out nRX)
 have hB0n:Below w.heap.size w (w4.setCells X 0 (nums .u64 (limb G) 4)):=Below.setCells hB0 Xw (nums .u64 (limb G) 4) 0
 clear HX HR hB0
 generalize (w4.setCells X 0 (nums .u64 (limb G) 4))=w5 at *
 have HX:=HXn
 clear HXn
 have HR:=HRn
 clear HRn
 have hB0:=hB0n
 clear hB0n
 clear hst
 have x2:=HX.out.at 2 _ (nums_at _ _ (by decide))
 have xf:=HX.out.ok 2 (by rw[nums_length];decide)
 have Xl:=HX.out.lt
 obtain⟨y,ey⟩:∃ y,limb G 2%4=y:=⟨_,rfl⟩
 rw[ey] at S2 A3
 have S3:=Lib.hid (S2.out ▸ own_set (i:=2) (v:=y) HX.out (by decide))
 have HRn:=Lib.hid (Own.far (o:=2) (vs:=[.int .u64 y]) HR.out nRX)
 have HB:=Lib.hid (Below.setCells hB0 Xw [.int .u64 y] 2)
 clear hB0 HX HR S2
 go_upto_region 5 with fail
 change Code.wp _ _ _ _ (w5.setCells X 2 [.int .u64 y])
 generalize w5.setCells X 2 [.int .u64 y]=wr at *
 go_upto_region 5 with fail
 have hB0:=HB.out
 refine wp_region_lit ?_
 refine wpList_load_mid rfl 214 _ rfl X 0 rfl (nums .u64 (limb M) 4) _ S3.out.cell Tryz.underlying214 rfl (by kernel_rfl) ?_
 refine wpList_store_mid rfl 214 _ _ rfl R 0 (nums .u64 (limb M) 4).toArray rfl rfl HRn.out.free (by kernel_rfl) (nums_all _ _ _) ?_
 change wpList _ _ _ [] _ (wr.setCells R 0 (nums .u64 (limb M) 4))
 have HRnn:Hid (Own R (nums .u64 (limb M) 4) (wr.setCells R 0 (nums .u64 (limb M) 4))):=Lib.hid (Own.store HRn.out (by simp[nums_length]))
 have S3n:Hid (Own X (nums .u64 (limb M) 4) (wr.setCells R 0 (nums .u64 (limb M) 4))):=Lib.hid (Own.far (o:=0) (vs:=(nums .u64 (limb M) 4)) S3.out nXR)
 have hB0n:Below w.heap.size w (wr.setCells R 0 (nums .u64 (limb M) 4)):=Below.setCells hB0 Rw (nums .u64 (limb M) 4) 0
 clear HRn S3 hB0
 generalize (wr.setCells R 0 (nums .u64 (limb M) 4))=wz at *
 have HRn:=HRnn
 clear HRnn
 have S3:=S3n
 clear S3n
 have hB0:=hB0n
 clear hB0n
 go_wp2_with (fail)
 have hL:=run_loadVar_mid (P:=Tryz.prog) _ R 0 214 (nums .u64 (limb M) 4) _ HRn.out.cell Tryz.underlying214 rfl (by kernel_rfl)
 exact bodyPost_ret (v := .agg (nums .u64 (limb M) 4).toArray) (res_cell Tryz.results158 rfl hL) rfl ⟨rfl,hB0⟩
end Go.Proofs.YtbilamnnneddmaaGreatDoor
namespace Go.Proofs.YtbilamnnneddmaaGreatDoor
set_option linter.unusedVariables false
set_option maxRecDepth 2000
set_option linter.unusedSimpArgs false
open Go.RowKit
def numB (f:Nat→Int):Nat→Nat
 | 0=>0
 | n+1=>numB f n+(f n).toNat*256 ^ n
theorem numB_lt (f:Nat→Int):∀ n,(∀ i,i<n→inB (f i))→numB f n<256 ^ n
 | 0,_=>by simp[numB]
 | n+1,h=>by
  have ih:=numB_lt f n fun i hi=>h i (by omega)
  have hb:=h n (by omega)
  unfold inB at hb
  have:(f n).toNat*256 ^ n≤255*256 ^ n:=Nat.mul_le_mul_right _ (by omega)
  rw[numB,Nat.pow_succ]
  omega
theorem pw256 (q r:Nat):256 ^ (8*q+r)=256 ^ r*2 ^ (64*q):=by
 rw[show (256:Nat)=2 ^ 8 from rfl,← Nat.pow_mul,← Nat.pow_mul,← Nat.pow_add];congr 1;omega
theorem pw256_lt {r:Nat} (h:r<8):256 ^ r≤72057594037927936:=by
 have:=Nat.pow_le_pow_right (n:=256) (by decide) (show r≤7 by omega)
 simpa using this
theorem next_byte (f:Nat→Int) (q r:Nat) (hr:r<8) (h:∀ i,i<8*q+r+1→inB (f i)) :
  bits .or .u64 (limb (numB f (8*q+r)) q) (f (8*q+r)*2 ^ (8*r)%18446744073709551616)=limb (numB f (8*q+r+1)) q ∧
  ∀ j,j≠q→limb (numB f (8*q+r)) j=limb (numB f (8*q+r+1)) j:=by
 have hl:=numB_lt f (8*q+r) fun i hi=>h i (by omega)
 have hl2:=numB_lt f (8*q+r+1) fun i hi=>h i (by omega)
 have hb:=h (8*q+r) (by omega)
 obtain⟨b,eb⟩:=Int.eq_ofNat_of_zero_le hb.1
 have hb2:=hb.2
 have e1:numB f (8*q+r+1)=numB f (8*q+r)+b*256 ^ r*2 ^ (64*q):=by
  rw[numB,eb,pw256,Int.toNat_natCast,Nat.mul_assoc]
 rw[eb] at hb2 ⊢
 have pr:=pw256_lt hr
 have p0:0<256 ^ r:=Nat.pow_pos (by decide)
 constructor
 ·rw[e1]
  unfold limb
  have hM:0<2 ^ (64*q):=Nat.two_pow_pos _
  rw[pw256] at hl
  rw[Nat.add_mul_div_right _ _ hM]
  have hd:numB f (8*q+r)/2 ^ (64*q)<256 ^ r:=Nat.div_lt_of_lt_mul (Nat.lt_of_lt_of_eq hl (Nat.mul_comm _ _))
  generalize numB f (8*q+r)/2 ^ (64*q)=d at *
  have e8:(2:Int) ^ (8*r)=((256 ^ r:Nat):Int):=by
   rw[Int.natCast_pow,Int.pow_mul];rfl
  have m1:b*256 ^ r≤255*256 ^ r:=Nat.mul_le_mul_right _ (by omega)
  have e2:(b:Int)*2 ^ (8*r)%18446744073709551616=((2 ^ (8*r)*b:Nat):Int):=by
   rw[e8,Nat.pow_mul,show (2:Nat) ^ 8=256 from rfl,← Int.natCast_mul,Nat.mul_comm (256 ^ r) b]
   omega
  have e3:2 ^ (8*r)=256 ^ r:=by rw[Nat.pow_mul]
  rw[e2,u64_or_nat _ _ (by omega) (by rw[e3,Nat.mul_comm];omega),Nat.mod_eq_of_lt (by omega),Nat.or_comm,← Nat.two_pow_add_eq_or_of_lt (i:=8*r) (by rw[e3];exact hd),e3,Nat.mul_comm,Nat.add_comm]
  omega
 ·intro j hj
  rw[e1]
  by_cases h1:j<q
  ·rw[limb_low _ _ _ _ h1]
  ·rw[← e1]
   have hz:∀ M,M<256 ^ (8*q+8)→limb M j=0:=by
    intro M hM
    unfold limb
    rw[show 8*q+8=8*(q+1)+0 by omega,pw256,Nat.pow_zero,Nat.one_mul] at hM
    have:2 ^ (64*(q+1))≤2 ^ (64*j):=Nat.pow_le_pow_right (by decide) (by omega)
    rw[Nat.div_eq_of_lt (by omega)];rfl
   rw[hz _ (Nat.lt_of_lt_of_le hl (Nat.pow_le_pow_right (by decide) (by omega))),hz _ (Nat.lt_of_lt_of_le hl2 (Nat.pow_le_pow_right (by decide) (by omega)))]
theorem next_nums (f:Nat→Int) (q r n:Nat) (v:Int) (hr:r<8) (h:∀ i,i<8*q+r+1→inB (f i)) (hv:v=limb (numB f (8*q+r+1)) q) :
  nums .u64 (at1 (limb (numB f (8*q+r))) q v) n=nums .u64 (limb (numB f (8*q+r+1))) n:=nums_congr _ fun j _=>by
 unfold at1
 by_cases e:j=q
 ·rw[if_pos e,e];exact hv
 ·rw[if_neg e];exact (next_byte f q r hr h).2 j e
theorem tdiv8 (q r:Nat) (h:r<8):((8*q+r:Nat):Int).tdiv 8=(q:Int):=by
 rw[Int.tdiv_eq_ediv_of_nonneg (by omega)];omega
theorem tmod8 (q r:Nat) (h:r<8):((8*q+r:Nat):Int).tmod 8=(r:Int):=by
 rw[Int.tmod_eq_emod_of_nonneg (by omega)];omega
attribute [local go_sem] nums_length
set_option maxHeartbeats 8000000 in
theorem numberOf_any (f:Nat→Int) (b off n c:Nat) (hf:∀ i,i<n→inB (f i)) (hn:n≤32) (w:World) (hb:Has b off (nums .u8 f n) w) :
  Calls Tryz.prog 156 #[.slice (some ⟨b,off,none⟩) n c] w fun e w'=>e = .returned (.agg (nums .u64 (limb (numB f n)) 4).toArray)∧Below w.heap.size w w':=by
 have FB:=Lib.hid hf
 have HN:=Lib.hid hn
 have HS0:=Lib.hid hb
 have bw:=hb.lt
 clear hf hb hn
 go_enter Tryz.func156,Tryz.ntmps156
 go_upto_region 2 with fail
 obtain⟨W0,hW⟩:∃ W0,W0=((w.alloc (.cells #[.int .u64 0,.int .u64 0,.int .u64 0,.int .u64 0] 214)).alloc (.cells #[.int .u64 0,.int .u64 0,.int .u64 0,.int .u64 0] 214)):=⟨_,rfl⟩
 have hB0:Below w.heap.size w W0:=hW ▸ (Below.al (Below.al (Below.refl _ _)))
 have HR:Hid (Own w.heap.size (nums .u64 (fun _=>0) 4) W0):=Lib.hid (hW ▸ (show Own w.heap.size (nums .u64 (fun _=>0) 4) (w.alloc (.cells #[.int .u64 0,.int .u64 0,.int .u64 0,.int .u64 0] 214)) from Own.newAt (by simp)).alloc)
 have HQ:Hid (Own (w.heap.size+1) (nums .u64 (fun _=>0) 4) W0):=Lib.hid (hW ▸ (show Own (w.heap.size+1) (nums .u64 (fun _=>0) 4) ((w.alloc (.cells #[.int .u64 0,.int .u64 0,.int .u64 0,.int .u64 0] 214)).alloc (.cells #[.int .u64 0,.int .u64 0,.int .u64 0,.int .u64 0] 214)) from Own.newAt (by simp)))
 rw[← hW]
 clear hW
 obtain⟨Q,eQ⟩:∃ X,X=(w.heap.size+1):=⟨_,rfl⟩
 rw[← eQ] at HQ ⊢
 have Qw:w.heap.size≤Q:=by omega
 obtain⟨R,eR⟩:∃ X,X=w.heap.size:=⟨_,rfl⟩
 rw[← eR] at HR ⊢
 have Rw:w.heap.size≤R:=by omega
 have nRQ:R≠Q:=by omega
 have nQR:Q≠R:=by omega
 clear eR eQ
 have HS:=Lib.hid (HS0.out.later hB0)
 have nbQ:b≠Q:=by omega
 clear bw
 clear HS0
 go_wp2_with (fail)
 go_loopw [8] (fun iv wr=>∃ (i:Nat),i≤n∧iv = .int .i64 i∧Hid (Below w.heap.size w wr)∧Hid (Has b off (nums .u8 f n) wr)∧Hid (Own Q (nums .u64 (limb (numB f i)) 4) wr)∧Hid (Own R (nums .u64 (fun _=>0) 4) wr)) (fun iv _=>(n - (intOf iv).toNat))
 case atStart=>exact⟨0,by omega,rfl,Lib.hid hB0,HS,Lib.hid (by rw[show nums .u64 (limb (numB f 0)) 4=nums .u64 (fun _=>0) 4 from nums_congr _ fun j _=>by simp[limb,numB]];exact HQ.out),HR⟩
 case round =>
  clear HS HQ HR hB0
  obtain⟨i,hi,rfl,HB,HS,HQ,HR⟩:=hrel
  by_cases hlt:i<n
  ·obtain⟨q,r,hr,rfl⟩:∃ q r,r<8∧i=8*q+r:=⟨i/8,i%8,by omega,by omega⟩
   have hq:q<4:=by have:=HN.out;omega
   have hd:=tdiv8 q r hr
   have hm:=tmod8 q r hr
   have w1:IntKind.i64.wrap (q:Int)=(q:Int):=IntWalk.i64_in _ (by omega)
   have w2:IntKind.i64.wrap (r:Int)=(r:Int):=IntWalk.i64_in _ (by omega)
   have w3:IntKind.i64.wrap ((r:Int)*8)=((8*r:Nat):Int):=by rw[IntWalk.i64_in _ (by omega)];omega
   have x0:=HS.out.at _ _ (nums_at .u8 f hlt)
   have Sl:=HS.out.lt
   have y0:=HQ.out.at q _ (nums_at _ _ hq)
   have yf:=HQ.out.ok q (by rw[nums_length];exact hq)
   have Ql:=HQ.out.lt
   have nb:=(next_byte f q r hr (fun i hi=>FB.out i (by omega))).1
   have ME:=Lib.hid (fun v hv=>next_nums f q r 4 v hr (fun i hi=>FB.out i (by omega)) hv)
   have ix:=FB.out (8*q+r) hlt
   obtain⟨x,ex⟩:∃ x,f (8*q+r)=x:=⟨_,rfl⟩
   obtain⟨y,ey⟩:∃ y,limb (numB f (8*q+r)) q=y:=⟨_,rfl⟩
   obtain⟨z,ez⟩:∃ z,limb (numB f (8*q+r+1)) q=z:=⟨_,rfl⟩
   rw[ex] at x0 nb ix;rw[ey] at y0 nb;rw[ez] at nb
   replace ME:=Lib.hid (ME.out z ez.symm)
   replace nb:bits .or .u64 y (IntKind.u64.wrap (x*2 ^ (8*(r:Int)).toNat))=z:=by rw[IntKind.wrap_u64,show (8*(r:Int)).toNat=8*r by omega];exact nb
   have wx:IntKind.u64.wrap x=x:=by unfold inB at ix;rw[IntKind.wrap_u64];omega
   obtain⟨i,ei⟩:∃ i,8*q+r=i:=⟨_,rfl⟩
   rw[ei] at hlt hd hm x0 HQ ME ⊢
   have i0:(0:Int)≤(i:Int):=by omega
   have i1:(i:Int)<(n:Int):=by omega
   have i63:(i:Int)+1≤9223372036854775807:=by have:=HN.out;omega
   have q0:(0:Int)≤(q:Int):=by omega
   have q4:(q:Int)<4:=by omega
   clear ex ey ez ei hi ix
   go_wp2_with (fail)
   refine wp_region_still_tail 12 (by kernel_rfl) (by kernel_rfl) ?_;simp only[List.take_succ_cons,List.take_zero,List.drop_succ_cons,List.drop_zero];change wpStill _ _ (World.drew _) (fun a1=>wpList _ _ _ _ a1 (World.drew _)) _ _;repeat still_step
   refine wpStill_nil ?_
   have o1:=Lib.hid (ME.out ▸ own_set (v:=z) HQ.out.drew hq)
   have o2:=Lib.hid (Has.far (c:=Q) (o:=q) (vs:=[.int .u64 z]) HS.out.drew nbQ)
   have o3:=Lib.hid (Own.far (c:=Q) (o:=q) (vs:=[.int .u64 z]) HR.out.drew nRQ)
   have o4:=Lib.hid (Below.setCells HB.out.drew Qw [.int .u64 z] q)
   clear HQ HS HR HB ME
   go_wp2_with (fail)
   go_roundw
   case rel=>(first | exact⟨i+1,by omega,by go_num,o4,o2,o1,o3⟩ | ((repeat apply Exists.intro);exact⟨⟨i+1,by omega,by go_num,o4,o2,o1,o3⟩,rfl⟩))
   case measure=>simp[intOf];omega
  ·have e4:i=n:=by omega
   subst e4
   go_upto_region 7 with fail
   have hB0:=HB.out
   refine wp_region_lit ?_
   refine wpList_load_mid rfl 214 _ rfl Q 0 rfl (nums .u64 (limb (numB f i)) 4) _ HQ.out.cell Tryz.underlying214 rfl (by kernel_rfl) ?_
   refine wpList_store_mid rfl 214 _ _ rfl R 0 (nums .u64 (limb (numB f i)) 4).toArray rfl rfl HR.out.free (by kernel_rfl) (nums_all _ _ _) ?_
   change wpList _ _ _ [] _ (wr.setCells R 0 (nums .u64 (limb (numB f i)) 4))
   have HRn:Hid (Own R (nums .u64 (limb (numB f i)) 4) (wr.setCells R 0 (nums .u64 (limb (numB f i)) 4))):=Lib.hid (Own.store HR.out (by simp[nums_length]))
   have HQn:Hid (Own Q (nums .u64 (limb (numB f i)) 4) (wr.setCells R 0 (nums .u64 (limb (numB f i)) 4))):=Lib.hid (Own.far (o:=0) (vs:=(nums .u64 (limb (numB f i)) 4)) HQ.out nQR)
   have hB0n:Below w.heap.size w (wr.setCells R 0 (nums .u64 (limb (numB f i)) 4)):=Below.setCells hB0 Rw (nums .u64 (limb (numB f i)) 4) 0
   clear HR HQ hB0
   generalize (wr.setCells R 0 (nums .u64 (limb (numB f i)) 4))=wz at *
   have HR:=HRn
   clear HRn
   have HQ:=HQn
   clear HQn
   have hB0:=hB0n
   clear hB0n
   go_wp2_with (fail)
   have hL:=run_loadVar_mid (P:=Tryz.prog) _ R 0 214 (nums .u64 (limb (numB f i)) 4) _ HR.out.cell Tryz.underlying214 rfl (by kernel_rfl)
   exact bodyPost_ret (v := .agg (nums .u64 (limb (numB f i)) 4).toArray) (res_cell Tryz.results156 rfl hL) rfl ⟨rfl,hB0⟩
def byt (N i:Nat):Int:=((N/256 ^ i%256:Nat):Int)
theorem in_byt (N i:Nat):inB (byt N i):=by unfold inB byt;omega
theorem limb_byt (N q r:Nat) (hr:r<8):limb N q/2 ^ (8*r)%256=byt N (8*q+r):=by
 unfold limb byt
 rw[pw256,Nat.mul_comm (256 ^ r) (2 ^ (64*q)),← Nat.div_div_eq_div_mul]
 generalize N/2 ^ (64*q)=d
 have e:(2:Int) ^ (8*r)=((256 ^ r:Nat):Int):=by rw[Int.natCast_pow,Int.pow_mul];rfl
 rw[e,← Int.natCast_ediv]
 have h:d%18446744073709551616/256 ^ r%256=d/256 ^ r%256:=by
  have e2:18446744073709551616=256 ^ r*(256*256 ^ (7 - r)):=by
   rw[← Nat.pow_succ',← Nat.pow_add];rw[show r+(7 - r+1)=8 by omega]
  rw[e2,Nat.mod_mul_right_div_self,Nat.mod_mul_right_mod]
 omega
set_option maxHeartbeats 8000000 in
theorem lowest_any (N:Nat) (w:World) :
  Calls Tryz.prog 161 #[(.agg (nums .u64 (limb N) 4).toArray)] w fun e w'=>e = .returned (.agg (nums .u8 (byt N) 16).toArray)∧Below w.heap.size w w':=by
 go_enter Tryz.func161,Tryz.ntmps161
 go_upto_region 2 with fail
 obtain⟨W0,hW⟩:∃ W0,W0=(((w.alloc (.cells (nums .u64 (limb N) 4).toArray 214)).alloc (.cells #[.int .u8 0,.int .u8 0,.int .u8 0,.int .u8 0,.int .u8 0,.int .u8 0,.int .u8 0,.int .u8 0,.int .u8 0,.int .u8 0,.int .u8 0,.int .u8 0,.int .u8 0,.int .u8 0,.int .u8 0,.int .u8 0] 101)).alloc (.cells #[.int .u8 0,.int .u8 0,.int .u8 0,.int .u8 0,.int .u8 0,.int .u8 0,.int .u8 0,.int .u8 0,.int .u8 0,.int .u8 0,.int .u8 0,.int .u8 0,.int .u8 0,.int .u8 0,.int .u8 0,.int .u8 0] 101)):=⟨_,rfl⟩
 have hB0:Below w.heap.size w W0:=hW ▸ (Below.al (Below.al (Below.al (Below.refl _ _))))
 have HX:Hid (Own w.heap.size (nums .u64 (limb N) 4) W0):=Lib.hid (hW ▸ (show Own w.heap.size (nums .u64 (limb N) 4) (w.alloc (.cells (nums .u64 (limb N) 4).toArray 214)) from Own.newAt (by simp)).alloc.alloc)
 have HR:Hid (Own (w.heap.size+1) (nums .u8 (fun _=>0) 16) W0):=Lib.hid (hW ▸ (show Own (w.heap.size+1) (nums .u8 (fun _=>0) 16) ((w.alloc (.cells (nums .u64 (limb N) 4).toArray 214)).alloc (.cells #[.int .u8 0,.int .u8 0,.int .u8 0,.int .u8 0,.int .u8 0,.int .u8 0,.int .u8 0,.int .u8 0,.int .u8 0,.int .u8 0,.int .u8 0,.int .u8 0,.int .u8 0,.int .u8 0,.int .u8 0,.int .u8 0] 101)) from Own.newAt (by simp)).alloc)
 have HQ:Hid (Own ((w.heap.size+1)+1) (nums .u8 (fun _=>0) 16) W0):=Lib.hid (hW ▸ (show Own ((w.heap.size+1)+1) (nums .u8 (fun _=>0) 16) (((w.alloc (.cells (nums .u64 (limb N) 4).toArray 214)).alloc (.cells #[.int .u8 0,.int .u8 0,.int .u8 0,.int .u8 0,.int .u8 0,.int .u8 0,.int .u8 0,.int .u8 0,.int .u8 0,.int .u8 0,.int .u8 0,.int .u8 0,.int .u8 0,.int .u8 0,.int .u8 0,.int .u8 0] 101)).alloc (.cells #[.int .u8 0,.int .u8 0,.int .u8 0,.int .u8 0,.int .u8 0,.int .u8 0,.int .u8 0,.int .u8 0,.int .u8 0,.int .u8 0,.int .u8 0,.int .u8 0,.int .u8 0,.int .u8 0,.int .u8 0,.int .u8 0] 101)) from Own.newAt (by simp)))
 rw[← hW]
 clear hW
 obtain⟨Q,eQ⟩:∃ X,X=((w.heap.size+1)+1):=⟨_,rfl⟩
 rw[← eQ] at HQ ⊢
 have Qw:w.heap.size≤Q:=by omega
 obtain⟨R,eR⟩:∃ X,X=(w.heap.size+1):=⟨_,rfl⟩
 rw[← eR] at HR ⊢
 have Rw:w.heap.size≤R:=by omega
 obtain⟨X,eX⟩:∃ X,X=w.heap.size:=⟨_,rfl⟩
 rw[← eX] at HX ⊢
 have Xw:w.heap.size≤X:=by omega
 have nXR:X≠R:=by omega
 have nRX:R≠X:=by omega
 have nXQ:X≠Q:=by omega
 have nQX:Q≠X:=by omega
 have nRQ:R≠Q:=by omega
 have nQR:Q≠R:=by omega
 clear eX eR eQ
 go_wp2_with (fail)
 go_loopw [5] (fun iv wr=>∃ (i:Nat),i≤16∧iv = .int .i64 i∧Hid (Below w.heap.size w wr)∧Hid (Own X (nums .u64 (limb N) 4) wr)∧Hid (Own Q (nums .u8 (mixL (byt N) (fun _=>0) i) 16) wr)∧Hid (Own R (nums .u8 (fun _=>0) 16) wr)) (fun iv _=>(16 - (intOf iv).toNat))
 case atStart=>exact⟨0,by omega,rfl,Lib.hid hB0,HX,HQ,HR⟩
 case round =>
  clear HX HQ HR hB0
  obtain⟨i,hi,rfl,HB,HX,HQ,HR⟩:=hrel
  by_cases hlt:i<16
  ·obtain⟨q,r,hr,rfl⟩:∃ q r,r<8∧i=8*q+r:=⟨i/8,i%8,by omega,by omega⟩
   have hq:q<4:=by omega
   have hd:=tdiv8 q r hr
   have hm:=tmod8 q r hr
   have w1:IntKind.i64.wrap (q:Int)=(q:Int):=IntWalk.i64_in _ (by omega)
   have w2:IntKind.i64.wrap (r:Int)=(r:Int):=IntWalk.i64_in _ (by omega)
   have w3:IntKind.i64.wrap ((r:Int)*8)=((8*r:Nat):Int):=by rw[IntWalk.i64_in _ (by omega)];omega
   have y0:=HX.out.at q _ (nums_at _ _ hq)
   have x0:=HQ.out.at _ _ (nums_at _ _ hlt)
   have xf:=HQ.out.ok _ (show 8*q+r<_ by rw[nums_length];exact hlt)
   have Ql:=HQ.out.lt
   have Xl:=HX.out.lt
   have lb:=limb_byt N q r hr
   obtain⟨y,ey⟩:∃ y,limb N q=y:=⟨_,rfl⟩
   obtain⟨z,ez⟩:∃ z,byt N (8*q+r)=z:=⟨_,rfl⟩
   rw[ey] at y0 lb;rw[ez] at lb
   have ME:=Lib.hid (mixL_step .u8 (byt N) (fun _=>0) (8*q+r) 16 z ez.symm)
   have lb2:IntKind.u8.wrap (y/2 ^ (8*(r:Int)).toNat)=z:=by rw[IntKind.wrap_u8',show (8*(r:Int)).toNat=8*r by omega];exact lb
   obtain⟨i,ei⟩:∃ i,8*q+r=i:=⟨_,rfl⟩
   rw[ei] at hlt hd hm HQ ME x0 xf ⊢
   have i0:(0:Int)≤(i:Int):=by omega
   have i1:(i:Int)<16:=by omega
   have i63:(i:Int)+1≤9223372036854775807:=by omega
   have q0:(0:Int)≤(q:Int):=by omega
   have q4:(q:Int)<4:=by omega
   have o1:=Lib.hid (ME.out ▸ own_set (v:=z) HQ.out hlt)
   have o2:=Lib.hid (Own.far (c:=Q) (o:=i) (vs:=[.int .u8 z]) HX.out nXQ)
   have o3:=Lib.hid (Own.far (c:=Q) (o:=i) (vs:=[.int .u8 z]) HR.out nRQ)
   have o4:=Lib.hid (Below.setCells HB.out Qw [.int .u8 z] i)
   clear ey ez ei hi ME HQ HX HR HB
   go_wp2_with (fail)
   go_roundw
   case rel=>(first | exact⟨i+1,by omega,by go_num,o4,o2,o1,o3⟩ | ((repeat apply Exists.intro);exact⟨⟨i+1,by omega,by go_num,o4,o2,o1,o3⟩,rfl⟩))
   case measure=>simp[intOf];omega
  ·have e4:i=16:=by omega
   subst e4
   rw[mixL_all] at HQ
   go_upto_region 7 with fail
   have hB0:=HB.out
   refine wp_region_lit ?_
   refine wpList_load_mid rfl 101 _ rfl Q 0 rfl (nums .u8 (byt N) 16) _ HQ.out.cell Tryz.underlying101 rfl (by kernel_rfl) ?_
   refine wpList_store_mid rfl 101 _ _ rfl R 0 (nums .u8 (byt N) 16).toArray rfl rfl HR.out.free (by kernel_rfl) (nums_all _ _ _) ?_
   change wpList _ _ _ [] _ (wr.setCells R 0 (nums .u8 (byt N) 16))
   have HRn:Hid (Own R (nums .u8 (byt N) 16) (wr.setCells R 0 (nums .u8 (byt N) 16))):=Lib.hid (Own.store HR.out (by simp[nums_length]))
   have HQn:Hid (Own Q (nums .u8 (byt N) 16) (wr.setCells R 0 (nums .u8 (byt N) 16))):=Lib.hid (Own.far (o:=0) (vs:=(nums .u8 (byt N) 16)) HQ.out nQR)
   have hB0n:Below w.heap.size w (wr.setCells R 0 (nums .u8 (byt N) 16)):=Below.setCells hB0 Rw (nums .u8 (byt N) 16) 0
   clear HR HQ hB0
   generalize (wr.setCells R 0 (nums .u8 (byt N) 16))=wz at *
   have HR:=HRn
   clear HRn
   have HQ:=HQn
   clear HQn
   have hB0:=hB0n
   clear hB0n
   go_wp2_with (fail)
   have hL:=run_loadVar_mid (P:=Tryz.prog) _ R 0 101 (nums .u8 (byt N) 16) _ HR.out.cell Tryz.underlying101 rfl (by kernel_rfl)
   exact bodyPost_ret (v := .agg (nums .u8 (byt N) 16).toArray) (res_cell Tryz.results161 rfl hL) rfl ⟨rfl,hB0⟩
end Go.Proofs.YtbilamnnneddmaaGreatDoor
namespace Go.Proofs.YtbilamnnneddmaaGreatDoor
set_option linter.unusedVariables false
set_option maxRecDepth 2000
set_option linter.unusedSimpArgs false
open Go.RowKit
def clampF (f:Nat→Int) (i:Nat):Int:=if i%4=3 then f i%16 else if i%4=0∧0<i then f i/4*4 else f i
theorem in_clampF {f:Nat→Int} {i:Nat} (h:inB (f i)):inB (clampF f i):=by
 unfold clampF inB at *
 split
 ·omega
 ·split<;>omega
theorem and15 (x:Int) (h:inB x):bits .and .u8 x 15=x%16:=by
 obtain⟨a,rfl⟩:=Int.eq_ofNat_of_zero_le h.1
 have:=h.2
 rw[show (15:Int)=((15:Nat):Int) from rfl,u8_and_nat a 15 (by omega) (by decide),show (15:Nat)=2 ^ 4 - 1 from rfl,Nat.and_two_pow_sub_one_eq_mod]
 omega
theorem and252 (x:Int) (h:inB x):bits .and .u8 x 252=x/4*4:=by
 obtain⟨a,rfl⟩:=Int.eq_ofNat_of_zero_le h.1
 have h2:=h.2
 have all:∀ j:Fin 256,j.val &&& 252=j.val/4*4:=by decide +kernel
 have:=all ⟨a,by omega⟩
 rw[show (252:Int)=((252:Nat):Int) from rfl,u8_and_nat a 252 (by omega) (by decide),show a &&& 252=a/4*4 from this]
 omega
attribute [local go_sem] nums_length
set_option maxHeartbeats 8000000 in
theorem Clamp_any (f:Nat→Int) (hf:∀ i,i<16→inB (f i)) (w:World) :
  Calls Tryz.prog 155 #[(.agg (nums .u8 f 16).toArray)] w fun e w'=>e = .returned (.agg (nums .u8 (clampF f) 16).toArray)∧Below w.heap.size w w':=by
 have a3:=and15 (f 3) (hf 3 (by decide))
 have a7:=and15 (f 7) (hf 7 (by decide))
 have a11:=and15 (f 11) (hf 11 (by decide))
 have a15:=and15 (f 15) (hf 15 (by decide))
 have a4:=and252 (f 4) (hf 4 (by decide))
 have a8:=and252 (f 8) (hf 8 (by decide))
 have a12:=and252 (f 12) (hf 12 (by decide))
 obtain⟨x3,ex3⟩:∃ z,f 3=z:=⟨_,rfl⟩
 rw[ex3] at a3
 obtain⟨x7,ex7⟩:∃ z,f 7=z:=⟨_,rfl⟩
 rw[ex7] at a7
 obtain⟨x11,ex11⟩:∃ z,f 11=z:=⟨_,rfl⟩
 rw[ex11] at a11
 obtain⟨x15,ex15⟩:∃ z,f 15=z:=⟨_,rfl⟩
 rw[ex15] at a15
 obtain⟨x4,ex4⟩:∃ z,f 4=z:=⟨_,rfl⟩
 rw[ex4] at a4
 obtain⟨x8,ex8⟩:∃ z,f 8=z:=⟨_,rfl⟩
 rw[ex8] at a8
 obtain⟨x12,ex12⟩:∃ z,f 12=z:=⟨_,rfl⟩
 rw[ex12] at a12
 clear hf
 have i3:∀ w,(Instr.index 230 (.agg #[.int .i64 3,.int .i64 7,.int .i64 11,.int .i64 15]) (.int .i64 0)).run Tryz.prog w = .ok (.int .i64 3) w:=fun w=>by kernel_rfl
 have i7:∀ w,(Instr.index 230 (.agg #[.int .i64 3,.int .i64 7,.int .i64 11,.int .i64 15]) (.int .i64 1)).run Tryz.prog w = .ok (.int .i64 7) w:=fun w=>by kernel_rfl
 have i11:∀ w,(Instr.index 230 (.agg #[.int .i64 3,.int .i64 7,.int .i64 11,.int .i64 15]) (.int .i64 2)).run Tryz.prog w = .ok (.int .i64 11) w:=fun w=>by kernel_rfl
 have i15:∀ w,(Instr.index 230 (.agg #[.int .i64 3,.int .i64 7,.int .i64 11,.int .i64 15]) (.int .i64 3)).run Tryz.prog w = .ok (.int .i64 15) w:=fun w=>by kernel_rfl
 have i4:∀ w,(Instr.index 37 (.agg #[.int .i64 4,.int .i64 8,.int .i64 12]) (.int .i64 0)).run Tryz.prog w = .ok (.int .i64 4) w:=fun w=>by kernel_rfl
 have i8:∀ w,(Instr.index 37 (.agg #[.int .i64 4,.int .i64 8,.int .i64 12]) (.int .i64 1)).run Tryz.prog w = .ok (.int .i64 8) w:=fun w=>by kernel_rfl
 have i12:∀ w,(Instr.index 37 (.agg #[.int .i64 4,.int .i64 8,.int .i64 12]) (.int .i64 2)).run Tryz.prog w = .ok (.int .i64 12) w:=fun w=>by kernel_rfl
 go_enter Tryz.func155,Tryz.ntmps155
 go_upto_region 1 with fail
 obtain⟨W0,hW⟩:∃ W0,W0=((w.alloc (.cells (nums .u8 f 16).toArray 101)).alloc (.cells #[.int .u8 0,.int .u8 0,.int .u8 0,.int .u8 0,.int .u8 0,.int .u8 0,.int .u8 0,.int .u8 0,.int .u8 0,.int .u8 0,.int .u8 0,.int .u8 0,.int .u8 0,.int .u8 0,.int .u8 0,.int .u8 0] 101)):=⟨_,rfl⟩
 have hB0:Below w.heap.size w W0:=hW ▸ (Below.al (Below.al (Below.refl _ _)))
 have HX:Hid (Own w.heap.size (nums .u8 f 16) W0):=Lib.hid (hW ▸ (show Own w.heap.size (nums .u8 f 16) (w.alloc (.cells (nums .u8 f 16).toArray 101)) from Own.newAt (by simp)).alloc)
 have HR:Hid (Own (w.heap.size+1) (nums .u8 (fun _=>0) 16) W0):=Lib.hid (hW ▸ (show Own (w.heap.size+1) (nums .u8 (fun _=>0) 16) ((w.alloc (.cells (nums .u8 f 16).toArray 101)).alloc (.cells #[.int .u8 0,.int .u8 0,.int .u8 0,.int .u8 0,.int .u8 0,.int .u8 0,.int .u8 0,.int .u8 0,.int .u8 0,.int .u8 0,.int .u8 0,.int .u8 0,.int .u8 0,.int .u8 0,.int .u8 0,.int .u8 0] 101)) from Own.newAt (by simp)))
 rw[← hW]
 clear hW
 obtain⟨R,eR⟩:∃ X,X=(w.heap.size+1):=⟨_,rfl⟩
 rw[← eR] at HR ⊢
 have Rw:w.heap.size≤R:=by omega
 obtain⟨X,eX⟩:∃ X,X=w.heap.size:=⟨_,rfl⟩
 rw[← eX] at HX ⊢
 have Xw:w.heap.size≤X:=by omega
 have nXR:X≠R:=by omega
 have nRX:R≠X:=by omega
 clear eX eR
 go_wp2_with (fail)
 refine wp_loop_rounds 5 ?_
 rw[rounds_succ]
 have c0:=HX.out.at 3 _ (nums_at _ _ (by decide))
 rw[show f 3=x3 from ex3] at c0
 have cf:=HX.out.ok 3 (by rw[nums_length];decide)
 have Xl:=HX.out.lt
 go_wp2_with (fail)
 clear c0 cf Xl
 rw[show (W0.setCell ⟨X,3,none⟩ (.int .u8 (x3%16)))=W0.setCells X 3 [.int .u8 (x3%16)] from rfl]
 have HXn:Hid (Own X (nums .u8 (at1 f 3 (x3%16)) 16) (W0.setCells X 3 [.int .u8 (x3%16)])):=Lib.hid (own_set HX.out (by decide))
 have HRn:Hid (Own R (nums .u8 (fun _=>0) 16) (W0.setCells X 3 [.int .u8 (x3%16)])):=Lib.hid (Own.far (o:=3) (vs:=[.int .u8 (x3%16)]) HR.out nRX)
 have hB0n:Below w.heap.size w (W0.setCells X 3 [.int .u8 (x3%16)]):=Below.setCells hB0 Xw [.int .u8 (x3%16)] 3
 clear HX HR hB0
 generalize (W0.setCells X 3 [.int .u8 (x3%16)])=w1 at *
 have HX:=HXn
 clear HXn
 have HR:=HRn
 clear HRn
 have hB0:=hB0n
 clear hB0n
 rw[rounds_succ]
 have c0:=HX.out.at 7 _ (nums_at _ _ (by decide))
 rw[show (at1 f 3 (x3%16)) 7=x7 from ex7] at c0
 have cf:=HX.out.ok 7 (by rw[nums_length];decide)
 have Xl:=HX.out.lt
 go_wp2_with (fail)
 clear c0 cf Xl
 rw[show (w1.setCell ⟨X,7,none⟩ (.int .u8 (x7%16)))=w1.setCells X 7 [.int .u8 (x7%16)] from rfl]
 have HXn:Hid (Own X (nums .u8 (at1 (at1 f 3 (x3%16)) 7 (x7%16)) 16) (w1.setCells X 7 [.int .u8 (x7%16)])):=Lib.hid (own_set HX.out (by decide))
 have HRn:Hid (Own R (nums .u8 (fun _=>0) 16) (w1.setCells X 7 [.int .u8 (x7%16)])):=Lib.hid (Own.far (o:=7) (vs:=[.int .u8 (x7%16)]) HR.out nRX)
 have hB0n:Below w.heap.size w (w1.setCells X 7 [.int .u8 (x7%16)]):=Below.setCells hB0 Xw [.int .u8 (x7%16)] 7
 clear HX HR hB0
 generalize (w1.setCells X 7 [.int .u8 (x7%16)])=w2 at *
 have HX:=HXn
 clear HXn
 have HR:=HRn
 clear HRn
 have hB0:=hB0n
 clear hB0n
 rw[rounds_succ]
 have c0:=HX.out.at 11 _ (nums_at _ _ (by decide))
 rw[show (at1 (at1 f 3 (x3%16)) 7 (x7%16)) 11=x11 from ex11] at c0
 have cf:=HX.out.ok 11 (by rw[nums_length];decide)
 have Xl:=HX.out.lt
 go_wp2_with (fail)
 clear c0 cf Xl
 rw[show (w2.setCell ⟨X,11,none⟩ (.int .u8 (x11%16)))=w2.setCells X 11 [.int .u8 (x11%16)] from rfl]
 have HXn:Hid (Own X (nums .u8 (at1 (at1 (at1 f 3 (x3%16)) 7 (x7%16)) 11 (x11%16)) 16) (w2.setCells X 11 [.int .u8 (x11%16)])):=Lib.hid (own_set HX.out (by decide))
 have HRn:Hid (Own R (nums .u8 (fun _=>0) 16) (w2.setCells X 11 [.int .u8 (x11%16)])):=Lib.hid (Own.far (o:=11) (vs:=[.int .u8 (x11%16)]) HR.out nRX)
 have hB0n:Below w.heap.size w (w2.setCells X 11 [.int .u8 (x11%16)]):=Below.setCells hB0 Xw [.int .u8 (x11%16)] 11
 clear HX HR hB0
 generalize (w2.setCells X 11 [.int .u8 (x11%16)])=w3 at *
 have HX:=HXn
 clear HXn
 have HR:=HRn
 clear HRn
 have hB0:=hB0n
 clear hB0n
 rw[rounds_succ]
 have c0:=HX.out.at 15 _ (nums_at _ _ (by decide))
 rw[show (at1 (at1 (at1 f 3 (x3%16)) 7 (x7%16)) 11 (x11%16)) 15=x15 from ex15] at c0
 have cf:=HX.out.ok 15 (by rw[nums_length];decide)
 have Xl:=HX.out.lt
 go_wp2_with (fail)
 clear c0 cf Xl
 rw[show (w3.setCell ⟨X,15,none⟩ (.int .u8 (x15%16)))=w3.setCells X 15 [.int .u8 (x15%16)] from rfl]
 have HXn:Hid (Own X (nums .u8 (at1 (at1 (at1 (at1 f 3 (x3%16)) 7 (x7%16)) 11 (x11%16)) 15 (x15%16)) 16) (w3.setCells X 15 [.int .u8 (x15%16)])):=Lib.hid (own_set HX.out (by decide))
 have HRn:Hid (Own R (nums .u8 (fun _=>0) 16) (w3.setCells X 15 [.int .u8 (x15%16)])):=Lib.hid (Own.far (o:=15) (vs:=[.int .u8 (x15%16)]) HR.out nRX)
 have hB0n:Below w.heap.size w (w3.setCells X 15 [.int .u8 (x15%16)]):=Below.setCells hB0 Xw [.int .u8 (x15%16)] 15
 clear HX HR hB0
 generalize (w3.setCells X 15 [.int .u8 (x15%16)])=w4 at *
 have HX:=HXn
 clear HXn
 have HR:=HRn
 clear HRn
 have hB0:=hB0n
 clear hB0n
 rw[rounds_succ]
 go_wp2_with (fail)
 refine wp_loop_rounds 4 ?_
 rw[rounds_succ]
 have c0:=HX.out.at 4 _ (nums_at _ _ (by decide))
 rw[show (at1 (at1 (at1 (at1 f 3 (x3%16)) 7 (x7%16)) 11 (x11%16)) 15 (x15%16)) 4=x4 from ex4] at c0
 have cf:=HX.out.ok 4 (by rw[nums_length];decide)
 have Xl:=HX.out.lt
 go_wp2_with (fail)
 clear c0 cf Xl
 rw[show (w4.setCell ⟨X,4,none⟩ (.int .u8 (x4/4*4)))=w4.setCells X 4 [.int .u8 (x4/4*4)] from rfl]
 have HXn:Hid (Own X (nums .u8 (at1 (at1 (at1 (at1 (at1 f 3 (x3%16)) 7 (x7%16)) 11 (x11%16)) 15 (x15%16)) 4 (x4/4*4)) 16) (w4.setCells X 4 [.int .u8 (x4/4*4)])):=Lib.hid (own_set HX.out (by decide))
 have HRn:Hid (Own R (nums .u8 (fun _=>0) 16) (w4.setCells X 4 [.int .u8 (x4/4*4)])):=Lib.hid (Own.far (o:=4) (vs:=[.int .u8 (x4/4*4)]) HR.out nRX)
 have hB0n:Below w.heap.size w (w4.setCells X 4 [.int .u8 (x4/4*4)]):=Below.setCells hB0 Xw [.int .u8 (x4/4*4)] 4
 clear HX HR hB0
 generalize (w4.setCells X 4 [.int .u8 (x4/4*4)])=w5 at *
 have HX:=HXn
 clear HXn
 have HR:=HRn
 clear HRn
 have hB0:=hB0n
 clear hB0n
 rw[rounds_succ]
 have c0:=HX.out.at 8 _ (nums_at _ _ (by decide))
 rw[show (at1 (at1 (at1 (at1 (at1 f 3 (x3%16)) 7 (x7%16)) 11 (x11%16)) 15 (x15%16)) 4 (x4/4*4)) 8=x8 from ex8] at c0
 have cf:=HX.out.ok 8 (by rw[nums_length];decide)
 have Xl:=HX.out.lt
 go_wp2_with (fail)
 clear c0 cf Xl
 rw[show (w5.setCell ⟨X,8,none⟩ (.int .u8 (x8/4*4)))=w5.setCells X 8 [.int .u8 (x8/4*4)] from rfl]
 have HXn:Hid (Own X (nums .u8 (at1 (at1 (at1 (at1 (at1 (at1 f 3 (x3%16)) 7 (x7%16)) 11 (x11%16)) 15 (x15%16)) 4 (x4/4*4)) 8 (x8/4*4)) 16) (w5.setCells X 8 [.int .u8 (x8/4*4)])):=Lib.hid (own_set HX.out (by decide))
 have HRn:Hid (Own R (nums .u8 (fun _=>0) 16) (w5.setCells X 8 [.int .u8 (x8/4*4)])):=Lib.hid (Own.far (o:=8) (vs:=[.int .u8 (x8/4*4)]) HR.out nRX)
 have hB0n:Below w.heap.size w (w5.setCells X 8 [.int .u8 (x8/4*4)]):=Below.setCells hB0 Xw [.int .u8 (x8/4*4)] 8
 clear HX HR hB0
 generalize (w5.setCells X 8 [.int .u8 (x8/4*4)])=w6 at *
 have HX:=HXn
 clear HXn
 have HR:=HRn
 clear HRn
 have hB0:=hB0n
 clear hB0n
 rw[rounds_succ]
 have c0:=HX.out.at 12 _ (nums_at _ _ (by decide))
 rw[show (at1 (at1 (at1 (at1 (at1 (at1 f 3 (x3%16)) 7 (x7%16)) 11 (x11%16)) 15 (x15%16)) 4 (x4/4*4)) 8 (x8/4*4)) 12=x12 from ex12] at c0
 have cf:=HX.out.ok 12 (by rw[nums_length];decide)
 have Xl:=HX.out.lt
 go_wp2_with (fail)
 clear c0 cf Xl
 rw[show (w6.setCell ⟨X,12,none⟩ (.int .u8 (x12/4*4)))=w6.setCells X 12 [.int .u8 (x12/4*4)] from rfl]
 have HXn:Hid (Own X (nums .u8 (at1 (at1 (at1 (at1 (at1 (at1 (at1 f 3 (x3%16)) 7 (x7%16)) 11 (x11%16)) 15 (x15%16)) 4 (x4/4*4)) 8 (x8/4*4)) 12 (x12/4*4)) 16) (w6.setCells X 12 [.int .u8 (x12/4*4)])):=Lib.hid (own_set HX.out (by decide))
 have HRn:Hid (Own R (nums .u8 (fun _=>0) 16) (w6.setCells X 12 [.int .u8 (x12/4*4)])):=Lib.hid (Own.far (o:=12) (vs:=[.int .u8 (x12/4*4)]) HR.out nRX)
 have hB0n:Below w.heap.size w (w6.setCells X 12 [.int .u8 (x12/4*4)]):=Below.setCells hB0 Xw [.int .u8 (x12/4*4)] 12
 clear HX HR hB0
 generalize (w6.setCells X 12 [.int .u8 (x12/4*4)])=w7 at *
 have HX:=HXn
 clear HXn
 have HR:=HRn
 clear HRn
 have hB0:=hB0n
 clear hB0n
 rw[rounds_succ]
 have EF:nums .u8 (at1 (at1 (at1 (at1 (at1 (at1 (at1 f 3 (x3%16)) 7 (x7%16)) 11 (x11%16)) 15 (x15%16)) 4 (x4/4*4)) 8 (x8/4*4)) 12 (x12/4*4)) 16=nums .u8 (clampF f) 16:=nums_congr _ fun i hi=>by
  subst ex3;subst ex7;subst ex11;subst ex15;subst ex4;subst ex8;subst ex12
  have hi':i=0∨i=1∨i=2∨i=3∨i=4∨i=5∨i=6∨i=7∨i=8∨i=9∨i=10∨i=11∨i=12∨i=13∨i=14∨i=15:=by omega
  rcases hi' with rfl | rfl | rfl | rfl | rfl | rfl | rfl | rfl | rfl | rfl | rfl | rfl | rfl | rfl | rfl | rfl<;>simp[at1,clampF]
 rw[EF] at HX
 clear EF
 go_upto_region 11 with fail
 refine wp_region_lit ?_
 refine wpList_load_mid rfl 101 _ rfl X 0 rfl (nums .u8 (clampF f) 16) _ HX.out.cell Tryz.underlying101 rfl (by kernel_rfl) ?_
 refine wpList_store_mid rfl 101 _ _ rfl R 0 (nums .u8 (clampF f) 16).toArray rfl rfl HR.out.free (by kernel_rfl) (nums_all _ _ _) ?_
 change wpList _ _ _ [] _ (w7.setCells R 0 (nums .u8 (clampF f) 16))
 have HRn:Hid (Own R (nums .u8 (clampF f) 16) (w7.setCells R 0 (nums .u8 (clampF f) 16))):=Lib.hid (Own.store HR.out (by simp[nums_length]))
 have HXn:Hid (Own X (nums .u8 (clampF f) 16) (w7.setCells R 0 (nums .u8 (clampF f) 16))):=Lib.hid (Own.far (o:=0) (vs:=(nums .u8 (clampF f) 16)) HX.out nXR)
 have hB0n:Below w.heap.size w (w7.setCells R 0 (nums .u8 (clampF f) 16)):=Below.setCells hB0 Rw (nums .u8 (clampF f) 16) 0
 clear HR HX hB0
 generalize (w7.setCells R 0 (nums .u8 (clampF f) 16))=wz at *
 have HR:=HRn
 clear HRn
 have HX:=HXn
 clear HXn
 have hB0:=hB0n
 clear hB0n
 go_wp2_with (fail)
 have hL:=run_loadVar_mid (P:=Tryz.prog) _ R 0 101 (nums .u8 (clampF f) 16) _ HR.out.cell Tryz.underlying101 rfl (by kernel_rfl)
 exact bodyPost_ret (v := .agg (nums .u8 (clampF f) 16).toArray) (res_cell Tryz.results155 rfl hL) rfl ⟨rfl,hB0⟩
end Go.Proofs.YtbilamnnneddmaaGreatDoor
namespace Go.Proofs.YtbilamnnneddmaaGreatDoor
set_option linter.unusedVariables false
set_option maxRecDepth 2000
set_option linter.unusedSimpArgs false
open Go.RowKit
def eqB (f g:Nat→Int) (n:Nat):Bool:=decide (∀ i,i<n→f i=g i)
theorem eqB_congr {f g:Nat→Int} {n:Nat} (h:∀ i,i<n→f i=g i):eqB f g n=true:=decide_eq_true h
theorem or_zero (x y:Int) (hx:inB x) (hy:inB y):inB (bits .or .u8 x y)∧(bits .or .u8 x y=0↔x=0∧y=0):=by
 obtain⟨a,rfl⟩:=Int.eq_ofNat_of_zero_le hx.1
 obtain⟨b,rfl⟩:=Int.eq_ofNat_of_zero_le hy.1
 have h1:=hx.2;have h2:=hy.2
 have hl:=Nat.or_lt_two_pow (n:=8) (x:=a) (y:=b) (by omega) (by omega)
 rw[u8_or_nat a b (by omega) (by omega)]
 have:a ||| b=0↔a=0∧b=0:=Nat.or_eq_zero_iff
 unfold inB
 omega
theorem xor_zero (x y:Int) (hx:inB x) (hy:inB y):bits .xor .u8 x y=0↔x=y:=by
 obtain⟨a,rfl⟩:=Int.eq_ofNat_of_zero_le hx.1
 obtain⟨b,rfl⟩:=Int.eq_ofNat_of_zero_le hy.1
 have h1:=hx.2;have h2:=hy.2
 rw[u8_xor_nat a b (by omega) (by omega)]
 have:a ^^^ b=0↔a=b:=⟨fun h=>by have:=congrArg (· ^^^ b) h;simpa[Nat.xor_assoc] using this,fun h=>by rw[h,Nat.xor_self]⟩
 omega
attribute [local go_sem] nums_length
set_option maxHeartbeats 8000000 in
theorem Same_any_ (f g:Nat→Int) (hf:∀ i,i<16→inB (f i)) (hg:∀ i,i<16→inB (g i)) (w:World) :
  Calls Tryz.prog 55 #[(.agg (nums .u8 f 16).toArray),(.agg (nums .u8 g 16).toArray)] w fun e w'=>e = .returned (.bool (eqB f g 16))∧Below w.heap.size w w':=by
 have FB:=Lib.hid hf;have GB:=Lib.hid hg
 clear hf hg
 go_enter Tryz.func55,Tryz.ntmps55
 go_upto_region 1 with fail
 obtain⟨W0,hW⟩:∃ W0,W0=((w.alloc (.cells (nums .u8 f 16).toArray 101)).alloc (.cells (nums .u8 g 16).toArray 101)):=⟨_,rfl⟩
 have hB0:Below w.heap.size w W0:=hW ▸ (Below.al (Below.al (Below.refl _ _)))
 have HX:Hid (Own w.heap.size (nums .u8 f 16) W0):=Lib.hid (hW ▸ (show Own w.heap.size (nums .u8 f 16) (w.alloc (.cells (nums .u8 f 16).toArray 101)) from Own.newAt (by simp)).alloc)
 have HY:Hid (Own (w.heap.size+1) (nums .u8 g 16) W0):=Lib.hid (hW ▸ (show Own (w.heap.size+1) (nums .u8 g 16) ((w.alloc (.cells (nums .u8 f 16).toArray 101)).alloc (.cells (nums .u8 g 16).toArray 101)) from Own.newAt (by simp)))
 rw[← hW]
 clear hW
 obtain⟨Y,eY⟩:∃ X,X=(w.heap.size+1):=⟨_,rfl⟩
 rw[← eY] at HY ⊢
 have Yw:w.heap.size≤Y:=by omega
 obtain⟨X,eX⟩:∃ X,X=w.heap.size:=⟨_,rfl⟩
 rw[← eX] at HX ⊢
 have Xw:w.heap.size≤X:=by omega
 have nXY:X≠Y:=by omega
 have nYX:Y≠X:=by omega
 clear eX eY
 go_wp2_with (fail)
 go_loopw [5,7] (fun dv iv wr=>∃ (i:Nat) (x:Int),i≤16∧dv = .int .u8 x∧Hid (inB x∧(x=0↔∀ j,j<i→f j=g j))∧iv = .int .i64 i∧Hid (Below w.heap.size w wr)∧Hid (Own X (nums .u8 f 16) wr)∧Hid (Own Y (nums .u8 g 16) wr)) (fun _ iv _=>(16 - (intOf iv).toNat))
 case atStart=>exact⟨0,0,by omega,rfl,Lib.hid ⟨by unfold inB;decide,fun _ j hj=>by omega,fun _=>rfl⟩,rfl,Lib.hid hB0,HX,HY⟩
 case round =>
  clear HX HY hB0
  obtain⟨i,d_,hi,rfl,HD,rfl,HB,HX,HY⟩:=hrel
  by_cases hlt:i<16
  ·have x0:=HX.out.at i _ (nums_at _ _ hlt)
   have y0:=HY.out.at i _ (nums_at _ _ hlt)
   have bx:=FB.out i hlt;have bY:=GB.out i hlt
   have xz:=xor_zero (f i) (g i) bx bY
   have xb:=in_xorB bx bY
   have oz:=or_zero d_ (bits .xor .u8 (f i) (g i)) HD.out.1 xb
   have HD2:Hid (inB (bits .or .u8 d_ (bits .xor .u8 (f i) (g i)))∧(bits .or .u8 d_ (bits .xor .u8 (f i) (g i))=0↔∀ j,j<i+1→f j=g j)):=Lib.hid ⟨oz.1,by
    rw[oz.2,xz,HD.out.2]
    constructor
    ·intro h j hj
     by_cases e:j=i
     ·subst e;exact h.2
     ·exact h.1 j (by omega)
    ·intro h;exact⟨fun j hj=>h j (by omega),h i (by omega)⟩⟩
   obtain⟨x,ex⟩:∃ x,f i=x:=⟨_,rfl⟩
   obtain⟨y,ey⟩:∃ y,g i=y:=⟨_,rfl⟩
   rw[ex] at x0 HD2;rw[ey] at y0 HD2
   obtain⟨u,eu⟩:∃ u,bits .xor .u8 x y=u:=⟨_,rfl⟩
   rw[eu] at HD2
   obtain⟨v,ev⟩:∃ v,bits .or .u8 d_ u=v:=⟨_,rfl⟩
   rw[ev] at HD2
   have i0:(0:Int)≤(i:Int):=by omega
   have i1:(i:Int)<16:=by omega
   have i63:(i:Int)+1≤9223372036854775807:=by omega
   clear ex ey hi bx bY xz xb oz
   go_wp2_with (fail)
   go_quiet (fail)
   have hD:Below wr.heap.size wr (wr.drewN nq):=below_drewN (Below.refl _ _) _
   have o1:=Lib.hid (HX.out.later hD);have o2:=Lib.hid (HY.out.later hD);have o3:=Lib.hid (Below.go HB.out hD)
   go_wp2_with (fail)
   go_roundw
   case rel=>(first | exact⟨i+1,v,by omega,rfl,HD2,by go_num,o3,o1,o2⟩ | ((repeat apply Exists.intro);exact⟨⟨i+1,v,by omega,rfl,HD2,by go_num,o3,o1,o2⟩,rfl⟩))
   case measure=>simp[intOf];omega
  ·have e4:i=16:=by omega
   subst e4
   have er:(d_ == 0)=eqB f g 16:=by
    unfold eqB
    by_cases q:d_=0
    ·rw[decide_eq_true (HD.out.2.1 q)];simp[q]
    ·rw[decide_eq_false (fun h=>q (HD.out.2.2 h))];simp[q]
   have er2:decide (d_=0)=eqB f g 16:=by rw[← er];rfl
   go_wp2_with (fail)
   go_ret
   exact⟨by first | rfl | simp[er2] | simp[er],HB.out⟩
end Go.Proofs.YtbilamnnneddmaaGreatDoor
