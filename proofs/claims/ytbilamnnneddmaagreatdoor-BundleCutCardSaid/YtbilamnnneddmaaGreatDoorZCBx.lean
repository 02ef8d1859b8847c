import Derived.Test.YtbilamnnneddmaaGreatDoorProg
import Derived.Test.YtbilamnnneddmaaGreatDoorZKA
import Derived.Test.YtbilamnnneddmaaGreatDoorZCA
import Derived.WalkKit
import Derived.Deep.DeepCutAuto
import Derived.Deep.QuietTactic
import Derived.LoopN
import Derived.LoopTactic
namespace Go.Proofs.YtbilamnnneddmaaGreatDoor
set_option linter.unusedVariables false
set_option maxRecDepth 2000
set_option linter.unusedSimpArgs false
open Go.RowKit
theorem rot_form (x:Int) (hx:in32 x) (m d:Nat) (n:Nat) (hm:2 ^ n=m) (hd:2 ^ (32 - n)=d):bits .or .u32 (x*(m:Int)%4294967296) (x/(d:Int))=rot32 n x:=by
 obtain⟨h0,h1⟩:=hx
 obtain⟨k,rfl⟩:=Int.eq_ofNat_of_zero_le h0
 have e1:((k:Int)*(m:Int)%4294967296)=((k*m%4294967296:Nat):Int):=by
  rw[← Int.natCast_mul]
  generalize k*m=z
  omega
 have e2:(k:Int)/(d:Int)=((k/d:Nat):Int):=(Int.natCast_ediv k d).symm
 rw[e1,e2,u32_or_nat _ _ (Nat.mod_lt _ (by decide)) (Nat.lt_of_le_of_lt (Nat.div_le_self _ _) (by omega))]
 unfold rot32
 rw[hm,hd,Int.toNat_natCast]
theorem rot16_any (x:Int) (hx:in32 x) (w:World):Calls Tryz.prog 191 #[.int .u32 x,.int .i64 16] w fun e w'=>e = .returned (.int .u32 (rot32 16 x))∧Below w.heap.size w w':=by
 have hf:bits .or .u32 (x*65536%4294967296) (x/65536)=rot32 16 x:=rot_form x hx 65536 65536 16 (by decide) (by decide)
 obtain⟨h0,h1⟩:=hx
 have e1:bits .and .u64 16 31=16:=by decide
 go_enter Tryz.func191,Tryz.ntmps191
 go_wp2_with (fail)
 exact bodyPost_ret (v := .int .u32 (rot32 16 x)) (by simp[results,Tryz.results191,← hf]) rfl ⟨rfl,Below.refl _ _⟩
theorem rot12_any (x:Int) (hx:in32 x) (w:World):Calls Tryz.prog 191 #[.int .u32 x,.int .i64 12] w fun e w'=>e = .returned (.int .u32 (rot32 12 x))∧Below w.heap.size w w':=by
 have hf:bits .or .u32 (x*4096%4294967296) (x/1048576)=rot32 12 x:=rot_form x hx 4096 1048576 12 (by decide) (by decide)
 obtain⟨h0,h1⟩:=hx
 have e1:bits .and .u64 12 31=12:=by decide
 go_enter Tryz.func191,Tryz.ntmps191
 go_wp2_with (fail)
 exact bodyPost_ret (v := .int .u32 (rot32 12 x)) (by simp[results,Tryz.results191,← hf]) rfl ⟨rfl,Below.refl _ _⟩
theorem rot8_any (x:Int) (hx:in32 x) (w:World):Calls Tryz.prog 191 #[.int .u32 x,.int .i64 8] w fun e w'=>e = .returned (.int .u32 (rot32 8 x))∧Below w.heap.size w w':=by
 have hf:bits .or .u32 (x*256%4294967296) (x/16777216)=rot32 8 x:=rot_form x hx 256 16777216 8 (by decide) (by decide)
 obtain⟨h0,h1⟩:=hx
 have e1:bits .and .u64 8 31=8:=by decide
 go_enter Tryz.func191,Tryz.ntmps191
 go_wp2_with (fail)
 exact bodyPost_ret (v := .int .u32 (rot32 8 x)) (by simp[results,Tryz.results191,← hf]) rfl ⟨rfl,Below.refl _ _⟩
theorem rot7_any (x:Int) (hx:in32 x) (w:World):Calls Tryz.prog 191 #[.int .u32 x,.int .i64 7] w fun e w'=>e = .returned (.int .u32 (rot32 7 x))∧Below w.heap.size w w':=by
 have hf:bits .or .u32 (x*128%4294967296) (x/33554432)=rot32 7 x:=rot_form x hx 128 33554432 7 (by decide) (by decide)
 obtain⟨h0,h1⟩:=hx
 have e1:bits .and .u64 7 31=7:=by decide
 go_enter Tryz.func191,Tryz.ntmps191
 go_wp2_with (fail)
 exact bodyPost_ret (v := .int .u32 (rot32 7 x)) (by simp[results,Tryz.results191,← hf]) rfl ⟨rfl,Below.refl _ _⟩
end Go.Proofs.YtbilamnnneddmaaGreatDoor
namespace Go.Proofs.YtbilamnnneddmaaGreatDoor
set_option linter.unusedVariables false
set_option maxRecDepth 2000
set_option linter.unusedSimpArgs false
open Go.RowKit
theorem Quarter_any (a b c d:Int) (ha:in32 a) (hb:in32 b) (hc:in32 c) (hd:in32 d) (w:World):Calls Tryz.prog 185 #[(.agg #[.int .u32 a,.int .u32 b,.int .u32 c,.int .u32 d])] w fun e w'=>e = .returned (.agg #[.int .u32 (quarterF ⟨a,b,c,d⟩).a,.int .u32 (quarterF ⟨a,b,c,d⟩).b,.int .u32 (quarterF ⟨a,b,c,d⟩).c,.int .u32 (quarterF ⟨a,b,c,d⟩).d])∧Below w.heap.size w w':=by
 have Ia:=Lib.hid ha;have Ib:=Lib.hid hb;have Ic:=Lib.hid hc;have Id:=Lib.hid hd
 clear ha hb hc hd
 have Ia1:Hid (in32 (add32 a b)):=Lib.hid (in_add32 _ _)
 obtain⟨a1,ea1⟩:∃ z,add32 a b=z:=⟨_,rfl⟩
 rw[ea1] at Ia1
 have fa1:(a+b)%4294967296=a1:=ea1
 have ga1:IntKind.u32.wrap (a+b)=a1:=(IntKind.wrap_u32' _).trans ea1
 have Ix1:Hid (in32 (xor32 d a1)):=Lib.hid (in_xor32 Id.out Ia1.out)
 obtain⟨x1,ex1⟩:∃ z,xor32 d a1=z:=⟨_,rfl⟩
 rw[ex1] at Ix1
 have fx1:bits .xor .u32 d a1=x1:=(u32_xor _ _ Id.out.1 Id.out.2 Ia1.out.1 Ia1.out.2).trans ex1
 have Id1:Hid (in32 (rot32 16 x1)):=Lib.hid (in_rot32 _ Ix1.out)
 obtain⟨d1,ed1⟩:∃ z,rot32 16 x1=z:=⟨_,rfl⟩
 rw[ed1] at Id1
 have Ic1:Hid (in32 (add32 c d1)):=Lib.hid (in_add32 _ _)
 obtain⟨c1,ec1⟩:∃ z,add32 c d1=z:=⟨_,rfl⟩
 rw[ec1] at Ic1
 have fc1:(c+d1)%4294967296=c1:=ec1
 have gc1:IntKind.u32.wrap (c+d1)=c1:=(IntKind.wrap_u32' _).trans ec1
 have Iy1:Hid (in32 (xor32 b c1)):=Lib.hid (in_xor32 Ib.out Ic1.out)
 obtain⟨y1,ey1⟩:∃ z,xor32 b c1=z:=⟨_,rfl⟩
 rw[ey1] at Iy1
 have fy1:bits .xor .u32 b c1=y1:=(u32_xor _ _ Ib.out.1 Ib.out.2 Ic1.out.1 Ic1.out.2).trans ey1
 have Ib1:Hid (in32 (rot32 12 y1)):=Lib.hid (in_rot32 _ Iy1.out)
 obtain⟨b1,eb1⟩:∃ z,rot32 12 y1=z:=⟨_,rfl⟩
 rw[eb1] at Ib1
 have Ia2:Hid (in32 (add32 a1 b1)):=Lib.hid (in_add32 _ _)
 obtain⟨a2,ea2⟩:∃ z,add32 a1 b1=z:=⟨_,rfl⟩
 rw[ea2] at Ia2
 have fa2:(a1+b1)%4294967296=a2:=ea2
 have ga2:IntKind.u32.wrap (a1+b1)=a2:=(IntKind.wrap_u32' _).trans ea2
 have Ix2:Hid (in32 (xor32 d1 a2)):=Lib.hid (in_xor32 Id1.out Ia2.out)
 obtain⟨x2,ex2⟩:∃ z,xor32 d1 a2=z:=⟨_,rfl⟩
 rw[ex2] at Ix2
 have fx2:bits .xor .u32 d1 a2=x2:=(u32_xor _ _ Id1.out.1 Id1.out.2 Ia2.out.1 Ia2.out.2).trans ex2
 have Id2:Hid (in32 (rot32 8 x2)):=Lib.hid (in_rot32 _ Ix2.out)
 obtain⟨d2,ed2⟩:∃ z,rot32 8 x2=z:=⟨_,rfl⟩
 rw[ed2] at Id2
 have Ic2:Hid (in32 (add32 c1 d2)):=Lib.hid (in_add32 _ _)
 obtain⟨c2,ec2⟩:∃ z,add32 c1 d2=z:=⟨_,rfl⟩
 rw[ec2] at Ic2
 have fc2:(c1+d2)%4294967296=c2:=ec2
 have gc2:IntKind.u32.wrap (c1+d2)=c2:=(IntKind.wrap_u32' _).trans ec2
 have Iy2:Hid (in32 (xor32 b1 c2)):=Lib.hid (in_xor32 Ib1.out Ic2.out)
 obtain⟨y2,ey2⟩:∃ z,xor32 b1 c2=z:=⟨_,rfl⟩
 rw[ey2] at Iy2
 have fy2:bits .xor .u32 b1 c2=y2:=(u32_xor _ _ Ib1.out.1 Ib1.out.2 Ic2.out.1 Ic2.out.2).trans ey2
 have Ib2:Hid (in32 (rot32 7 y2)):=Lib.hid (in_rot32 _ Iy2.out)
 obtain⟨b2,eb2⟩:∃ z,rot32 7 y2=z:=⟨_,rfl⟩
 rw[eb2] at Ib2
 have HR:Hid (quarterF ⟨a,b,c,d⟩=⟨a2,b2,c2,d2⟩):=Lib.hid (by
  unfold quarterF halfQ
  simp only[ea1,ex1,ed1,ec1,ey1,eb1,ea2,ex2,ed2,ec2,ey2,eb2])
 clear ea1 ex1 ec1 ey1 ea2 ex2 ec2 ey2
 rw[HR.out]
 go_enter Tryz.func185,Tryz.ntmps185
 go_upto_region 1 with fail
 obtain⟨W0,hW⟩:∃ W0,W0=((w.alloc (.cells #[.int .u32 a,.int .u32 b,.int .u32 c,.int .u32 d] 236)).alloc (.cells #[.int .u32 0,.int .u32 0,.int .u32 0,.int .u32 0] 236)):=⟨_,rfl⟩
 have hB0:Below w.heap.size w W0:=hW ▸ (Below.al (Below.al (Below.refl _ _)))
 have HS:Hid (Own w.heap.size [.int .u32 a,.int .u32 b,.int .u32 c,.int .u32 d] W0):=Lib.hid (hW ▸ (Own.newAt (by simp)).alloc)
 have HR4:Hid (Own (w.heap.size+1) [.int .u32 0,.int .u32 0,.int .u32 0,.int .u32 0] W0):=Lib.hid (hW ▸ (Own.newAt (by simp)))
 rw[← hW]
 clear hW
 obtain⟨R,eR⟩:∃ X,X=(w.heap.size+1):=⟨_,rfl⟩
 rw[← eR] at HR4 ⊢
 have Rw:w.heap.size≤R:=by omega
 obtain⟨S,eS⟩:∃ X,X=w.heap.size:=⟨_,rfl⟩
 rw[← eS] at HS ⊢
 have Sw:w.heap.size≤S:=by omega
 have nSR:S≠R:=by omega
 have nRS:R≠S:=by omega
 clear eS eR
 have oS:=HS.out
 have S0:=oS.at 0 _ rfl
 have S1:=oS.at 1 _ rfl
 have S2:=oS.at 2 _ rfl
 have S3:=oS.at 3 _ rfl
 have Sl:=oS.lt
 clear oS
 go_quiet (fail)
 have hBd:Below W0.heap.size W0 (W0.drewN nq):=below_drewN (Below.refl _ _) _
 clear S0 S1 S2 S3 Sl
 have HR5:=Lib.hid (HR4.out.later hBd)
 have hB1:=Below.go hB0 hBd
 generalize W0.drewN nq=w0 at *
 clear hBd hB0 HR4 HS
 go_wp2_with (fail)
 go_at_call 191
 refine (rot16_any x1 Ix1.out _).mono ?_
 rintro e w1 ⟨rfl,hb⟩
 rw[ed1]
 have HR6:=Lib.hid (HR5.out.later hb)
 have hB2:=Below.go hB1 hb
 clear hB1 HR5 hb
 have hB1:=hB2
 have HR5:=HR6
 clear hB2 HR6
 go_wp2_with (fail)
 go_at_call 191
 refine (rot12_any y1 Iy1.out _).mono ?_
 rintro e w2 ⟨rfl,hb⟩
 rw[eb1]
 have HR6:=Lib.hid (HR5.out.later hb)
 have hB2:=Below.go hB1 hb
 clear hB1 HR5 hb
 have hB1:=hB2
 have HR5:=HR6
 clear hB2 HR6
 go_wp2_with (fail)
 go_at_call 191
 refine (rot8_any x2 Ix2.out _).mono ?_
 rintro e w3 ⟨rfl,hb⟩
 rw[ed2]
 have HR6:=Lib.hid (HR5.out.later hb)
 have hB2:=Below.go hB1 hb
 clear hB1 HR5 hb
 have hB1:=hB2
 have HR5:=HR6
 clear hB2 HR6
 go_wp2_with (fail)
 go_at_call 191
 refine (rot7_any y2 Iy2.out _).mono ?_
 rintro e w4 ⟨rfl,hb⟩
 rw[eb2]
 have HR6:=Lib.hid (HR5.out.later hb)
 have hB2:=Below.go hB1 hb
 clear hB1 HR5 hb
 have hB1:=hB2
 have HR5:=HR6
 clear hB2 HR6
 have oR:=HR5.out
 have R0:=oR.at 0 _ rfl
 have Rf0:=oR.ok 0 (by simp)
 have R1:=oR.at 1 _ rfl
 have Rf1:=oR.ok 1 (by simp)
 have R2:=oR.at 2 _ rfl
 have Rf2:=oR.ok 2 (by simp)
 have R3:=oR.at 3 _ rfl
 have Rf3:=oR.ok 3 (by simp)
 have Rl:=oR.lt
 clear oR
 go_wp2_with (fail)
 exact bodyPost_ret (v:=(.agg #[.int .u32 a2,.int .u32 b2,.int .u32 c2,.int .u32 d2])) (by simp[results,Tryz.results185,go_sem,R0,R1,R2,R3,Rf0,Rf1,Rf2,Rf3]) rfl ⟨rfl,(by repeat (first | (with_reducible exact Below.refl _ _) | (with_reducible assumption) | (with_reducible refine below_drewN ?_ _) | (with_reducible refine Below.drew ?_) | (with_reducible refine Below.alloc ?_ ?_ _) | (with_reducible refine Below.setCell ?_ ?_ _) | (with_reducible exact Nat.le_refl _) | exact Nat.le_succ _ | (simp;done) | (simp;omega) | omega | fail))⟩
end Go.Proofs.YtbilamnnneddmaaGreatDoor
namespace Go.Proofs.YtbilamnnneddmaaGreatDoor
set_option linter.unusedVariables false
set_option maxRecDepth 2000
set_option linter.unusedSimpArgs false
open Go.RowKit
def nums (k:IntKind) (f:Nat→Int) (n:Nat):List Value:=(List.range n).map fun i => .int k (f i)
theorem nums_length (k:IntKind) (f:Nat→Int) (n:Nat):(nums k f n).length=n:=by simp[nums]
theorem nums_at (k:IntKind) (f:Nat→Int) {n i:Nat} (h:i<n):(nums k f n)[i]?=some (.int k (f i)):=by simp[nums,h]
theorem nums_out (k:IntKind) (f:Nat→Int) {n i:Nat} (h:n≤i):(nums k f n)[i]?=none:=by simp[nums,h]
theorem nums_one (k:IntKind) (f:Nat→Int) (n:Nat):∀ v∈nums k f n,v.oneCell'=true:=by
 intro v hv
 simp[nums] at hv
 obtain⟨i,_,rfl⟩:=hv
 rfl
theorem nums_congr (k:IntKind) {f g:Nat→Int} {n:Nat} (h:∀ i,i<n→f i=g i):nums k f n=nums k g n:=by
 unfold nums
 apply List.map_congr_left
 intro i hi
 rw[h i (by simpa using hi)]
def at1 (f:Nat→Int) (i:Nat) (v:Int):Nat→Int:=fun j=>if j=i then v else f j
theorem nums_set (k:IntKind) (f:Nat→Int) {n i:Nat} (v:Int) (h:i<n):over (nums k f n) i [.int k v]=nums k (at1 f i v) n:=by
 apply List.ext_getElem?
 intro j
 have hl:(nums k f n).length=n:=nums_length k f n
 unfold over
 by_cases hj:j<n
 ·rw[nums_at _ _ hj]
  unfold at1
  by_cases h1:j<i
  ·rw[List.append_assoc,List.getElem?_append_left (by simp[hl];omega),List.getElem?_take_of_lt h1,nums_at _ _ hj,if_neg (by omega)]
  ·by_cases h2:j=i
   ·subst h2
    rw[List.append_assoc,List.getElem?_append_right (by simp[hl];omega)]
    simp[hl,Nat.min_eq_left (Nat.le_of_lt hj)]
   ·rw[List.getElem?_append_right (by simp[hl];omega),List.getElem?_drop,if_neg h2]
    have:i+[Value.int k v].length+(j - ((nums k f n).take i ++ [Value.int k v]).length)=j:=by simp[hl];omega
    rw[this,nums_at _ _ hj]
 ·rw[nums_out _ _ (by omega)]
  simp[hl]
  omega
theorem own_set {k:IntKind} {f:Nat→Int} {n i b:Nat} {v:Int} {W:World} (h:Own b (nums k f n) W) (hi:i<n):Own b (nums k (at1 f i v) n) (W.setCells b i [.int k v]):=by
 have:=Own.part (o:=i) (vs:=[.int k v]) h (by simp[nums_length];omega)
 rwa [nums_set k f v hi] at this
theorem run_part1 {P:Program} {e n i:Nat} {k:IntKind} {f:Nat→Int} {w:World} (hi:i<n) (hs:(sizeOf e).run P w = .ok 1 w) (ha:(isAgg e).run P w = .ok false w) :
  (part e (nums k f n).toArray i).run P w = .ok (.int k (f i)) w:=by
 unfold part
 simp[hs,ha,nums_at k f hi]
theorem store_nums {P:Program} {w:World} {b n:Nat} {cs:List Value} (k:IntKind) (f:Nat→Int) (h:Own b cs w) (hl:cs.length=n):(storeCells ⟨b,0,none⟩ (nums k f n)).run P w = .ok () (w.setCells b 0 (nums k f n)) :=
 run_storeCells_cells (P:=P) b 0 (nums k f n) 0 w (fun j hj=>by simpa using (h.free j (by rw[nums_length] at hj;omega)).1) (fun j hj=>by simpa using (h.free j (by rw[nums_length] at hj;omega)).2) (nums_one _ _ _)
theorem own_store {k k':IntKind} {f g:Nat→Int} {n b:Nat} {W:World} (h:Own b (nums k f n) W):Own b (nums k' g n) (W.setCells b 0 (nums k' g n)):=Own.store h (by rw[nums_length,nums_length])
theorem wpList_move {P:Program} {ops:Array Oper} {rest:List Oper} {op:Oper} {a:Act} {w:World} {Q:Exit→Act→World→Prop} (hgd:op.guard=none) (x:Operand) (ho:op.op = .move x)
  (h:wpList P ops Q rest (a.put op.dst (a.eval x)) w):wpList P ops Q (op :: rest) a w :=
 wpList_plain hgd fun K hK=>by
  unfold Oper.wp execOp
  simp only[ho,Sem.run_pure,Result.andThen_ok]
  exact hK _ _ h
theorem step_load {P:Program} {ops:Array Oper} {o:Oper} {a:Act} {w:World} {K:Act→World→Prop} {Q:Exit→Act→World→Prop} {E:Prop}
  (hw:Region.wanted o (yielded ops a.tmps)=true) (ty:TypeId) (x:Operand) (ho:o.op = .load ty x)
  (b off:Nat) (hx:a.eval x = .pointer (some ⟨b,off,none⟩)) (cs:List Value) (d:TypeDesc) (hc:w.rangeAt b off cs)
  (hu:P.underlying ty=some d) (hd:d.isRow=true) (hi:(P.info? ty).map (·.size)=some cs.length)
  (h:K (a.put o.dst (.agg cs.toArray)) w):if Region.wanted o (yielded ops a.tmps)=true then Oper.wp P o a w K Q else E:=by
 rw[if_pos hw]
 exact wp_load_mid ty x ho b off hx cs d hc hu hd hi h
theorem nums_all (k:IntKind) (f:Nat→Int) (n:Nat):(nums k f n).toArray.all (·.oneCell')=true:=all_oneCell_toArray (nums_one k f n)
theorem nums_size (k:IntKind) (f:Nat→Int) (n:Nat):(nums k f n).toArray.size=n:=by simp[nums_length]
theorem res_cell {P:Program} {fn:Func} {tmps:Array Value} {w:World} {r T:Nat} {a:Addr} {v:Value} (hf:fn.results=#[.cell r T]) (ha:tmps[r]?.getD undef = .pointer (some a)) (hl:(loadVar T a).run P w = .ok v w) :
  (results fn tmps).run P w = .ok v w:=by
 have hx:(asAddr (Value.pointer (some a))).run P w = .ok a w:=by simp[asAddr]
 simp[results,hf,ha,hx,hl]
theorem word_or (b0 b1 b2 b3:Nat) (h0:b0<256) (h1:b1<256) (h2:b2<256) (h3:b3<256) :
  bits .or .u32 (bits .or .u32 (bits .or .u32 (b0:Int) ((b1:Int)*256%4294967296)) ((b2:Int)*65536%4294967296)) ((b3:Int)*16777216%4294967296)=((b0+256*b1+65536*b2+16777216*b3:Nat):Int):=by
 have e1:(b1:Int)*256%4294967296=((256*b1:Nat):Int):=by omega
 have e2:(b2:Int)*65536%4294967296=((65536*b2:Nat):Int):=by omega
 have e3:(b3:Int)*16777216%4294967296=((16777216*b3:Nat):Int):=by omega
 rw[e1,e2,e3,u32_or_nat _ _ (by omega) (by omega)]
 have f1:b0 ||| 256*b1=b0+256*b1:=by rw[Nat.or_comm,nat_join 8 _ _ (by omega) (by omega)];omega
 rw[f1,u32_or_nat _ _ (by omega) (by omega)]
 have f2:b0+256*b1 ||| 65536*b2=b0+256*b1+65536*b2:=by rw[Nat.or_comm,nat_join 16 _ _ (by omega) (by omega)];omega
 rw[f2,u32_or_nat _ _ (by omega) (by omega)]
 have f3:b0+256*b1+65536*b2 ||| 16777216*b3=b0+256*b1+65536*b2+16777216*b3:=by rw[Nat.or_comm,nat_join 24 _ _ (by omega) (by omega)];omega
 rw[f3]
def word (g:Nat→Int) (o:Nat):Int:=g o+256*g (o+1)+65536*g (o+2)+16777216*g (o+3)
theorem in_word {g:Nat→Int} {o:Nat} (h:∀ i,o≤i→i<o+4→inB (g i)):in32 (word g o):=by
 have h0:=h o (by omega) (by omega)
 have h1:=h (o+1) (by omega) (by omega)
 have h2:=h (o+2) (by omega) (by omega)
 have h3:=h (o+3) (by omega) (by omega)
 unfold in32 word inB at *
 omega
theorem word_or' (b0 b1 b2 b3:Int) (h0:inB b0) (h1:inB b1) (h2:inB b2) (h3:inB b3) :
  bits .or .u32 (bits .or .u32 (bits .or .u32 b0 (b1*256%4294967296)) (b2*65536%4294967296)) (b3*16777216%4294967296)=b0+256*b1+65536*b2+16777216*b3:=by
 unfold inB at *
 have:=word_or b0.toNat b1.toNat b2.toNat b3.toNat (by omega) (by omega) (by omega) (by omega)
 rw[Int.toNat_of_nonneg h0.1,Int.toNat_of_nonneg h1.1,Int.toNat_of_nonneg h2.1,Int.toNat_of_nonneg h3.1] at this
 rw[this]
 omega
end Go.Proofs.YtbilamnnneddmaaGreatDoor
namespace Go.Proofs.YtbilamnnneddmaaGreatDoor
set_option linter.unusedVariables false
set_option maxRecDepth 2000
set_option linter.unusedSimpArgs false
open Go.RowKit
theorem conv_u8 (b:Int) (h:inB b):b%4294967296=b∧IntKind.u32.wrap b=b:=by
 unfold inB at h
 rw[IntKind.wrap_u32']
 omega
theorem cnumber_any (K o n c:Nat) (b0 b1 b2 b3:Int) (h0:inB b0) (h1:inB b1) (h2:inB b2) (h3:inB b3) (hn:4≤n) (w:World) (hk:Has K o [.int .u8 b0,.int .u8 b1,.int .u8 b2,.int .u8 b3] w) :
  Calls Tryz.prog 184 #[.slice (some ⟨K,o,none⟩) n c] w fun e w'=>e = .returned (.int .u32 (b0+256*b1+65536*b2+16777216*b3))∧Below w.heap.size w w':=by
 have hw:=Lib.hid (word_or' b0 b1 b2 b3 h0 h1 h2 h3)
 have k0:=hk.at 0 _ rfl;have k1:=hk.at 1 _ rfl;have k2:=hk.at 2 _ rfl;have k3:=hk.at 3 _ rfl
 rw[Nat.add_zero] at k0
 have n0:(0:Int)<(n:Int):=by omega
 have N0:0<n:=by omega
 have n1:(1:Int)<(n:Int):=by omega
 have n2:(2:Int)<(n:Int):=by omega
 have n3:(3:Int)<(n:Int):=by omega
 have v0:=(conv_u8 b0 h0).1;have v1:=(conv_u8 b1 h1).1;have v2:=(conv_u8 b2 h2).1;have v3:=(conv_u8 b3 h3).1
 have q0:=(conv_u8 b0 h0).2;have q1:=(conv_u8 b1 h1).2;have q2:=(conv_u8 b2 h2).2;have q3:=(conv_u8 b3 h3).2
 clear hk hn h0 h1 h2 h3
 go_enter Tryz.func184,Tryz.ntmps184
 go_wp2_with (fail)
 go_quiet (fail)
 have hBd:Below w.heap.size w (w.drewN nq):=below_drewN (Below.refl _ _) _
 go_wp2_with (fail)
 exact bodyPost_ret (v := .int .u32 (b0+256*b1+65536*b2+16777216*b3)) (by simp[results,Tryz.results184,IntKind.wrap_u32',hw.out]) rfl ⟨rfl,hBd⟩
end Go.Proofs.YtbilamnnneddmaaGreatDoor
namespace Go.Proofs.YtbilamnnneddmaaGreatDoor
set_option linter.unusedVariables false
set_option maxRecDepth 2000
set_option linter.unusedSimpArgs false
open Go.RowKit
def stF (kf:Nat→Int) (c:Int) (nf:Nat→Int) (j:Nat):Int :=
 if j=0 then 1634760805 else if j=1 then 857760878 else if j=2 then 2036477234 else if j=3 then 1797285236
 else if j<12 then word kf (4*(j - 4)) else if j=12 then c else word nf (4*(j - 13))
theorem own_has4 {K N o:Nat} {f:Nat→Int} {W:World} (h:Own K (nums .u8 f N) W) (ho:o+4≤N):Has K o [.int .u8 (f o),.int .u8 (f (o+1)),.int .u8 (f (o+2)),.int .u8 (f (o+3))] W where
 lt:=h.lt
 cell:=fun j v hv=>by
  match j,hv with
  | 0,hv=>exact h.at o v ((nums_at _ _ (by omega)).trans hv)
  | 1,hv=>exact h.at (o+1) v ((nums_at _ _ (by omega)).trans hv)
  | 2,hv=>exact h.at (o+2) v ((nums_at _ _ (by omega)).trans hv)
  | 3,hv=>exact h.at (o+3) v ((nums_at _ _ (by omega)).trans hv)
  | j+4,hv=>cases hv
theorem number_own (K o n c N:Nat) (f:Nat→Int) (hf:∀ i,i<N→inB (f i)) (hn:4≤n) (ho:o+4≤N) (w:World) (h:Own K (nums .u8 f N) w):Calls Tryz.prog 184 #[.slice (some ⟨K,o,none⟩) n c] w fun e w'=>e = .returned (.int .u32 (word f o))∧Below w.heap.size w w' :=
 cnumber_any K o n c _ _ _ _ (hf _ (by omega)) (hf _ (by omega)) (hf _ (by omega)) (hf _ (by omega)) hn w (own_has4 h ho)
set_option maxHeartbeats 8000000 in
theorem State_any (kf nf:Nat→Int) (c:Int) (hk:∀ i,i<32→inB (kf i)) (hn:∀ i,i<12→inB (nf i)) (w:World) :
  Calls Tryz.prog 162 #[(.agg (nums .u8 kf 32).toArray),.int .u32 c,(.agg (nums .u8 nf 12).toArray)] w fun e w'=>e = .returned (.agg (nums .u32 (stF kf c nf) 16).toArray)∧Below w.heap.size w w':=by
 have FK:=Lib.hid hk;have FN:=Lib.hid hn
 clear hk hn
 obtain⟨k0,ek0⟩:∃ z,word kf 0=z:=⟨_,rfl⟩
 obtain⟨k1,ek1⟩:∃ z,word kf 4=z:=⟨_,rfl⟩
 obtain⟨k2,ek2⟩:∃ z,word kf 8=z:=⟨_,rfl⟩
 obtain⟨k3,ek3⟩:∃ z,word kf 12=z:=⟨_,rfl⟩
 obtain⟨k4,ek4⟩:∃ z,word kf 16=z:=⟨_,rfl⟩
 obtain⟨k5,ek5⟩:∃ z,word kf 20=z:=⟨_,rfl⟩
 obtain⟨k6,ek6⟩:∃ z,word kf 24=z:=⟨_,rfl⟩
 obtain⟨k7,ek7⟩:∃ z,word kf 28=z:=⟨_,rfl⟩
 obtain⟨m0,em0⟩:∃ z,word nf 0=z:=⟨_,rfl⟩
 obtain⟨m1,em1⟩:∃ z,word nf 4=z:=⟨_,rfl⟩
 obtain⟨m2,em2⟩:∃ z,word nf 8=z:=⟨_,rfl⟩
 have HF:nums .u32 (stF kf c nf) 16=[.int .u32 1634760805,.int .u32 857760878,.int .u32 2036477234,.int .u32 1797285236,.int .u32 k0,.int .u32 k1,.int .u32 k2,.int .u32 k3,.int .u32 k4,.int .u32 k5,.int .u32 k6,.int .u32 k7,.int .u32 c,.int .u32 m0,.int .u32 m1,.int .u32 m2]:=by
  rw[← ek0,← ek1,← ek2,← ek3,← ek4,← ek5,← ek6,← ek7,← em0,← em1,← em2]
  rfl
 rw[HF]
 clear HF
 go_enter Tryz.func162,Tryz.ntmps162
 go_upto_region 1 with fail
 obtain⟨W0,hW⟩:∃ W0,W0=(((w.alloc (.cells (nums .u8 kf 32).toArray 22)).alloc (.cells (nums .u8 nf 12).toArray 54)).alloc (.cells #[.int .u32 0,.int .u32 0,.int .u32 0,.int .u32 0,.int .u32 0,.int .u32 0,.int .u32 0,.int .u32 0,.int .u32 0,.int .u32 0,.int .u32 0,.int .u32 0,.int .u32 0,.int .u32 0,.int .u32 0,.int .u32 0] 219)):=⟨_,rfl⟩
 have hB0:Below w.heap.size w W0:=hW ▸ (Below.al (Below.al (Below.al (Below.refl _ _))))
 have HK:Hid (Own w.heap.size (nums .u8 kf 32) W0):=Lib.hid (hW ▸ (show Own w.heap.size (nums .u8 kf 32) (w.alloc (.cells (nums .u8 kf 32).toArray 22)) from Own.newAt (by simp)).alloc.alloc)
 have HM:Hid (Own (w.heap.size+1) (nums .u8 nf 12) W0):=Lib.hid (hW ▸ (show Own (w.heap.size+1) (nums .u8 nf 12) ((w.alloc (.cells (nums .u8 kf 32).toArray 22)).alloc (.cells (nums .u8 nf 12).toArray 54)) from Own.newAt (by simp)).alloc)
 have HR:Hid (Own ((w.heap.size+1)+1) ([.int .u32 0,.int .u32 0,.int .u32 0,.int .u32 0,.int .u32 0,.int .u32 0,.int .u32 0,.int .u32 0,.int .u32 0,.int .u32 0,.int .u32 0,.int .u32 0,.int .u32 0,.int .u32 0,.int .u32 0,.int .u32 0]) W0):=Lib.hid (hW ▸ (show Own ((w.heap.size+1)+1) ([.int .u32 0,.int .u32 0,.int .u32 0,.int .u32 0,.int .u32 0,.int .u32 0,.int .u32 0,.int .u32 0,.int .u32 0,.int .u32 0,.int .u32 0,.int .u32 0,.int .u32 0,.int .u32 0,.int .u32 0,.int .u32 0]) (((w.alloc (.cells (nums .u8 kf 32).toArray 22)).alloc (.cells (nums .u8 nf 12).toArray 54)).alloc (.cells #[.int .u32 0,.int .u32 0,.int .u32 0,.int .u32 0,.int .u32 0,.int .u32 0,.int .u32 0,.int .u32 0,.int .u32 0,.int .u32 0,.int .u32 0,.int .u32 0,.int .u32 0,.int .u32 0,.int .u32 0,.int .u32 0] 219)) from Own.newAt (by simp)))
 rw[← hW]
 clear hW
 obtain⟨R,eR⟩:∃ X,X=((w.heap.size+1)+1):=⟨_,rfl⟩
 rw[← eR] at HR ⊢
 have Rw:w.heap.size≤R:=by omega
 obtain⟨M,eM⟩:∃ X,X=(w.heap.size+1):=⟨_,rfl⟩
 rw[← eM] at HM ⊢
 have Mw:w.heap.size≤M:=by omega
 obtain⟨K,eK⟩:∃ X,X=w.heap.size:=⟨_,rfl⟩
 rw[← eK] at HK ⊢
 have Kw:w.heap.size≤K:=by omega
 have nKM:K≠M:=by omega
 have nMK:M≠K:=by omega
 have nKR:K≠R:=by omega
 have nRK:R≠K:=by omega
 have nMR:M≠R:=by omega
 have nRM:R≠M:=by omega
 clear eK eM eR
 go_upto_region 2 with fail
 obtain⟨w0,hW⟩:∃ w0,w0=(W0.alloc (.cells #[.int .u32 1634760805,.int .u32 857760878,.int .u32 2036477234,.int .u32 1797285236,.int .u32 0,.int .u32 0,.int .u32 0,.int .u32 0,.int .u32 0,.int .u32 0,.int .u32 0,.int .u32 0,.int .u32 c,.int .u32 0,.int .u32 0,.int .u32 0] 219)):=⟨_,rfl⟩
 have hBx:Below W0.heap.size W0 w0:=hW ▸ (Below.al (Below.refl _ _))
 have HS:Hid (Own W0.heap.size ([.int .u32 1634760805,.int .u32 857760878,.int .u32 2036477234,.int .u32 1797285236,.int .u32 0,.int .u32 0,.int .u32 0,.int .u32 0,.int .u32 0,.int .u32 0,.int .u32 0,.int .u32 0,.int .u32 c,.int .u32 0,.int .u32 0,.int .u32 0]) w0):=Lib.hid (hW ▸ (show Own W0.heap.size ([.int .u32 1634760805,.int .u32 857760878,.int .u32 2036477234,.int .u32 1797285236,.int .u32 0,.int .u32 0,.int .u32 0,.int .u32 0,.int .u32 0,.int .u32 0,.int .u32 0,.int .u32 0,.int .u32 c,.int .u32 0,.int .u32 0,.int .u32 0]) (W0.alloc (.cells #[.int .u32 1634760805,.int .u32 857760878,.int .u32 2036477234,.int .u32 1797285236,.int .u32 0,.int .u32 0,.int .u32 0,.int .u32 0,.int .u32 0,.int .u32 0,.int .u32 0,.int .u32 0,.int .u32 c,.int .u32 0,.int .u32 0,.int .u32 0] 219)) from Own.newAt (by simp)))
 rw[← hW]
 clear hW
 obtain⟨S,eS⟩:∃ X,X=W0.heap.size:=⟨_,rfl⟩
 rw[← eS] at HS ⊢
 have Sw:W0.heap.size≤S:=by omega
 clear eS
 have nSK:S≠K:=by have:=HK.out.lt;omega
 have nKS:K≠S:=Ne.symm nSK
 have nSM:S≠M:=by have:=HM.out.lt;omega
 have nMS:M≠S:=Ne.symm nSM
 have nSR:S≠R:=by have:=HR.out.lt;omega
 have nRS:R≠S:=Ne.symm nSR
 have Sw2:w.heap.size≤S:=by have:=hB0.size;omega
 clear Sw
 have Sw:=Sw2
 clear Sw2
 have HKk:=Lib.hid (HK.out.later hBx)
 have HMk:=Lib.hid (HM.out.later hBx)
 have HRk:=Lib.hid (HR.out.later hBx)
 clear HK HM HR
 have HK:=HKk
 clear HKk
 have HM:=HMk
 clear HMk
 have HR:=HRk
 clear HRk
 have hB0n:=Below.go hB0 hBx
 clear hB0 hBx
 have hB0:=hB0n
 clear hB0n
 go_wp2_with (fail)
 refine wp_loop_rounds 9 ?_
 rw[rounds_succ]
 go_wp2_with (fail)
 go_at_call 184
 refine (number_own K 0 _ _ 32 kf FK.out (by decide) (by decide) _ HK.out).mono ?_
 rintro e w1 ⟨rfl,hb⟩
 rw[ek0]
 have HSk:=Lib.hid (HS.out.later hb)
 have HKk:=Lib.hid (HK.out.later hb)
 have HMk:=Lib.hid (HM.out.later hb)
 have HRk:=Lib.hid (HR.out.later hb)
 clear HS HK HM HR
 have HS:=HSk
 clear HSk
 have HK:=HKk
 clear HKk
 have HM:=HMk
 clear HMk
 have HR:=HRk
 clear HRk
 have hB1:=Below.go hB0 hb
 clear hB0 hb
 have hB0:=hB1
 clear hB1
 have oS:=HS.out
 have S4:=oS.at 4 _ rfl
 have Sf4:=oS.ok 4 (by simp)
 have Sl:=oS.lt
 clear oS
 go_wp2_with (fail)
 clear S4 Sf4 Sl
 change Code.rounds _ _ _ _ _ (w1.setCells S 4 [.int .u32 k0])
 have HSn:Hid (Own S ([.int .u32 1634760805,.int .u32 857760878,.int .u32 2036477234,.int .u32 1797285236,.int .u32 k0,.int .u32 0,.int .u32 0,.int .u32 0,.int .u32 0,.int .u32 0,.int .u32 0,.int .u32 0,.int .u32 c,.int .u32 0,.int .u32 0,.int .u32 0]) (w1.setCells S 4 [.int .u32 k0])):=Lib.hid (show Own S (over _ 4 [.int .u32 k0]) _ from Own.part HS.out (by simp))
 have HKn:Hid (Own K (nums .u8 kf 32) (w1.setCells S 4 [.int .u32 k0])):=Lib.hid (Own.far (o:=4) (vs:=[.int .u32 k0]) HK.out nKS)
 have HMn:Hid (Own M (nums .u8 nf 12) (w1.setCells S 4 [.int .u32 k0])):=Lib.hid (Own.far (o:=4) (vs:=[.int .u32 k0]) HM.out nMS)
 have HRn:Hid (Own R ([.int .u32 0,.int .u32 0,.int .u32 0,.int .u32 0,.int .u32 0,.int .u32 0,.int .u32 0,.int .u32 0,.int .u32 0,.int .u32 0,.int .u32 0,.int .u32 0,.int .u32 0,.int .u32 0,.int .u32 0,.int .u32 0]) (w1.setCells S 4 [.int .u32 k0])):=Lib.hid (Own.far (o:=4) (vs:=[.int .u32 k0]) HR.out nRS)
 have hB0n:Below w.heap.size w (w1.setCells S 4 [.int .u32 k0]):=Below.setCells hB0 Sw [.int .u32 k0] 4
 clear HS HK HM HR hB0
 generalize (w1.setCells S 4 [.int .u32 k0])=w2 at *
 have HS:=HSn
 clear HSn
 have HK:=HKn
 clear HKn
 have HM:=HMn
 clear HMn
 have HR:=HRn
 clear HRn
 have hB0:=hB0n
 clear hB0n
 rw[rounds_succ]
 go_wp2_with (fail)
 go_at_call 184
 refine (number_own K 4 _ _ 32 kf FK.out (by decide) (by decide) _ HK.out).mono ?_
 rintro e w1 ⟨rfl,hb⟩
 rw[ek1]
 have HSk:=Lib.hid (HS.out.later hb)
 have HKk:=Lib.hid (HK.out.later hb)
 have HMk:=Lib.hid (HM.out.later hb)
 have HRk:=Lib.hid (HR.out.later hb)
 clear HS HK HM HR
 have HS:=HSk
 clear HSk
 have HK:=HKk
 clear HKk
 have HM:=HMk
 clear HMk
 have HR:=HRk
 clear HRk
 have hB1:=Below.go hB0 hb
 clear hB0 hb
 have hB0:=hB1
 clear hB1
 have oS:=HS.out
 have S5:=oS.at 5 _ rfl
 have Sf5:=oS.ok 5 (by simp)
 have Sl:=oS.lt
 clear oS
 go_wp2_with (fail)
 clear S5 Sf5 Sl
 change Code.rounds _ _ _ _ _ (w1.setCells S 5 [.int .u32 k1])
 have HSn:Hid (Own S ([.int .u32 1634760805,.int .u32 857760878,.int .u32 2036477234,.int .u32 1797285236,.int .u32 k0,.int .u32 k1,.int .u32 0,.int .u32 0,.int .u32 0,.int .u32 0,.int .u32 0,.int .u32 0,.int .u32 c,.int .u32 0,.int .u32 0,.int .u32 0]) (w1.setCells S 5 [.int .u32 k1])):=Lib.hid (show Own S (over _ 5 [.int .u32 k1]) _ from Own.part HS.out (by simp))
 have HKn:Hid (Own K (nums .u8 kf 32) (w1.setCells S 5 [.int .u32 k1])):=Lib.hid (Own.far (o:=5) (vs:=[.int .u32 k1]) HK.out nKS)
 have HMn:Hid (Own M (nums .u8 nf 12) (w1.setCells S 5 [.int .u32 k1])):=Lib.hid (Own.far (o:=5) (vs:=[.int .u32 k1]) HM.out nMS)
 have HRn:Hid (Own R ([.int .u32 0,.int .u32 0,.int .u32 0,.int .u32 0,.int .u32 0,.int .u32 0,.int .u32 0,.int .u32 0,.int .u32 0,.int .u32 0,.int .u32 0,.int .u32 0,.int .u32 0,.int .u32 0,.int .u32 0,.int .u32 0]) (w1.setCells S 5 [.int .u32 k1])):=Lib.hid (Own.far (o:=5) (vs:=[.int .u32 k1]) HR.out nRS)
 have hB0n:Below w.heap.size w (w1.setCells S 5 [.int .u32 k1]):=Below.setCells hB0 Sw [.int .u32 k1] 5
 clear HS HK HM HR hB0
 generalize (w1.setCells S 5 [.int .u32 k1])=w2 at *
 have HS:=HSn
 clear HSn
 have HK:=HKn
 clear HKn
 have HM:=HMn
 clear HMn
 have HR:=HRn
 clear HRn
 have hB0:=hB0n
 clear hB0n
 rw[rounds_succ]
 go_wp2_with (fail)
 go_at_call 184
 refine (number_own K 8 _ _ 32 kf FK.out (by decide) (by decide) _ HK.out).mono ?_
 rintro e w1 ⟨rfl,hb⟩
 rw[ek2]
 have HSk:=Lib.hid (HS.out.later hb)
 have HKk:=Lib.hid (HK.out.later hb)
 have HMk:=Lib.hid (HM.out.later hb)
 have HRk:=Lib.hid (HR.out.later hb)
 clear HS HK HM HR
 have HS:=HSk
 clear HSk
 have HK:=HKk
 clear HKk
 have HM:=HMk
 clear HMk
 have HR:=HRk
 clear HRk
 have hB1:=Below.go hB0 hb
 clear hB0 hb
 have hB0:=hB1
 clear hB1
 have oS:=HS.out
 have S6:=oS.at 6 _ rfl
 have Sf6:=oS.ok 6 (by simp)
 have Sl:=oS.lt
 clear oS
 go_wp2_with (fail)
 clear S6 Sf6 Sl
 change Code.rounds _ _ _ _ _ (w1.setCells S 6 [.int .u32 k2])
 have HSn:Hid (Own S ([.int .u32 1634760805,.int .u32 857760878,.int .u32 2036477234,.int .u32 1797285236,.int .u32 k0,.int .u32 k1,.int .u32 k2,.int .u32 0,.int .u32 0,.int .u32 0,.int .u32 0,.int .u32 0,.int .u32 c,.int .u32 0,.int .u32 0,.int .u32 0]) (w1.setCells S 6 [.int .u32 k2])):=Lib.hid (show Own S (over _ 6 [.int .u32 k2]) _ from Own.part HS.out (by simp))
 have HKn:Hid (Own K (nums .u8 kf 32) (w1.setCells S 6 [.int .u32 k2])):=Lib.hid (Own.far (o:=6) (vs:=[.int .u32 k2]) HK.out nKS)
 have HMn:Hid (Own M (nums .u8 nf 12) (w1.setCells S 6 [.int .u32 k2])):=Lib.hid (Own.far (o:=6) (vs:=[.int .u32 k2]) HM.out nMS)
 have HRn:Hid (Own R ([.int .u32 0,.int .u32 0,.int .u32 0,.int .u32 0,.int .u32 0,.int .u32 0,.int .u32 0,.int .u32 0,.int .u32 0,.int .u32 0,.int .u32 0,.int .u32 0,.int .u32 0,.int .u32 0,.int .u32 0,.int .u32 0]) (w1.setCells S 6 [.int .u32 k2])):=Lib.hid (Own.far (o:=6) (vs:=[.int .u32 k2]) HR.out nRS)
 have hB0n:Below w.heap.size w (w1.setCells S 6 [.int .u32 k2]):=Below.setCells hB0 Sw [.int .u32 k2] 6
 clear HS HK HM HR hB0
 generalize (w1.setCells S 6 [.int .u32 k2])=w2 at *
 have HS:=HSn
 clear HSn
 have HK:=HKn
 clear HKn
 have HM:=HMn
 clear HMn
 have HR:=HRn
 clear HRn
 have hB0:=hB0n
 clear hB0n
 rw[rounds_succ]
 go_wp2_with (fail)
 go_at_call 184
 refine (number_own K 12 _ _ 32 kf FK.out (by decide) (by decide) _ HK.out).mono ?_
 rintro e w1 ⟨rfl,hb⟩
 rw[ek3]
 have HSk:=Lib.hid (HS.out.later hb)
 have HKk:=Lib.hid (HK.out.later hb)
 have HMk:=Lib.hid (HM.out.later hb)
 have HRk:=Lib.hid (HR.out.later hb)
 clear HS HK HM HR
 have HS:=HSk
 clear HSk
 have HK:=HKk
 clear HKk
 have HM:=HMk
 clear HMk
 have HR:=HRk
 clear HRk
 have hB1:=Below.go hB0 hb
 clear hB0 hb
 have hB0:=hB1
 clear hB1
 have oS:=HS.out
 have S7:=oS.at 7 _ rfl
 have Sf7:=oS.ok 7 (by simp)
 have Sl:=oS.lt
 clear oS
 go_wp2_with (fail)
 clear S7 Sf7 Sl
 change Code.rounds _ _ _ _ _ (w1.setCells S 7 [.int .u32 k3])
 have HSn:Hid (Own S ([.int .u32 1634760805,.int .u32 857760878,.int .u32 2036477234,.int .u32 1797285236,.int .u32 k0,.int .u32 k1,.int .u32 k2,.int .u32 k3,.int .u32 0,.int .u32 0,.int .u32 0,.int .u32 0,.int .u32 c,.int .u32 0,.int .u32 0,.int .u32 0]) (w1.setCells S 7 [.int .u32 k3])):=Lib.hid (show Own S (over _ 7 [.int .u32 k3]) _ from Own.part HS.out (by simp))
 have HKn:Hid (Own K (nums .u8 kf 32) (w1.setCells S 7 [.int .u32 k3])):=Lib.hid (Own.far (o:=7) (vs:=[.int .u32 k3]) HK.out nKS)
 have HMn:Hid (Own M (nums .u8 nf 12) (w1.setCells S 7 [.int .u32 k3])):=Lib.hid (Own.far (o:=7) (vs:=[.int .u32 k3]) HM.out nMS)
 have HRn:Hid (Own R ([.int .u32 0,.int .u32 0,.int .u32 0,.int .u32 0,.int .u32 0,.int .u32 0,.int .u32 0,.int .u32 0,.int .u32 0,.int .u32 0,.int .u32 0,.int .u32 0,.int .u32 0,.int .u32 0,.int .u32 0,.int .u32 0]) (w1.setCells S 7 [.int .u32 k3])):=Lib.hid (Own.far (o:=7) (vs:=[.int .u32 k3]) HR.out nRS)
 have hB0n:Below w.heap.size w (w1.setCells S 7 [.int .u32 k3]):=Below.setCells hB0 Sw [.int .u32 k3] 7
 clear HS HK HM HR hB0
 generalize (w1.setCells S 7 [.int .u32 k3])=w2 at *
 have HS:=HSn
 clear HSn
 have HK:=HKn
 clear HKn
 have HM:=HMn
 clear HMn
 have HR:=HRn
 clear HRn
 have hB0:=hB0n
 clear hB0n
 rw[rounds_succ]
 go_wp2_with (fail)
 go_at_call 184
 refine (number_own K 16 _ _ 32 kf FK.out (by decide) (by decide) _ HK.out).mono ?_
 rintro e w1 ⟨rfl,hb⟩
 rw[ek4]
 have HSk:=Lib.hid (HS.out.later hb)
 have HKk:=Lib.hid (HK.out.later hb)
 have HMk:=Lib.hid (HM.out.later hb)
 have HRk:=Lib.hid (HR.out.later hb)
 clear HS HK HM HR
 have HS:=HSk
 clear HSk
 have HK:=HKk
 clear HKk
 have HM:=HMk
 clear HMk
 have HR:=HRk
 clear HRk
 have hB1:=Below.go hB0 hb
 clear hB0 hb
 have hB0:=hB1
 clear hB1
 have oS:=HS.out
 have S8:=oS.at 8 _ rfl
 have Sf8:=oS.ok 8 (by simp)
 have Sl:=oS.lt
 clear oS
 go_wp2_with (fail)
 clear S8 Sf8 Sl
 change Code.rounds _ _ _ _ _ (w1.setCells S 8 [.int .u32 k4])
 have HSn:Hid (Own S ([.int .u32 1634760805,.int .u32 857760878,.int .u32 2036477234,.int .u32 1797285236,.int .u32 k0,.int .u32 k1,.int .u32 k2,.int .u32 k3,.int .u32 k4,.int .u32 0,.int .u32 0,.int .u32 0,.int .u32 c,.int .u32 0,.int .u32 0,.int .u32 0]) (w1.setCells S 8 [.int .u32 k4])):=Lib.hid (show Own S (over _ 8 [.int .u32 k4]) _ from Own.part HS.out (by simp))
 have HKn:Hid (Own K (nums .u8 kf 32) (w1.setCells S 8 [.int .u32 k4])):=Lib.hid (Own.far (o:=8) (vs:=[.int .u32 k4]) HK.out nKS)
 have HMn:Hid (Own M (nums .u8 nf 12) (w1.setCells S 8 [.int .u32 k4])):=Lib.hid (Own.far (o:=8) (vs:=[.int .u32 k4]) HM.out nMS)
 have HRn:Hid (Own R ([.int .u32 0,.int .u32 0,.int .u32 0,.int .u32 0,.int .u32 0,.int .u32 0,.int .u32 0,.int .u32 0,.int .u32 0,.int .u32 0,.int .u32 0,.int .u32 0,.int .u32 0,.int .u32 0,.int .u32 0,.int .u32 0]) (w1.setCells S 8 [.int .u32 k4])):=Lib.hid (Own.far (o:=8) (vs:=[.int .u32 k4]) HR.out nRS)
 have hB0n:Below w.heap.size w (w1.setCells S 8 [.int .u32 k4]):=Below.setCells hB0 Sw [.int .u32 k4] 8
 clear HS HK HM HR hB0
 generalize (w1.setCells S 8 [.int .u32 k4])=w2 at *
 have HS:=HSn
 clear HSn
 have HK:=HKn
 clear HKn
 have HM:=HMn
 clear HMn
 have HR:=HRn
 clear HRn
 have hB0:=hB0n
 clear hB0n
 rw[rounds_succ]
 go_wp2_with (fail)
 go_at_call 184
 refine (number_own K 20 _ _ 32 kf FK.out (by decide) (by decide) _ HK.out).mono ?_
 rintro e w1 ⟨rfl,hb⟩
 rw[ek5]
 have HSk:=Lib.hid (HS.out.later hb)
 have HKk:=Lib.hid (HK.out.later hb)
 have HMk:=Lib.hid (HM.out.later hb)
 have HRk:=Lib.hid (HR.out.later hb)
 clear HS HK HM HR
 have HS:=HSk
 clear HSk
 have HK:=HKk
 clear HKk
 have HM:=HMk
 clear HMk
 have HR:=HRk
 clear HRk
 have hB1:=Below.go hB0 hb
 clear hB0 hb
 have hB0:=hB1
 clear hB1
 have oS:=HS.out
 have S9:=oS.at 9 _ rfl
 have Sf9:=oS.ok 9 (by simp)
 have Sl:=oS.lt
 clear oS
 go_wp2_with (fail)
 clear S9 Sf9 Sl
 change Code.rounds _ _ _ _ _ (w1.setCells S 9 [.int .u32 k5])
 have HSn:Hid (Own S ([.int .u32 1634760805,.int .u32 857760878,.int .u32 2036477234,.int .u32 1797285236,.int .u32 k0,.int .u32 k1,.int .u32 k2,.int .u32 k3,.int .u32 k4,.int .u32 k5,.int .u32 0,.int .u32 0,.int .u32 c,.int .u32 0,.int .u32 0,.int .u32 0]) (w1.setCells S 9 [.int .u32 k5])):=Lib.hid (show Own S (over _ 9 [.int .u32 k5]) _ from Own.part HS.out (by simp))
 have HKn:Hid (Own K (nums .u8 kf 32) (w1.setCells S 9 [.int .u32 k5])):=Lib.hid (Own.far (o:=9) (vs:=[.int .u32 k5]) HK.out nKS)
 have HMn:Hid (Own M (nums .u8 nf 12) (w1.setCells S 9 [.int .u32 k5])):=Lib.hid (Own.far (o:=9) (vs:=[.int .u32 k5]) HM.out nMS)
 have HRn:Hid (Own R ([.int .u32 0,.int .u32 0,.int .u32 0,.int .u32 0,.int .u32 0,.int .u32 0,.int .u32 0,.int .u32 0,.int .u32 0,.int .u32 0,.int .u32 0,.int .u32 0,.int .u32 0,.int .u32 0,.int .u32 0,.int .u32 0]) (w1.setCells S 9 [.int .u32 k5])):=Lib.hid (Own.far (o:=9) (vs:=[.int .u32 k5]) HR.out nRS)
 have hB0n:Below w.heap.size w (w1.setCells S 9 [.int .u32 k5]):=Below.setCells hB0 Sw [.int .u32 k5] 9
 clear HS HK HM HR hB0
 generalize (w1.setCells S 9 [.int .u32 k5])=w2 at *
 have HS:=HSn
 clear HSn
 have HK:=HKn
 clear HKn
 have HM:=HMn
 clear HMn
 have HR:=HRn
 clear HRn
 have hB0:=hB0n
 clear hB0n
 rw[rounds_succ]
 go_wp2_with (fail)
 go_at_call 184
 refine (number_own K 24 _ _ 32 kf FK.out (by decide) (by decide) _ HK.out).mono ?_
 rintro e w1 ⟨rfl,hb⟩
 rw[ek6]
 have HSk:=Lib.hid (HS.out.later hb)
 have HKk:=Lib.hid (HK.out.later hb)
 have HMk:=Lib.hid (HM.out.later hb)
 have HRk:=Lib.hid (HR.out.later hb)
 clear HS HK HM HR
 have HS:=HSk
 clear HSk
 have HK:=HKk
 clear HKk
 have HM:=HMk
 clear HMk
 have HR:=HRk
 clear HRk
 have hB1:=Below.go hB0 hb
 clear hB0 hb
 have hB0:=hB1
 clear hB1
 have oS:=HS.out
 have S10:=oS.at 10 _ rfl
 have Sf10:=oS.ok 10 (by simp)
 have Sl:=oS.lt
 clear oS
 go_wp2_with (fail)
 clear S10 Sf10 Sl
 change Code.rounds _ _ _ _ _ (w1.setCells S 10 [.int .u32 k6])
 have HSn:Hid (Own S ([.int .u32 1634760805,.int .u32 857760878,.int .u32 2036477234,.int .u32 1797285236,.int .u32 k0,.int .u32 k1,.int .u32 k2,.int .u32 k3,.int .u32 k4,.int .u32 k5,.int .u32 k6,.int .u32 0,.int .u32 c,.int .u32 0,.int .u32 0,.int .u32 0]) (w1.setCells S 10 [.int .u32 k6])):=Lib.hid (show Own S (over _ 10 [.int .u32 k6]) _ from Own.part HS.out (by simp))
 have HKn:Hid (Own K (nums .u8 kf 32) (w1.setCells S 10 [.int .u32 k6])):=Lib.hid (Own.far (o:=10) (vs:=[.int .u32 k6]) HK.out nKS)
 have HMn:Hid (Own M (nums .u8 nf 12) (w1.setCells S 10 [.int .u32 k6])):=Lib.hid (Own.far (o:=10) (vs:=[.int .u32 k6]) HM.out nMS)
 have HRn:Hid (Own R ([.int .u32 0,.int .u32 0,.int .u32 0,.int .u32 0,.int .u32 0,.int .u32 0,.int .u32 0,.int .u32 0,.int .u32 0,.int .u32 0,.int .u32 0,.int .u32 0,.int .u32 0,.int .u32 0,.int .u32 0,.int .u32 0]) (w1.setCells S 10 [.int .u32 k6])):=Lib.hid (Own.far (o:=10) (vs:=[.int .u32 k6]) HR.out nRS)
 have hB0n:Below w.heap.size w (w1.setCells S 10 [.int .u32 k6]):=Below.setCells hB0 Sw [.int .u32 k6] 10
 clear HS HK HM HR hB0
 generalize (w1.setCells S 10 [.int .u32 k6])=w2 at *
 have HS:=HSn
 clear HSn
 have HK:=HKn
 clear HKn
 have HM:=HMn
 clear HMn
 have HR:=HRn
 clear HRn
 have hB0:=hB0n
 clear hB0n
 rw[rounds_succ]
 go_wp2_with (fail)
 go_at_call 184
 refine (number_own K 28 _ _ 32 kf FK.out (by decide) (by decide) _ HK.out).mono ?_
 rintro e w1 ⟨rfl,hb⟩
 rw[ek7]
 have HSk:=Lib.hid (HS.out.later hb)
 have HKk:=Lib.hid (HK.out.later hb)
 have HMk:=Lib.hid (HM.out.later hb)
 have HRk:=Lib.hid (HR.out.later hb)
 clear HS HK HM HR
 have HS:=HSk
 clear HSk
 have HK:=HKk
 clear HKk
 have HM:=HMk
 clear HMk
 have HR:=HRk
 clear HRk
 have hB1:=Below.go hB0 hb
 clear hB0 hb
 have hB0:=hB1
 clear hB1
 have oS:=HS.out
 have S11:=oS.at 11 _ rfl
 have Sf11:=oS.ok 11 (by simp)
 have Sl:=oS.lt
 clear oS
 go_wp2_with (fail)
 clear S11 Sf11 Sl
 change Code.rounds _ _ _ _ _ (w1.setCells S 11 [.int .u32 k7])
 have HSn:Hid (Own S ([.int .u32 1634760805,.int .u32 857760878,.int .u32 2036477234,.int .u32 1797285236,.int .u32 k0,.int .u32 k1,.int .u32 k2,.int .u32 k3,.int .u32 k4,.int .u32 k5,.int .u32 k6,.int .u32 k7,.int .u32 c,.int .u32 0,.int .u32 0,.int .u32 0]) (w1.setCells S 11 [.int .u32 k7])):=Lib.hid (show Own S (over _ 11 [.int .u32 k7]) _ from Own.part HS.out (by simp))
 have HKn:Hid (Own K (nums .u8 kf 32) (w1.setCells S 11 [.int .u32 k7])):=Lib.hid (Own.far (o:=11) (vs:=[.int .u32 k7]) HK.out nKS)
 have HMn:Hid (Own M (nums .u8 nf 12) (w1.setCells S 11 [.int .u32 k7])):=Lib.hid (Own.far (o:=11) (vs:=[.int .u32 k7]) HM.out nMS)
 have HRn:Hid (Own R ([.int .u32 0,.int .u32 0,.int .u32 0,.int .u32 0,.int .u32 0,.int .u32 0,.int .u32 0,.int .u32 0,.int .u32 0,.int .u32 0,.int .u32 0,.int .u32 0,.int .u32 0,.int .u32 0,.int .u32 0,.int .u32 0]) (w1.setCells S 11 [.int .u32 k7])):=Lib.hid (Own.far (o:=11) (vs:=[.int .u32 k7]) HR.out nRS)
 have hB0n:Below w.heap.size w (w1.setCells S 11 [.int .u32 k7]):=Below.setCells hB0 Sw [.int .u32 k7] 11
 clear HS HK HM HR hB0
 generalize (w1.setCells S 11 [.int .u32 k7])=w2 at *
 have HS:=HSn
 clear HSn
 have HK:=HKn
 clear HKn
 have HM:=HMn
 clear HMn
 have HR:=HRn
 clear HRn
 have hB0:=hB0n
 clear hB0n
 rw[rounds_succ]
 go_wp2_with (fail)
 refine wp_loop_rounds 4 ?_
 rw[rounds_succ]
 go_wp2_with (fail)
 go_at_call 184
 refine (number_own M 0 _ _ 12 nf FN.out (by decide) (by decide) _ HM.out).mono ?_
 rintro e w1 ⟨rfl,hb⟩
 rw[em0]
 have HSk:=Lib.hid (HS.out.later hb)
 have HKk:=Lib.hid (HK.out.later hb)
 have HMk:=Lib.hid (HM.out.later hb)
 have HRk:=Lib.hid (HR.out.later hb)
 clear HS HK HM HR
 have HS:=HSk
 clear HSk
 have HK:=HKk
 clear HKk
 have HM:=HMk
 clear HMk
 have HR:=HRk
 clear HRk
 have hB1:=Below.go hB0 hb
 clear hB0 hb
 have hB0:=hB1
 clear hB1
 have oS:=HS.out
 have S13:=oS.at 13 _ rfl
 have Sf13:=oS.ok 13 (by simp)
 have Sl:=oS.lt
 clear oS
 go_wp2_with (fail)
 clear S13 Sf13 Sl
 change Code.rounds _ _ _ _ _ (w1.setCells S 13 [.int .u32 m0])
 have HSn:Hid (Own S ([.int .u32 1634760805,.int .u32 857760878,.int .u32 2036477234,.int .u32 1797285236,.int .u32 k0,.int .u32 k1,.int .u32 k2,.int .u32 k3,.int .u32 k4,.int .u32 k5,.int .u32 k6,.int .u32 k7,.int .u32 c,.int .u32 m0,.int .u32 0,.int .u32 0]) (w1.setCells S 13 [.int .u32 m0])):=Lib.hid (show Own S (over _ 13 [.int .u32 m0]) _ from Own.part HS.out (by simp))
 have HKn:Hid (Own K (nums .u8 kf 32) (w1.setCells S 13 [.int .u32 m0])):=Lib.hid (Own.far (o:=13) (vs:=[.int .u32 m0]) HK.out nKS)
 have HMn:Hid (Own M (nums .u8 nf 12) (w1.setCells S 13 [.int .u32 m0])):=Lib.hid (Own.far (o:=13) (vs:=[.int .u32 m0]) HM.out nMS)
 have HRn:Hid (Own R ([.int .u32 0,.int .u32 0,.int .u32 0,.int .u32 0,.int .u32 0,.int .u32 0,.int .u32 0,.int .u32 0,.int .u32 0,.int .u32 0,.int .u32 0,.int .u32 0,.int .u32 0,.int .u32 0,.int .u32 0,.int .u32 0]) (w1.setCells S 13 [.int .u32 m0])):=Lib.hid (Own.far (o:=13) (vs:=[.int .u32 m0]) HR.out nRS)
 have hB0n:Below w.heap.size w (w1.setCells S 13 [.int .u32 m0]):=Below.setCells hB0 Sw [.int .u32 m0] 13
 clear HS HK HM HR hB0
 generalize (w1.setCells S 13 [.int .u32 m0])=w2 at *
 have HS:=HSn
 clear HSn
 have HK:=HKn
 clear HKn
 have HM:=HMn
 clear HMn
 have HR:=HRn
 clear HRn
 have hB0:=hB0n
 clear hB0n
 rw[rounds_succ]
 go_wp2_with (fail)
 go_at_call 184
 refine (number_own M 4 _ _ 12 nf FN.out (by decide) (by decide) _ HM.out).mono ?_
 rintro e w1 ⟨rfl,hb⟩
 rw[em1]
 have HSk:=Lib.hid (HS.out.later hb)
 have HKk:=Lib.hid (HK.out.later hb)
 have HMk:=Lib.hid (HM.out.later hb)
 have HRk:=Lib.hid (HR.out.later hb)
 clear HS HK HM HR
 have HS:=HSk
 clear HSk
 have HK:=HKk
 clear HKk
 have HM:=HMk
 clear HMk
 have HR:=HRk
 clear HRk
 have hB1:=Below.go hB0 hb
 clear hB0 hb
 have hB0:=hB1
 clear hB1
 have oS:=HS.out
 have S14:=oS.at 14 _ rfl
 have Sf14:=oS.ok 14 (by simp)
 have Sl:=oS.lt
 clear oS
 go_wp2_with (fail)
 clear S14 Sf14 Sl
 change Code.rounds _ _ _ _ _ (w1.setCells S 14 [.int .u32 m1])
 have HSn:Hid (Own S ([.int .u32 1634760805,.int .u32 857760878,.int .u32 2036477234,.int .u32 1797285236,.int .u32 k0,.int .u32 k1,.int .u32 k2,.int .u32 k3,.int .u32 k4,.int .u32 k5,.int .u32 k6,.int .u32 k7,.int .u32 c,.int .u32 m0,.int .u32 m1,.int .u32 0]) (w1.setCells S 14 [.int .u32 m1])):=Lib.hid (show Own S (over _ 14 [.int .u32 m1]) _ from Own.part HS.out (by simp))
 have HKn:Hid (Own K (nums .u8 kf 32) (w1.setCells S 14 [.int .u32 m1])):=Lib.hid (Own.far (o:=14) (vs:=[.int .u32 m1]) HK.out nKS)
 have HMn:Hid (Own M (nums .u8 nf 12) (w1.setCells S 14 [.int .u32 m1])):=Lib.hid (Own.far (o:=14) (vs:=[.int .u32 m1]) HM.out nMS)
 have HRn:Hid (Own R ([.int .u32 0,.int .u32 0,.int .u32 0,.int .u32 0,.int .u32 0,.int .u32 0,.int .u32 0,.int .u32 0,.int .u32 0,.int .u32 0,.int .u32 0,.int .u32 0,.int .u32 0,.int .u32 0,.int .u32 0,.int .u32 0]) (w1.setCells S 14 [.int .u32 m1])):=Lib.hid (Own.far (o:=14) (vs:=[.int .u32 m1]) HR.out nRS)
 have hB0n:Below w.heap.size w (w1.setCells S 14 [.int .u32 m1]):=Below.setCells hB0 Sw [.int .u32 m1] 14
 clear HS HK HM HR hB0
 generalize (w1.setCells S 14 [.int .u32 m1])=w2 at *
 have HS:=HSn
 clear HSn
 have HK:=HKn
 clear HKn
 have HM:=HMn
 clear HMn
 have HR:=HRn
 clear HRn
 have hB0:=hB0n
 clear hB0n
 rw[rounds_succ]
 go_wp2_with (fail)
 go_at_call 184
 refine (number_own M 8 _ _ 12 nf FN.out (by decide) (by decide) _ HM.out).mono ?_
 rintro e w1 ⟨rfl,hb⟩
 rw[em2]
 have HSk:=Lib.hid (HS.out.later hb)
 have HKk:=Lib.hid (HK.out.later hb)
 have HMk:=Lib.hid (HM.out.later hb)
 have HRk:=Lib.hid (HR.out.later hb)
 clear HS HK HM HR
 have HS:=HSk
 clear HSk
 have HK:=HKk
 clear HKk
 have HM:=HMk
 clear HMk
 have HR:=HRk
 clear HRk
 have hB1:=Below.go hB0 hb
 clear hB0 hb
 have hB0:=hB1
 clear hB1
 have oS:=HS.out
 have S15:=oS.at 15 _ rfl
 have Sf15:=oS.ok 15 (by simp)
 have Sl:=oS.lt
 clear oS
 go_wp2_with (fail)
 clear S15 Sf15 Sl
 change Code.rounds _ _ _ _ _ (w1.setCells S 15 [.int .u32 m2])
 have HSn:Hid (Own S ([.int .u32 1634760805,.int .u32 857760878,.int .u32 2036477234,.int .u32 1797285236,.int .u32 k0,.int .u32 k1,.int .u32 k2,.int .u32 k3,.int .u32 k4,.int .u32 k5,.int .u32 k6,.int .u32 k7,.int .u32 c,.int .u32 m0,.int .u32 m1,.int .u32 m2]) (w1.setCells S 15 [.int .u32 m2])):=Lib.hid (show Own S (over _ 15 [.int .u32 m2]) _ from Own.part HS.out (by simp))
 have HKn:Hid (Own K (nums .u8 kf 32) (w1.setCells S 15 [.int .u32 m2])):=Lib.hid (Own.far (o:=15) (vs:=[.int .u32 m2]) HK.out nKS)
 have HMn:Hid (Own M (nums .u8 nf 12) (w1.setCells S 15 [.int .u32 m2])):=Lib.hid (Own.far (o:=15) (vs:=[.int .u32 m2]) HM.out nMS)
 have HRn:Hid (Own R ([.int .u32 0,.int .u32 0,.int .u32 0,.int .u32 0,.int .u32 0,.int .u32 0,.int .u32 0,.int .u32 0,.int .u32 0,.int .u32 0,.int .u32 0,.int .u32 0,.int .u32 0,.int .u32 0,.int .u32 0,.int .u32 0]) (w1.setCells S 15 [.int .u32 m2])):=Lib.hid (Own.far (o:=15) (vs:=[.int .u32 m2]) HR.out nRS)
 have hB0n:Below w.heap.size w (w1.setCells S 15 [.int .u32 m2]):=Below.setCells hB0 Sw [.int .u32 m2] 15
 clear HS HK HM HR hB0
 generalize (w1.setCells S 15 [.int .u32 m2])=w2 at *
 have HS:=HSn
 clear HSn
 have HK:=HKn
 clear HKn
 have HM:=HMn
 clear HMn
 have HR:=HRn
 clear HRn
 have hB0:=hB0n
 clear hB0n
 rw[rounds_succ]
 go_upto_region 12 with fail
 refine wp_region_lit ?_
 refine wpList_load_mid rfl 219 _ rfl S 0 rfl ([.int .u32 1634760805,.int .u32 857760878,.int .u32 2036477234,.int .u32 1797285236,.int .u32 k0,.int .u32 k1,.int .u32 k2,.int .u32 k3,.int .u32 k4,.int .u32 k5,.int .u32 k6,.int .u32 k7,.int .u32 c,.int .u32 m0,.int .u32 m1,.int .u32 m2]) _ HS.out.cell Tryz.underlying219 rfl (by kernel_rfl) ?_
 refine wpList_store_mid rfl 219 _ _ rfl R 0 ([.int .u32 1634760805,.int .u32 857760878,.int .u32 2036477234,.int .u32 1797285236,.int .u32 k0,.int .u32 k1,.int .u32 k2,.int .u32 k3,.int .u32 k4,.int .u32 k5,.int .u32 k6,.int .u32 k7,.int .u32 c,.int .u32 m0,.int .u32 m1,.int .u32 m2]).toArray rfl rfl HR.out.free (by kernel_rfl) (by simp[Value.oneCell']) ?_
 change wpList _ _ _ [] _ (w2.setCells R 0 [.int .u32 1634760805,.int .u32 857760878,.int .u32 2036477234,.int .u32 1797285236,.int .u32 k0,.int .u32 k1,.int .u32 k2,.int .u32 k3,.int .u32 k4,.int .u32 k5,.int .u32 k6,.int .u32 k7,.int .u32 c,.int .u32 m0,.int .u32 m1,.int .u32 m2])
 have HRn:Hid (Own R ([.int .u32 1634760805,.int .u32 857760878,.int .u32 2036477234,.int .u32 1797285236,.int .u32 k0,.int .u32 k1,.int .u32 k2,.int .u32 k3,.int .u32 k4,.int .u32 k5,.int .u32 k6,.int .u32 k7,.int .u32 c,.int .u32 m0,.int .u32 m1,.int .u32 m2]) (w2.setCells R 0 [.int .u32 1634760805,.int .u32 857760878,.int .u32 2036477234,.int .u32 1797285236,.int .u32 k0,.int .u32 k1,.int .u32 k2,.int .u32 k3,.int .u32 k4,.int .u32 k5,.int .u32 k6,.int .u32 k7,.int .u32 c,.int .u32 m0,.int .u32 m1,.int .u32 m2])):=Lib.hid (Own.store HR.out rfl)
 have HSn:Hid (Own S ([.int .u32 1634760805,.int .u32 857760878,.int .u32 2036477234,.int .u32 1797285236,.int .u32 k0,.int .u32 k1,.int .u32 k2,.int .u32 k3,.int .u32 k4,.int .u32 k5,.int .u32 k6,.int .u32 k7,.int .u32 c,.int .u32 m0,.int .u32 m1,.int .u32 m2]) (w2.setCells R 0 [.int .u32 1634760805,.int .u32 857760878,.int .u32 2036477234,.int .u32 1797285236,.int .u32 k0,.int .u32 k1,.int .u32 k2,.int .u32 k3,.int .u32 k4,.int .u32 k5,.int .u32 k6,.int .u32 k7,.int .u32 c,.int .u32 m0,.int .u32 m1,.int .u32 m2])):=Lib.hid (Own.far (o:=0) (vs:=[.int .u32 1634760805,.int .u32 857760878,.int .u32 2036477234,.int .u32 1797285236,.int .u32 k0,.int .u32 k1,.int .u32 k2,.int .u32 k3,.int .u32 k4,.int .u32 k5,.int .u32 k6,.int .u32 k7,.int .u32 c,.int .u32 m0,.int .u32 m1,.int .u32 m2]) HS.out nSR)
 have HKn:Hid (Own K (nums .u8 kf 32) (w2.setCells R 0 [.int .u32 1634760805,.int .u32 857760878,.int .u32 2036477234,.int .u32 1797285236,.int .u32 k0,.int .u32 k1,.int .u32 k2,.int .u32 k3,.int .u32 k4,.int .u32 k5,.int .u32 k6,.int .u32 k7,.int .u32 c,.int .u32 m0,.int .u32 m1,.int .u32 m2])):=Lib.hid (Own.far (o:=0) (vs:=[.int .u32 1634760805,.int .u32 857760878,.int .u32 2036477234,.int .u32 1797285236,.int .u32 k0,.int .u32 k1,.int .u32 k2,.int .u32 k3,.int .u32 k4,.int .u32 k5,.int .u32 k6,.int .u32 k7,.int .u32 c,.int .u32 m0,.int .u32 m1,.int .u32 m2]) HK.out nKR)
 have HMn:Hid (Own M (nums .u8 nf 12) (w2.setCells R 0 [.int .u32 1634760805,.int .u32 857760878,.int .u32 2036477234,.int .u32 1797285236,.int .u32 k0,.int .u32 k1,.int .u32 k2,.int .u32 k3,.int .u32 k4,.int .u32 k5,.int .u32 k6,.int .u32 k7,.int .u32 c,.int .u32 m0,.int .u32 m1,.int .u32 m2])):=Lib.hid (Own.far (o:=0) (vs:=[.int .u32 1634760805,.int .u32 857760878,.int .u32 2036477234,.int .u32 1797285236,.int .u32 k0,.int .u32 k1,.int .u32 k2,.int .u32 k3,.int .u32 k4,.int .u32 k5,.int .u32 k6,.int .u32 k7,.int .u32 c,.int .u32 m0,.int .u32 m1,.int .u32 m2]) HM.out nMR)
 have hB0n:Below w.heap.size w (w2.setCells R 0 [.int .u32 1634760805,.int .u32 857760878,.int .u32 2036477234,.int .u32 1797285236,.int .u32 k0,.int .u32 k1,.int .u32 k2,.int .u32 k3,.int .u32 k4,.int .u32 k5,.int .u32 k6,.int .u32 k7,.int .u32 c,.int .u32 m0,.int .u32 m1,.int .u32 m2]):=Below.setCells hB0 Rw [.int .u32 1634760805,.int .u32 857760878,.int .u32 2036477234,.int .u32 1797285236,.int .u32 k0,.int .u32 k1,.int .u32 k2,.int .u32 k3,.int .u32 k4,.int .u32 k5,.int .u32 k6,.int .u32 k7,.int .u32 c,.int .u32 m0,.int .u32 m1,.int .u32 m2] 0
 clear HR HS HK HM hB0
 generalize (w2.setCells R 0 [.int .u32 1634760805,.int .u32 857760878,.int .u32 2036477234,.int .u32 1797285236,.int .u32 k0,.int .u32 k1,.int .u32 k2,.int .u32 k3,.int .u32 k4,.int .u32 k5,.int .u32 k6,.int .u32 k7,.int .u32 c,.int .u32 m0,.int .u32 m1,.int .u32 m2])=w3 at *
 have HR:=HRn
 clear HRn
 have HS:=HSn
 clear HSn
 have HK:=HKn
 clear HKn
 have HM:=HMn
 clear HMn
 have hB0:=hB0n
 clear hB0n
 go_wp2_with (fail)
 have hL:=run_loadVar_mid (P:=Tryz.prog) _ R 0 219 ([.int .u32 1634760805,.int .u32 857760878,.int .u32 2036477234,.int .u32 1797285236,.int .u32 k0,.int .u32 k1,.int .u32 k2,.int .u32 k3,.int .u32 k4,.int .u32 k5,.int .u32 k6,.int .u32 k7,.int .u32 c,.int .u32 m0,.int .u32 m1,.int .u32 m2]) _ HR.out.cell Tryz.underlying219 rfl (by kernel_rfl)
 exact bodyPost_ret (v := .agg ([.int .u32 1634760805,.int .u32 857760878,.int .u32 2036477234,.int .u32 1797285236,.int .u32 k0,.int .u32 k1,.int .u32 k2,.int .u32 k3,.int .u32 k4,.int .u32 k5,.int .u32 k6,.int .u32 k7,.int .u32 c,.int .u32 m0,.int .u32 m1,.int .u32 m2]).toArray) (res_cell Tryz.results162 rfl hL) rfl ⟨rfl,hB0⟩
end Go.Proofs.YtbilamnnneddmaaGreatDoor
