import Derived.Test.YtbilamnnneddmaaGreatDoorZCG
import Derived.LoopN
import Derived.LoopTactic
import Derived.Deep.RegionHeld3
import Derived.Test.YtbilamnnneddmaaGreatDoorZCBx
import Derived.Lib.Hide
namespace Go.Proofs.YtbilamnnneddmaaGreatDoor
set_option linter.unusedVariables false
set_option maxRecDepth 2000
set_option linter.unusedSimpArgs false
open Go.RowKit
def grp (k i:Nat):Nat:=4*k+(i+k*(i/4))%4
def GL:List Value:=[.int .i64 0,.int .i64 4,.int .i64 8,.int .i64 12,.int .i64 1,.int .i64 5,.int .i64 9,.int .i64 13,.int .i64 2,.int .i64 6,.int .i64 10,.int .i64 14,.int .i64 3,.int .i64 7,.int .i64 11,.int .i64 15,.int .i64 0,.int .i64 5,.int .i64 10,.int .i64 15,.int .i64 1,.int .i64 6,.int .i64 11,.int .i64 12,.int .i64 2,.int .i64 7,.int .i64 8,.int .i64 13,.int .i64 3,.int .i64 4,.int .i64 9,.int .i64 14]
def qAt (s:Nat→Int) (a b c d:Nat):Nat→Int :=
 at1 (at1 (at1 (at1 s a (quarterF ⟨s a,s b,s c,s d⟩).a) b (quarterF ⟨s a,s b,s c,s d⟩).b) c (quarterF ⟨s a,s b,s c,s d⟩).c) d (quarterF ⟨s a,s b,s c,s d⟩).d
def inS (s:Nat→Int):Prop:=∀ i,i<16→in32 (s i)
theorem in_at1 {s:Nat→Int} {i:Nat} {v:Int} (h:inS s) (hv:in32 v):inS (at1 s i v):=by
 intro j hj
 unfold at1
 split
 ·exact hv
 ·exact h j hj
theorem in_qAt {s:Nat→Int} {a b c d:Nat} (h:inS s) (ha:a<16) (hb:b<16) (hc:c<16) (hd:d<16):inS (qAt s a b c d):=by
 have hq:=in_quarterF (s:=⟨s a,s b,s c,s d⟩) ⟨h a ha,h b hb,h c hc,h d hd⟩
 exact in_at1 (in_at1 (in_at1 (in_at1 h hq.1) hq.2.1) hq.2.2.1) hq.2.2.2
def partR (s:Nat→Int):Nat→Nat→Int
 | 0=>s
 | i+1=>qAt (partR s i) (grp 0 i) (grp 1 i) (grp 2 i) (grp 3 i)
theorem grp_lt (k i:Nat) (hk:k<4):grp k i<16:=by unfold grp;omega
theorem in_partR {s:Nat→Int} (h:inS s):∀ i,inS (partR s i)
 | 0=>h
 | i+1=>in_qAt (in_partR h i) (grp_lt 0 i (by omega)) (grp_lt 1 i (by omega)) (grp_lt 2 i (by omega)) (grp_lt 3 i (by omega))
def roundF (s:Nat→Int):Nat→Int:=partR s 8
def iterR (s:Nat→Int):Nat→Nat→Int
 | 0=>s
 | t+1=>roundF (iterR s t)
theorem in_iterR {s:Nat→Int} (h:inS s):∀ t,inS (iterR s t)
 | 0=>h
 | t+1=>in_partR (in_iterR h t) 8
theorem Quarter_of (v0 v1 v2 v3 p0 p1 p2 p3:Int) (h0:in32 v0) (h1:in32 v1) (h2:in32 v2) (h3:in32 v3) (e0:(quarterF ⟨v0,v1,v2,v3⟩).a=p0) (e1:(quarterF ⟨v0,v1,v2,v3⟩).b=p1) (e2:(quarterF ⟨v0,v1,v2,v3⟩).c=p2) (e3:(quarterF ⟨v0,v1,v2,v3⟩).d=p3) (w:World) :
  Calls Tryz.prog 185 #[.agg #[.int .u32 v0,.int .u32 v1,.int .u32 v2,.int .u32 v3]] w fun e w'=>e = .returned (.agg #[.int .u32 p0,.int .u32 p1,.int .u32 p2,.int .u32 p3])∧Below w.heap.size w w':=by
 subst e0 e1 e2 e3
 exact Quarter_any v0 v1 v2 v3 h0 h1 h2 h3 w
theorem index_groups (k:Nat) (hk:k<8) (w:World):(Instr.index 235 (.agg GL.toArray) (.int .i64 k)).run Tryz.prog w = .ok (.agg #[.int .i64 (grp 0 k:Nat),.int .i64 (grp 1 k:Nat),.int .i64 (grp 2 k:Nat),.int .i64 (grp 3 k:Nat)]) w:=match k,hk with
 | 0,_=>by kernel_rfl
 | 1,_=>by kernel_rfl
 | 2,_=>by kernel_rfl
 | 3,_=>by kernel_rfl
 | 4,_=>by kernel_rfl
 | 5,_=>by kernel_rfl
 | 6,_=>by kernel_rfl
 | 7,_=>by kernel_rfl
set_option maxHeartbeats 8000000 in
theorem round_any (zs:Nat→Int) (hs:inS zs) (w:World) (hg:Has 1 0 GL w):Calls Tryz.prog 163 #[(.agg (nums .u32 zs 16).toArray)] w fun e w'=>e = .returned (.agg (nums .u32 (roundF zs) 16).toArray)∧Below w.heap.size w w':=by
 have HG:=Lib.hid hg;have IS:=Lib.hid hs
 clear hg hs
 go_enter Tryz.func163,Tryz.ntmps163
 go_upto_region 1 with fail
 obtain⟨W0,hW⟩:∃ W0,W0=((w.alloc (.cells (nums .u32 zs 16).toArray 219)).alloc (.cells #[.int .u32 0,.int .u32 0,.int .u32 0,.int .u32 0,.int .u32 0,.int .u32 0,.int .u32 0,.int .u32 0,.int .u32 0,.int .u32 0,.int .u32 0,.int .u32 0,.int .u32 0,.int .u32 0,.int .u32 0,.int .u32 0] 219)):=⟨_,rfl⟩
 have hB0:Below w.heap.size w W0:=hW ▸ (Below.al (Below.al (Below.refl _ _)))
 have HS:Hid (Own w.heap.size (nums .u32 zs 16) W0):=Lib.hid (hW ▸ (show Own w.heap.size (nums .u32 zs 16) (w.alloc (.cells (nums .u32 zs 16).toArray 219)) from Own.newAt (by simp)).alloc)
 have HR:Hid (Own (w.heap.size+1) ([.int .u32 0,.int .u32 0,.int .u32 0,.int .u32 0,.int .u32 0,.int .u32 0,.int .u32 0,.int .u32 0,.int .u32 0,.int .u32 0,.int .u32 0,.int .u32 0,.int .u32 0,.int .u32 0,.int .u32 0,.int .u32 0]) W0):=Lib.hid (hW ▸ (show Own (w.heap.size+1) ([.int .u32 0,.int .u32 0,.int .u32 0,.int .u32 0,.int .u32 0,.int .u32 0,.int .u32 0,.int .u32 0,.int .u32 0,.int .u32 0,.int .u32 0,.int .u32 0,.int .u32 0,.int .u32 0,.int .u32 0,.int .u32 0]) ((w.alloc (.cells (nums .u32 zs 16).toArray 219)).alloc (.cells #[.int .u32 0,.int .u32 0,.int .u32 0,.int .u32 0,.int .u32 0,.int .u32 0,.int .u32 0,.int .u32 0,.int .u32 0,.int .u32 0,.int .u32 0,.int .u32 0,.int .u32 0,.int .u32 0,.int .u32 0,.int .u32 0] 219)) from Own.newAt (by simp)))
 rw[← hW]
 clear hW
 obtain⟨R,eR⟩:∃ X,X=(w.heap.size+1):=⟨_,rfl⟩
 rw[← eR] at HR ⊢
 have Rw:w.heap.size≤R:=by omega
 obtain⟨S,eS⟩:∃ X,X=w.heap.size:=⟨_,rfl⟩
 rw[← eS] at HS ⊢
 have Sw:w.heap.size≤S:=by omega
 have nSR:S≠R:=by omega
 have nRS:R≠S:=by omega
 clear eS eR
 have HGn:=Lib.hid (HG.out.later hB0)
 refine wp_region_lit ?_
 refine wpList_load_mid rfl 235 _ rfl 1 0 rfl (GL) _ HGn.out.cell Tryz.underlying235 rfl (by kernel_rfl) ?_
 clear HG HGn
 go_wp2_with (fail)
 go_loopw [9] (fun i wr=>∃ (k:Nat),k≤8∧i = .int .i64 k∧Hid (Below w.heap.size w wr)∧Hid (Own S (nums .u32 (partR zs k) 16) wr)∧Hid (Own R ([.int .u32 0,.int .u32 0,.int .u32 0,.int .u32 0,.int .u32 0,.int .u32 0,.int .u32 0,.int .u32 0,.int .u32 0,.int .u32 0,.int .u32 0,.int .u32 0,.int .u32 0,.int .u32 0,.int .u32 0,.int .u32 0]) wr)) (fun i _=>(8 - (intOf i).toNat))
 case atStart=>exact⟨0,by omega,rfl,Lib.hid hB0,HS,HR⟩
 case round =>
  obtain⟨k,hk,rfl,HB,HS,HR⟩:=hrel
  clear hB0
  by_cases hlt:k<8
  ·have hx:=index_groups k hlt wr
   have hN:=Lib.hid (show partR zs (k+1)=qAt (partR zs k) (grp 0 k) (grp 1 k) (grp 2 k) (grp 3 k) from rfl)
   have hI:=Lib.hid (in_partR IS.out k)
   have A0:=Lib.hid (grp_lt 0 k (by omega));have A1:=Lib.hid (grp_lt 1 k (by omega));have A2:=Lib.hid (grp_lt 2 k (by omega));have A3:=Lib.hid (grp_lt 3 k (by omega))
   clear hk
   obtain⟨nx,hnx⟩:∃ z,partR zs (k+1)=z:=⟨_,rfl⟩
   rw[hnx] at hN
   replace hnx:=Lib.hid hnx
   generalize partR zs k=f at *
   generalize grp 0 k=a0 at *
   generalize grp 1 k=a1 at *
   generalize grp 2 k=a2 at *
   generalize grp 3 k=a3 at *
   have J0:=Lib.hid (hI.out a0 A0.out);have J1:=Lib.hid (hI.out a1 A1.out);have J2:=Lib.hid (hI.out a2 A2.out);have J3:=Lib.hid (hI.out a3 A3.out)
   clear hI
   have V0:=Lib.hid (nums_at .u32 f A0.out);have V1:=Lib.hid (nums_at .u32 f A1.out);have V2:=Lib.hid (nums_at .u32 f A2.out);have V3:=Lib.hid (nums_at .u32 f A3.out)
   unfold qAt at hN
   obtain⟨v0,e0⟩:∃ z,f a0=z:=⟨_,rfl⟩
   obtain⟨v1,e1⟩:∃ z,f a1=z:=⟨_,rfl⟩
   obtain⟨v2,e2⟩:∃ z,f a2=z:=⟨_,rfl⟩
   obtain⟨v3,e3⟩:∃ z,f a3=z:=⟨_,rfl⟩
   rw[e0] at J0 V0;rw[e1] at J1 V1;rw[e2] at J2 V2;rw[e3] at J3 V3
   rw[e0,e1,e2,e3] at hN
   clear e0 e1 e2 e3
   obtain⟨p0,e0⟩:∃ z,(quarterF ⟨v0,v1,v2,v3⟩).a=z:=⟨_,rfl⟩
   obtain⟨p1,e1⟩:∃ z,(quarterF ⟨v0,v1,v2,v3⟩).b=z:=⟨_,rfl⟩
   obtain⟨p2,e2⟩:∃ z,(quarterF ⟨v0,v1,v2,v3⟩).c=z:=⟨_,rfl⟩
   obtain⟨p3,e3⟩:∃ z,(quarterF ⟨v0,v1,v2,v3⟩).d=z:=⟨_,rfl⟩
   have QC:=Lib.hid (Quarter_of v0 v1 v2 v3 p0 p1 p2 p3 J0.out J1.out J2.out J3.out e0 e1 e2 e3)
   rw[e0,e1,e2,e3] at hN
   clear e0 e1 e2 e3 J0 J1 J2 J3
   go_upto_region 4 with fail
   rw[show decide ((k:Int)<8)=true from decide_eq_true (by omega)]
   have hB0:=HB.out
   clear HB hx
   obtain⟨W1,hW⟩:∃ W1,W1=(wr.alloc (.cells #[.int .i64 (a0:Nat),.int .i64 (a1:Nat),.int .i64 (a2:Nat),.int .i64 (a3:Nat)] 230)):=⟨_,rfl⟩
   have hBx:Below wr.heap.size wr W1:=hW ▸ (Below.al (Below.refl _ _))
   have HG:Hid (Own wr.heap.size ([.int .i64 (a0:Nat),.int .i64 (a1:Nat),.int .i64 (a2:Nat),.int .i64 (a3:Nat)]) W1):=Lib.hid (hW ▸ (show Own wr.heap.size ([.int .i64 (a0:Nat),.int .i64 (a1:Nat),.int .i64 (a2:Nat),.int .i64 (a3:Nat)]) (wr.alloc (.cells #[.int .i64 (a0:Nat),.int .i64 (a1:Nat),.int .i64 (a2:Nat),.int .i64 (a3:Nat)] 230)) from Own.newAt (by simp)))
   rw[← hW]
   clear hW
   obtain⟨G,eG⟩:∃ X,X=wr.heap.size:=⟨_,rfl⟩
   rw[← eG] at HG ⊢
   have Gw:wr.heap.size≤G:=by omega
   clear eG
   have nGS:G≠S:=by have:=HS.out.lt;omega
   have nSG:S≠G:=Ne.symm nGS
   have nGR:G≠R:=by have:=HR.out.lt;omega
   have nRG:R≠G:=Ne.symm nGR
   have Gw2:w.heap.size≤G:=by have:=hB0.size;omega
   clear Gw
   have Gw:=Gw2
   clear Gw2
   have HSk:=Lib.hid (HS.out.later hBx)
   have HRk:=Lib.hid (HR.out.later hBx)
   clear HS HR
   have HS:=HSk
   clear HSk
   have HR:=HRk
   clear HRk
   have hB0n:=Below.go hB0 hBx
   clear hB0 hBx
   have hB0:=hB0n
   clear hB0n
   have ca0:(a0:Int)<16:=by have:=A0.out;omega
   have da0:(0:Int)≤(a0:Int):=by omega
   have ca1:(a1:Int)<16:=by have:=A1.out;omega
   have da1:(0:Int)≤(a1:Int):=by omega
   have ca2:(a2:Int)<16:=by have:=A2.out;omega
   have da2:(0:Int)≤(a2:Int):=by omega
   have ca3:(a3:Int)<16:=by have:=A3.out;omega
   have da3:(0:Int)≤(a3:Int):=by omega
   refine wp_region_fun 20 (by kernel_rfl) (by kernel_rfl) rfl (fun s b=>⟨#[(.agg (nums .u32 zs 16).toArray),.pointer (some ⟨S,0,none⟩),.pointer (some ⟨R,0,none⟩),undef,.pointer (some ⟨G,0,none⟩),s 5,u6,u7,(.agg GL.toArray),.int .i64 (k:Int),.bool true,(.agg #[.int .i64 (a0:Nat),.int .i64 (a1:Nat),.int .i64 (a2:Nat),.int .i64 (a3:Nat)]),s 12,s 13,s 14,s 15,s 16,s 17,s 18,s 19,s 20,s 21,s 22,s 23,s 24,s 25,s 26,s 27,s 28,s 29,u30,u31,u32,u33,u34,u35,u36,u37,u38,u39,u40,u41,undef],[]⟩) (fun d s b w=>(Below W1.heap.size W1 w)∧(d 0=true→s 12 = .pointer (some ⟨G,0,none⟩))∧(d 1=true→s 13 = .int .i64 (a0:Nat))∧(d 2=true→s 14 = .pointer (some ⟨S,a0,none⟩))∧(d 3=true→s 15 = .int .u32 v0)∧(d 4=true→s 16 = .pointer (some ⟨G,1,none⟩))∧(d 5=true→s 17 = .int .i64 (a1:Nat))∧(d 6=true→s 18 = .pointer (some ⟨S,a1,none⟩))∧(d 7=true→s 19 = .int .u32 v1)∧(d 8=true→s 20 = .pointer (some ⟨G,2,none⟩))∧(d 9=true→s 21 = .int .i64 (a2:Nat))∧(d 10=true→s 22 = .pointer (some ⟨S,a2,none⟩))∧(d 11=true→s 23 = .int .u32 v2)∧(d 12=true→s 24 = .pointer (some ⟨G,3,none⟩))∧(d 13=true→s 25 = .int .i64 (a3:Nat))∧(d 14=true→s 26 = .pointer (some ⟨S,a3,none⟩))∧(d 15=true→s 27 = .int .u32 v3)∧(d 16=true→s 28=(.agg #[.int .u32 v0,.int .u32 v1,.int .u32 v2,.int .u32 v3]))∧(d 17=true→s 29=(.agg #[.int .u32 p0,.int .u32 p1,.int .u32 p2,.int .u32 p3]))∧(d 18=true→s 5 = .pointer (some ⟨(b 18),0,none⟩)∧W1.heap.size≤b 18)∧(d 18=true→d 19=false→Own (b 18) [.int .u32 0,.int .u32 0,.int .u32 0,.int .u32 0] w)∧(d 19=true→Own (b 18) [.int .u32 p0,.int .u32 p1,.int .u32 p2,.int .u32 p3] w)∧(d 19=true→d 18=true)) rfl ?h0y1 (?sty1:StepsF _ _ _ _ 20 _ _ [0,1,2,3,4,5,6,7,8,9,10,11,12,13,14,15,16,17,18,19]) ?dny1
   case h0y1=>exact⟨Below.drew (Below.refl _ _),by repeat (first | exact nf_ | refine⟨nf_,?_⟩)⟩
   case sty1 =>
    refine sc_ rfl [] (fun d s b w hF hd hw K hK=>?_) ?_
    ·have hB:Below W1.heap.size W1 w:=(p0_ hF.out)
     dsimp only
     go_simp
     exact hK.out (ups s 12 (.pointer (some ⟨G,0,none⟩))) b _ ⟨hB,(fun _=>rfl),hF.out.2.2⟩
    refine sc_ rfl [0] (fun d s b w hF hd hw K hK=>?_) ?_
    ·have hB:Below W1.heap.size W1 w:=(p0_ hF.out)
     have e0:=p1_ hF.out (hw 0 (by decide))
     dsimp only
     have og:=HG.out.later hB
     have g0:=og.at 0 _ rfl
     have g1:=og.at 1 _ rfl
     have g2:=og.at 2 _ rfl
     have g3:=og.at 3 _ rfl
     clear og
     go_simp
     exact hK.out (ups (ups s 12 (.pointer (some ⟨G,0,none⟩))) 13 (.int .i64 (a0:Nat))) b _ ⟨hB,(fun _=>rfl),(fun _=>rfl),hF.out.2.2.2⟩
    refine sc_ rfl [1] (fun d s b w hF hd hw K hK=>?_) ?_
    ·have hB:Below W1.heap.size W1 w:=(p0_ hF.out)
     have e1:=p2_ hF.out (hw 1 (by decide))
     dsimp only
     go_simp
     exact hK.out (ups (ups s 13 (.int .i64 (a0:Nat))) 14 (.pointer (some ⟨S,a0,none⟩))) b _ ⟨hB,(p1_ hF.out),(fun _=>rfl),(fun _=>rfl),hF.out.2.2.2.2⟩
    refine sc_ rfl [2] (fun d s b w hF hd hw K hK=>?_) ?_
    ·have hB:Below W1.heap.size W1 w:=(p0_ hF.out)
     have e2:=p3_ hF.out (hw 2 (by decide))
     dsimp only
     have oS:=HS.out.later hB
     have Sx:=oS.at a0 _ V0.out
     clear oS
     go_simp
     exact hK.out (ups (ups s 14 (.pointer (some ⟨S,a0,none⟩))) 15 (.int .u32 v0)) b _ ⟨hB,k2_ hF.out.2 fun t=>⟨(fun _=>rfl),(fun _=>rfl),t.2.2⟩⟩
    refine sc_ rfl [] (fun d s b w hF hd hw K hK=>?_) ?_
    ·have hB:Below W1.heap.size W1 w:=(p0_ hF.out)
     dsimp only
     go_simp
     exact hK.out (ups s 16 (.pointer (some ⟨G,1,none⟩))) b _ ⟨hB,k4_ hF.out.2 fun t=>⟨(fun _=>rfl),t.2⟩⟩
    refine sc_ rfl [4] (fun d s b w hF hd hw K hK=>?_) ?_
    ·have hB:Below W1.heap.size W1 w:=(p0_ hF.out)
     have e4:=p5_ hF.out (hw 4 (by decide))
     dsimp only
     have og:=HG.out.later hB
     have g0:=og.at 0 _ rfl
     have g1:=og.at 1 _ rfl
     have g2:=og.at 2 _ rfl
     have g3:=og.at 3 _ rfl
     clear og
     go_simp
     exact hK.out (ups (ups s 16 (.pointer (some ⟨G,1,none⟩))) 17 (.int .i64 (a1:Nat))) b _ ⟨hB,k4_ hF.out.2 fun t=>⟨(fun _=>rfl),(fun _=>rfl),t.2.2⟩⟩
    refine sc_ rfl [5] (fun d s b w hF hd hw K hK=>?_) ?_
    ·have hB:Below W1.heap.size W1 w:=(p0_ hF.out)
     have e5:=p6_ hF.out (hw 5 (by decide))
     dsimp only
     go_simp
     exact hK.out (ups (ups s 17 (.int .i64 (a1:Nat))) 18 (.pointer (some ⟨S,a1,none⟩))) b _ ⟨hB,k5_ hF.out.2 fun t=>⟨(fun _=>rfl),(fun _=>rfl),t.2.2⟩⟩
    refine sc_ rfl [6] (fun d s b w hF hd hw K hK=>?_) ?_
    ·have hB:Below W1.heap.size W1 w:=(p0_ hF.out)
     have e6:=p7_ hF.out (hw 6 (by decide))
     dsimp only
     have oS:=HS.out.later hB
     have Sx:=oS.at a1 _ V1.out
     clear oS
     go_simp
     exact hK.out (ups (ups s 18 (.pointer (some ⟨S,a1,none⟩))) 19 (.int .u32 v1)) b _ ⟨hB,k6_ hF.out.2 fun t=>⟨(fun _=>rfl),(fun _=>rfl),t.2.2⟩⟩
    refine sc_ rfl [] (fun d s b w hF hd hw K hK=>?_) ?_
    ·have hB:Below W1.heap.size W1 w:=(p0_ hF.out)
     dsimp only
     go_simp
     exact hK.out (ups s 20 (.pointer (some ⟨G,2,none⟩))) b _ ⟨hB,k8_ hF.out.2 fun t=>⟨(fun _=>rfl),t.2⟩⟩
    refine sc_ rfl [8] (fun d s b w hF hd hw K hK=>?_) ?_
    ·have hB:Below W1.heap.size W1 w:=(p0_ hF.out)
     have e8:=p9_ hF.out (hw 8 (by decide))
     dsimp only
     have og:=HG.out.later hB
     have g0:=og.at 0 _ rfl
     have g1:=og.at 1 _ rfl
     have g2:=og.at 2 _ rfl
     have g3:=og.at 3 _ rfl
     clear og
     go_simp
     exact hK.out (ups (ups s 20 (.pointer (some ⟨G,2,none⟩))) 21 (.int .i64 (a2:Nat))) b _ ⟨hB,k8_ hF.out.2 fun t=>⟨(fun _=>rfl),(fun _=>rfl),t.2.2⟩⟩
    refine sc_ rfl [9] (fun d s b w hF hd hw K hK=>?_) ?_
    ·have hB:Below W1.heap.size W1 w:=(p0_ hF.out)
     have e9:=p10_ hF.out (hw 9 (by decide))
     dsimp only
     go_simp
     exact hK.out (ups (ups s 21 (.int .i64 (a2:Nat))) 22 (.pointer (some ⟨S,a2,none⟩))) b _ ⟨hB,k9_ hF.out.2 fun t=>⟨(fun _=>rfl),(fun _=>rfl),t.2.2⟩⟩
    refine sc_ rfl [10] (fun d s b w hF hd hw K hK=>?_) ?_
    ·have hB:Below W1.heap.size W1 w:=(p0_ hF.out)
     have e10:=p11_ hF.out (hw 10 (by decide))
     dsimp only
     have oS:=HS.out.later hB
     have Sx:=oS.at a2 _ V2.out
     clear oS
     go_simp
     exact hK.out (ups (ups s 22 (.pointer (some ⟨S,a2,none⟩))) 23 (.int .u32 v2)) b _ ⟨hB,k10_ hF.out.2 fun t=>⟨(fun _=>rfl),(fun _=>rfl),t.2.2⟩⟩
    refine sc_ rfl [] (fun d s b w hF hd hw K hK=>?_) ?_
    ·have hB:Below W1.heap.size W1 w:=(p0_ hF.out)
     dsimp only
     go_simp
     exact hK.out (ups s 24 (.pointer (some ⟨G,3,none⟩))) b _ ⟨hB,k12_ hF.out.2 fun t=>⟨(fun _=>rfl),t.2⟩⟩
    refine sc_ rfl [12] (fun d s b w hF hd hw K hK=>?_) ?_
    ·have hB:Below W1.heap.size W1 w:=(p0_ hF.out)
     have e12:=p13_ hF.out (hw 12 (by decide))
     dsimp only
     have og:=HG.out.later hB
     have g0:=og.at 0 _ rfl
     have g1:=og.at 1 _ rfl
     have g2:=og.at 2 _ rfl
     have g3:=og.at 3 _ rfl
     clear og
     go_simp
     exact hK.out (ups (ups s 24 (.pointer (some ⟨G,3,none⟩))) 25 (.int .i64 (a3:Nat))) b _ ⟨hB,k12_ hF.out.2 fun t=>⟨(fun _=>rfl),(fun _=>rfl),t.2.2⟩⟩
    refine sc_ rfl [13] (fun d s b w hF hd hw K hK=>?_) ?_
    ·have hB:Below W1.heap.size W1 w:=(p0_ hF.out)
     have e13:=p14_ hF.out (hw 13 (by decide))
     dsimp only
     go_simp
     exact hK.out (ups (ups s 25 (.int .i64 (a3:Nat))) 26 (.pointer (some ⟨S,a3,none⟩))) b _ ⟨hB,k13_ hF.out.2 fun t=>⟨(fun _=>rfl),(fun _=>rfl),t.2.2⟩⟩
    refine sc_ rfl [14] (fun d s b w hF hd hw K hK=>?_) ?_
    ·have hB:Below W1.heap.size W1 w:=(p0_ hF.out)
     have e14:=p15_ hF.out (hw 14 (by decide))
     dsimp only
     have oS:=HS.out.later hB
     have Sx:=oS.at a3 _ V3.out
     clear oS
     go_simp
     exact hK.out (ups (ups s 26 (.pointer (some ⟨S,a3,none⟩))) 27 (.int .u32 v3)) b _ ⟨hB,k14_ hF.out.2 fun t=>⟨(fun _=>rfl),(fun _=>rfl),t.2.2⟩⟩
    refine sc_ rfl [3,7,11,15] (fun d s b w hF hd hw K hK=>?_) ?_
    ·have hB:Below W1.heap.size W1 w:=(p0_ hF.out)
     have e3:=p4_ hF.out (hw 3 (by decide))
     have e7:=p8_ hF.out (hw 7 (by decide))
     have e11:=p12_ hF.out (hw 11 (by decide))
     have e15:=p16_ hF.out (hw 15 (by decide))
     dsimp only
     go_simp
     exact hK.out (ups (ups (ups (ups (ups s 15 (.int .u32 v0)) 19 (.int .u32 v1)) 23 (.int .u32 v2)) 27 (.int .u32 v3)) 28 ((.agg #[.int .u32 v0,.int .u32 v1,.int .u32 v2,.int .u32 v3]))) b _ ⟨hB,k3_ hF.out.2 fun t=>⟨(fun _=>rfl),k3_ t.2 fun t=>⟨(fun _=>rfl),k3_ t.2 fun t=>⟨(fun _=>rfl),k3_ t.2 fun t=>⟨(fun _=>rfl),(fun _=>rfl),t.2.2⟩⟩⟩⟩⟩
    refine sc_ rfl [16] (fun d s b w hF hd hw K hK=>?_) ?_
    ·have hB:Below W1.heap.size W1 w:=(p0_ hF.out)
     have e16:=p17_ hF.out (hw 16 (by decide))
     dsimp only
     go_simp
     go_at_call 185
     refine (QC.out _).mono ?_
     rintro e w1 ⟨rfl,hb⟩
     exact hK.out (ups (ups s 28 ((.agg #[.int .u32 v0,.int .u32 v1,.int .u32 v2,.int .u32 v3]))) 29 ((.agg #[.int .u32 p0,.int .u32 p1,.int .u32 p2,.int .u32 p3]))) b _ ⟨(Below.go hB hb),k16_ hF.out.2 fun t=>⟨(fun _=>rfl),(fun _=>rfl),t.2.2.1,(fun h0 h1=>((p20_ hF.out) h0 h1).later hb),(fun h0=>((p21_ hF.out) h0).later hb),t.2.2.2.2.2⟩⟩
    refine sc_ rfl [] (fun d s b w hF hd hw K hK=>?_) ?_
    ·have hB:Below W1.heap.size W1 w:=(p0_ hF.out)
     dsimp only
     go_simp
     exact hK.out (ups s 5 (.pointer (some ⟨w.heap.size,0,none⟩))) (ups b 18 w.heap.size) _ ⟨(hB.alloc hB.size _),k18_ hF.out.2 fun t=>⟨(fun _=>⟨rfl,hB.size⟩),(fun _ _=>Own.newAt rfl),(fun h=>absurd ((q22_ hF.out) h) (by simp[hd])),(fun _=>rfl)⟩⟩
    refine sc_ rfl [18,17,17,0,1,2,3,4,5,6,7,8,9,10,11,12,13,14,15,16,17,18] (fun d s b w hF hd hw K hK=>?_) ?_
    ·have hB:Below W1.heap.size W1 w:=(p0_ hF.out)
     have e0:=p1_ hF.out (hw 0 (by decide))
     have e1:=p2_ hF.out (hw 1 (by decide))
     have e2:=p3_ hF.out (hw 2 (by decide))
     have e3:=p4_ hF.out (hw 3 (by decide))
     have e4:=p5_ hF.out (hw 4 (by decide))
     have e5:=p6_ hF.out (hw 5 (by decide))
     have e6:=p7_ hF.out (hw 6 (by decide))
     have e7:=p8_ hF.out (hw 7 (by decide))
     have e8:=p9_ hF.out (hw 8 (by decide))
     have e9:=p10_ hF.out (hw 9 (by decide))
     have e10:=p11_ hF.out (hw 10 (by decide))
     have e11:=p12_ hF.out (hw 11 (by decide))
     have e12:=p13_ hF.out (hw 12 (by decide))
     have e13:=p14_ hF.out (hw 13 (by decide))
     have e14:=p15_ hF.out (hw 14 (by decide))
     have e15:=p16_ hF.out (hw 15 (by decide))
     have e16:=p17_ hF.out (hw 16 (by decide))
     have e17:=p18_ hF.out (hw 17 (by decide))
     have e18:s 5 = .pointer (some ⟨(b 18),0,none⟩):=((p19_ hF.out) (hw 18 (by decide))).1
     have le18:W1.heap.size≤b 18:=((p19_ hF.out) (hw 18 (by decide))).2
     dsimp only
     have o18:=(p20_ hF.out) (hw 18 (by decide)) hd
     have fr0:=o18.ok 0 (by simp)
     have fr1:=o18.ok 1 (by simp)
     have fr2:=o18.ok 2 (by simp)
     have fr3:=o18.ok 3 (by simp)
     have ce0:=o18.at 0 _ rfl
     have ce1:=o18.at 1 _ rfl
     have ce2:=o18.at 2 _ rfl
     have ce3:=o18.at 3 _ rfl
     go_simp
     exact hK.out (ups (ups (ups (ups (ups (ups (ups (ups (ups (ups (ups (ups (ups (ups (ups (ups (ups (ups (ups s 12 (.pointer (some ⟨G,0,none⟩))) 13 (.int .i64 (a0:Nat))) 14 (.pointer (some ⟨S,a0,none⟩))) 15 (.int .u32 v0)) 16 (.pointer (some ⟨G,1,none⟩))) 17 (.int .i64 (a1:Nat))) 18 (.pointer (some ⟨S,a1,none⟩))) 19 (.int .u32 v1)) 20 (.pointer (some ⟨G,2,none⟩))) 21 (.int .i64 (a2:Nat))) 22 (.pointer (some ⟨S,a2,none⟩))) 23 (.int .u32 v2)) 24 (.pointer (some ⟨G,3,none⟩))) 25 (.int .i64 (a3:Nat))) 26 (.pointer (some ⟨S,a3,none⟩))) 27 (.int .u32 v3)) 28 ((.agg #[.int .u32 v0,.int .u32 v1,.int .u32 v2,.int .u32 v3]))) 29 ((.agg #[.int .u32 p0,.int .u32 p1,.int .u32 p2,.int .u32 p3]))) 5 (.pointer (some ⟨(b 18),0,none⟩))) b _ ⟨(Below.setCells hB le18 [.int .u32 p0,.int .u32 p1,.int .u32 p2,.int .u32 p3] 0),(fun _=>rfl),(fun _=>rfl),(fun _=>rfl),(fun _=>rfl),(fun _=>rfl),(fun _=>rfl),(fun _=>rfl),(fun _=>rfl),(fun _=>rfl),(fun _=>rfl),(fun _=>rfl),(fun _=>rfl),(fun _=>rfl),(fun _=>rfl),(fun _=>rfl),(fun _=>rfl),(fun _=>rfl),(fun _=>rfl),(fun _=>⟨rfl,le18⟩),(fun _ h=>nomatch h),(fun _=>Own.store (vs:=[.int .u32 p0,.int .u32 p1,.int .u32 p2,.int .u32 p3]) o18 rfl),(fun _=>hw 18 (by decide))⟩
    exact StepsF.nil
   intro d s b y1 hF hall
   replace hF:=Lib.hid hF
   have hB:Below W1.heap.size W1 y1:=(p0_ hF.out)
   try dsimp only
   have e0:s 12 = .pointer (some ⟨G,0,none⟩):=(p1_ hF.out) (hall 0 (by decide))
   have e1:s 13 = .int .i64 (a0:Nat):=(p2_ hF.out) (hall 1 (by decide))
   have e2:s 14 = .pointer (some ⟨S,a0,none⟩):=(p3_ hF.out) (hall 2 (by decide))
   have e3:s 15 = .int .u32 v0:=(p4_ hF.out) (hall 3 (by decide))
   have e4:s 16 = .pointer (some ⟨G,1,none⟩):=(p5_ hF.out) (hall 4 (by decide))
   have e5:s 17 = .int .i64 (a1:Nat):=(p6_ hF.out) (hall 5 (by decide))
   have e6:s 18 = .pointer (some ⟨S,a1,none⟩):=(p7_ hF.out) (hall 6 (by decide))
   have e7:s 19 = .int .u32 v1:=(p8_ hF.out) (hall 7 (by decide))
   have e8:s 20 = .pointer (some ⟨G,2,none⟩):=(p9_ hF.out) (hall 8 (by decide))
   have e9:s 21 = .int .i64 (a2:Nat):=(p10_ hF.out) (hall 9 (by decide))
   have e10:s 22 = .pointer (some ⟨S,a2,none⟩):=(p11_ hF.out) (hall 10 (by decide))
   have e11:s 23 = .int .u32 v2:=(p12_ hF.out) (hall 11 (by decide))
   have e12:s 24 = .pointer (some ⟨G,3,none⟩):=(p13_ hF.out) (hall 12 (by decide))
   have e13:s 25 = .int .i64 (a3:Nat):=(p14_ hF.out) (hall 13 (by decide))
   have e14:s 26 = .pointer (some ⟨S,a3,none⟩):=(p15_ hF.out) (hall 14 (by decide))
   have e15:s 27 = .int .u32 v3:=(p16_ hF.out) (hall 15 (by decide))
   have e16:s 28=(.agg #[.int .u32 v0,.int .u32 v1,.int .u32 v2,.int .u32 v3]):=(p17_ hF.out) (hall 16 (by decide))
   have e17:s 29=(.agg #[.int .u32 p0,.int .u32 p1,.int .u32 p2,.int .u32 p3]):=(p18_ hF.out) (hall 17 (by decide))
   have e18:s 5 = .pointer (some ⟨(b 18),0,none⟩):=((p19_ hF.out) (hall 18 (by decide))).1
   have le18:W1.heap.size≤b 18:=((p19_ hF.out) (hall 18 (by decide))).2
   have f19:=(p21_ hF.out) (hall 19 (by decide))
   rw[e0,e1,e2,e3,e4,e5,e6,e7,e8,e9,e10,e11,e12,e13,e14,e15,e16,e17,e18]
   clear hall hF e0 e1 e2 e3 e4 e5 e6 e7 e8 e9 e10 e11 e12 e13 e14 e15 e16 e17 e18
   obtain⟨Q,hz⟩:∃ x,x=b 18:=⟨_,rfl⟩
   rw[← hz] at le18 f19 ⊢
   clear hz
   clear d s b
   have HQ:=Lib.hid f19
   have nQS:Q≠S:=by have:=HS.out.lt;omega
   have nQR:Q≠R:=by have:=HR.out.lt;omega
   have nRQ:=Ne.symm nQR
   have nSQ:=Ne.symm nQS
   have nQG:Q≠G:=by have:=HG.out.lt;omega
   have nGQ:=Ne.symm nQG
   clear f19 QC V0 V1 V2 V3
   have HSk:=Lib.hid (HS.out.later hB)
   have HRk:=Lib.hid (HR.out.later hB)
   have HGk:=Lib.hid (HG.out.later hB)
   clear HS HR HG
   have HS:=HSk
   clear HSk
   have HR:=HRk
   clear HRk
   have HG:=HGk
   clear HGk
   have hB1:=Below.go hB0 hB
   clear hB0 hB le18
   have hB0:=hB1
   clear hB1
   have oG:=HG.out
   have G0:=oG.at 0 _ rfl
   have G1:=oG.at 1 _ rfl
   have G2:=oG.at 2 _ rfl
   have G3:=oG.at 3 _ rfl
   have Gl:=oG.lt
   clear oG
   go_wp2_with (fail)
   clear G0 G1 G2 G3 Gl
   refine wp_loop_rounds 5 ?_
   have oS:=HS.out
   have Sx:=oS.at a0 _ (nums_at .u32 _ A0.out)
   have Sf:=oS.ok a0 (by rw[nums_length];exact A0.out)
   have Sl:=oS.lt
   clear oS
   have oQ:=HQ.out
   have Q0:=oQ.at 0 _ rfl
   have Ql:=oQ.lt
   clear oQ
   have hx:(Instr.index 230 (.agg #[.int .i64 (a0:Nat),.int .i64 (a1:Nat),.int .i64 (a2:Nat),.int .i64 (a3:Nat)]) (.int .i64 0)).run Tryz.prog y1 = .ok (.int .i64 (a0:Nat)) y1:=by kernel_rfl
   rw[rounds_succ]
   go_wp2_with (fail)
   clear Sx Sf Sl Q0 Ql hx
   change Code.rounds _ _ _ _ _ (y1.setCells S a0 [.int .u32 p0])
   have HSn:Hid (Own S (nums .u32 (at1 f a0 p0) 16) (y1.setCells S a0 [.int .u32 p0])):=Lib.hid (own_set HS.out A0.out)
   have HRn:Hid (Own R ([.int .u32 0,.int .u32 0,.int .u32 0,.int .u32 0,.int .u32 0,.int .u32 0,.int .u32 0,.int .u32 0,.int .u32 0,.int .u32 0,.int .u32 0,.int .u32 0,.int .u32 0,.int .u32 0,.int .u32 0,.int .u32 0]) (y1.setCells S a0 [.int .u32 p0])):=Lib.hid (Own.far (o:=a0) (vs:=[.int .u32 p0]) HR.out nRS)
   have HQn:Hid (Own Q ([.int .u32 p0,.int .u32 p1,.int .u32 p2,.int .u32 p3]) (y1.setCells S a0 [.int .u32 p0])):=Lib.hid (Own.far (o:=a0) (vs:=[.int .u32 p0]) HQ.out nQS)
   have hB0n:Below w.heap.size w (y1.setCells S a0 [.int .u32 p0]):=Below.setCells hB0 Sw [.int .u32 p0] a0
   clear HS HR HQ hB0
   generalize (y1.setCells S a0 [.int .u32 p0])=q0 at *
   have HS:=HSn
   clear HSn
   have HR:=HRn
   clear HRn
   have HQ:=HQn
   clear HQn
   have hB0:=hB0n
   clear hB0n
   have oS:=HS.out
   have Sx:=oS.at a1 _ (nums_at .u32 _ A1.out)
   have Sf:=oS.ok a1 (by rw[nums_length];exact A1.out)
   have Sl:=oS.lt
   clear oS
   have oQ:=HQ.out
   have Q1:=oQ.at 1 _ rfl
   have Ql:=oQ.lt
   clear oQ
   have hx:(Instr.index 230 (.agg #[.int .i64 (a0:Nat),.int .i64 (a1:Nat),.int .i64 (a2:Nat),.int .i64 (a3:Nat)]) (.int .i64 1)).run Tryz.prog q0 = .ok (.int .i64 (a1:Nat)) q0:=by kernel_rfl
   rw[rounds_succ]
   go_wp2_with (fail)
   clear Sx Sf Sl Q1 Ql hx
   change Code.rounds _ _ _ _ _ (q0.setCells S a1 [.int .u32 p1])
   have HSn:Hid (Own S (nums .u32 (at1 (at1 f a0 p0) a1 p1) 16) (q0.setCells S a1 [.int .u32 p1])):=Lib.hid (own_set HS.out A1.out)
   have HRn:Hid (Own R ([.int .u32 0,.int .u32 0,.int .u32 0,.int .u32 0,.int .u32 0,.int .u32 0,.int .u32 0,.int .u32 0,.int .u32 0,.int .u32 0,.int .u32 0,.int .u32 0,.int .u32 0,.int .u32 0,.int .u32 0,.int .u32 0]) (q0.setCells S a1 [.int .u32 p1])):=Lib.hid (Own.far (o:=a1) (vs:=[.int .u32 p1]) HR.out nRS)
   have HQn:Hid (Own Q ([.int .u32 p0,.int .u32 p1,.int .u32 p2,.int .u32 p3]) (q0.setCells S a1 [.int .u32 p1])):=Lib.hid (Own.far (o:=a1) (vs:=[.int .u32 p1]) HQ.out nQS)
   have hB0n:Below w.heap.size w (q0.setCells S a1 [.int .u32 p1]):=Below.setCells hB0 Sw [.int .u32 p1] a1
   clear HS HR HQ hB0
   generalize (q0.setCells S a1 [.int .u32 p1])=q1 at *
   have HS:=HSn
   clear HSn
   have HR:=HRn
   clear HRn
   have HQ:=HQn
   clear HQn
   have hB0:=hB0n
   clear hB0n
   have oS:=HS.out
   have Sx:=oS.at a2 _ (nums_at .u32 _ A2.out)
   have Sf:=oS.ok a2 (by rw[nums_length];exact A2.out)
   have Sl:=oS.lt
   clear oS
   have oQ:=HQ.out
   have Q2:=oQ.at 2 _ rfl
   have Ql:=oQ.lt
   clear oQ
   have hx:(Instr.index 230 (.agg #[.int .i64 (a0:Nat),.int .i64 (a1:Nat),.int .i64 (a2:Nat),.int .i64 (a3:Nat)]) (.int .i64 2)).run Tryz.prog q1 = .ok (.int .i64 (a2:Nat)) q1:=by kernel_rfl
   rw[rounds_succ]
   go_wp2_with (fail)
   clear Sx Sf Sl Q2 Ql hx
   change Code.rounds _ _ _ _ _ (q1.setCells S a2 [.int .u32 p2])
   have HSn:Hid (Own S (nums .u32 (at1 (at1 (at1 f a0 p0) a1 p1) a2 p2) 16) (q1.setCells S a2 [.int .u32 p2])):=Lib.hid (own_set HS.out A2.out)
   have HRn:Hid (Own R ([.int .u32 0,.int .u32 0,.int .u32 0,.int .u32 0,.int .u32 0,.int .u32 0,.int .u32 0,.int .u32 0,.int .u32 0,.int .u32 0,.int .u32 0,.int .u32 0,.int .u32 0,.int .u32 0,.int .u32 0,.int .u32 0]) (q1.setCells S a2 [.int .u32 p2])):=Lib.hid (Own.far (o:=a2) (vs:=[.int .u32 p2]) HR.out nRS)
   have HQn:Hid (Own Q ([.int .u32 p0,.int .u32 p1,.int .u32 p2,.int .u32 p3]) (q1.setCells S a2 [.int .u32 p2])):=Lib.hid (Own.far (o:=a2) (vs:=[.int .u32 p2]) HQ.out nQS)
   have hB0n:Below w.heap.size w (q1.setCells S a2 [.int .u32 p2]):=Below.setCells hB0 Sw [.int .u32 p2] a2
   clear HS HR HQ hB0
   generalize (q1.setCells S a2 [.int .u32 p2])=q2 at *
   have HS:=HSn
   clear HSn
   have HR:=HRn
   clear HRn
   have HQ:=HQn
   clear HQn
   have hB0:=hB0n
   clear hB0n
   have oS:=HS.out
   have Sx:=oS.at a3 _ (nums_at .u32 _ A3.out)
   have Sf:=oS.ok a3 (by rw[nums_length];exact A3.out)
   have Sl:=oS.lt
   clear oS
   have oQ:=HQ.out
   have Q3:=oQ.at 3 _ rfl
   have Ql:=oQ.lt
   clear oQ
   have hx:(Instr.index 230 (.agg #[.int .i64 (a0:Nat),.int .i64 (a1:Nat),.int .i64 (a2:Nat),.int .i64 (a3:Nat)]) (.int .i64 3)).run Tryz.prog q2 = .ok (.int .i64 (a3:Nat)) q2:=by kernel_rfl
   rw[rounds_succ]
   go_wp2_with (fail)
   clear Sx Sf Sl Q3 Ql hx
   change Code.rounds _ _ _ _ _ (q2.setCells S a3 [.int .u32 p3])
   have HSn:Hid (Own S (nums .u32 (at1 (at1 (at1 (at1 f a0 p0) a1 p1) a2 p2) a3 p3) 16) (q2.setCells S a3 [.int .u32 p3])):=Lib.hid (own_set HS.out A3.out)
   have HRn:Hid (Own R ([.int .u32 0,.int .u32 0,.int .u32 0,.int .u32 0,.int .u32 0,.int .u32 0,.int .u32 0,.int .u32 0,.int .u32 0,.int .u32 0,.int .u32 0,.int .u32 0,.int .u32 0,.int .u32 0,.int .u32 0,.int .u32 0]) (q2.setCells S a3 [.int .u32 p3])):=Lib.hid (Own.far (o:=a3) (vs:=[.int .u32 p3]) HR.out nRS)
   have HQn:Hid (Own Q ([.int .u32 p0,.int .u32 p1,.int .u32 p2,.int .u32 p3]) (q2.setCells S a3 [.int .u32 p3])):=Lib.hid (Own.far (o:=a3) (vs:=[.int .u32 p3]) HQ.out nQS)
   have hB0n:Below w.heap.size w (q2.setCells S a3 [.int .u32 p3]):=Below.setCells hB0 Sw [.int .u32 p3] a3
   clear HS HR HQ hB0
   generalize (q2.setCells S a3 [.int .u32 p3])=q3 at *
   have HS:=HSn
   clear HSn
   have HR:=HRn
   clear HRn
   have HQ:=HQn
   clear HQn
   have hB0:=hB0n
   clear hB0n
   rw[rounds_succ]
   go_wp2_with (fail)
   go_roundw
   case rel=>exact⟨k+1,by omega,by go_num,Lib.hid hB0,Lib.hid (by rw[show partR zs (k+1)=nx from hnx.out,hN.out];exact HS.out),HR⟩
   case measure=>simp[intOf];omega
  ·have e8:k=8:=by omega
   subst e8
   go_upto_region 11 with fail
   refine wp_region_lit ?_
   refine wpList_load_mid rfl 219 _ rfl S 0 rfl (nums .u32 (partR zs 8) 16) _ HS.out.cell Tryz.underlying219 rfl (by kernel_rfl) ?_
   refine wpList_store_mid rfl 219 _ _ rfl R 0 (nums .u32 (partR zs 8) 16).toArray rfl rfl HR.out.free (by kernel_rfl) (all_oneCell_toArray (nums_one _ _ _)) ?_
   have hB0:=HB.out
   change wpList _ _ _ [] _ (wr.setCells R 0 (nums .u32 (partR zs 8) 16))
   have HRn:Hid (Own R (nums .u32 (partR zs 8) 16) (wr.setCells R 0 (nums .u32 (partR zs 8) 16))):=Lib.hid (Own.store HR.out rfl)
   have HSn:Hid (Own S (nums .u32 (partR zs 8) 16) (wr.setCells R 0 (nums .u32 (partR zs 8) 16))):=Lib.hid (Own.far (o:=0) (vs:=(nums .u32 (partR zs 8) 16)) HS.out nSR)
   have hB0n:Below w.heap.size w (wr.setCells R 0 (nums .u32 (partR zs 8) 16)):=Below.setCells hB0 Rw (nums .u32 (partR zs 8) 16) 0
   clear HR HS hB0
   generalize (wr.setCells R 0 (nums .u32 (partR zs 8) 16))=w3 at *
   have HR:=HRn
   clear HRn
   have HS:=HSn
   clear HSn
   have hB0:=hB0n
   clear hB0n
   go_wp2_with (fail)
   rw[show roundF zs=partR zs 8 from rfl]
   have hL:=run_loadVar_mid (P:=Tryz.prog) _ R 0 219 (nums .u32 (partR zs 8) 16) _ HR.out.cell Tryz.underlying219 rfl (by kernel_rfl)
   exact bodyPost_ret (v := .agg (nums .u32 (partR zs 8) 16).toArray) (res_cell Tryz.results163 rfl hL) rfl ⟨rfl,hB0⟩
end Go.Proofs.YtbilamnnneddmaaGreatDoor
namespace Go.Proofs.YtbilamnnneddmaaGreatDoor
set_option linter.unusedVariables false
set_option maxRecDepth 2000
set_option linter.unusedSimpArgs false
open Go.RowKit
def gqB (f g:Nat→Int) (n:Nat):Bool:=decide (∀ i,i<n→f i=g i)
theorem gqB_congr {f g:Nat→Int} {n:Nat} (h:∀ i,i<n→f i=g i):gqB f g n=true:=decide_eq_true h
def gqF (f g:Nat→Int):Nat→Nat→Bool
 | _,0=>true
 | a,m+1=>decide (f a=g a) && gqF f g (a+1) m
theorem gqF_iff (f g:Nat→Int):∀ (m a:Nat),gqF f g a m=true↔∀ i,a≤i→i<a+m→f i=g i
 | 0,a=>⟨fun _ i h1 h2=>by omega,fun _=>rfl⟩
 | m+1,a=>by
  rw[gqF,Bool.and_eq_true,decide_eq_true_iff,gqF_iff f g m (a+1)]
  constructor
  ·intro h i h1 h2
   by_cases ia:i=a
   ·subst ia;exact h.1
   ·exact h.2 i (by omega) (by omega)
  ·intro h;exact⟨h a (Nat.le_refl _) (by omega),fun i h1 h2=>h i (by omega) (by omega)⟩
theorem gq_loop2 {P:Program} {w:World} (F:Nat→Sem (ForInStep (Option Bool×Unit))) (f g:Nat→Int):∀ (m a:Nat),(∀ i,a≤i→i<a+m→(F i).run P w = .ok (if f i=g i then .yield (none,()) else .done (some false,())) w) →
  (forIn (List.range' a m) ((none,()):Option Bool×Unit) fun i _=>F i).run P w = .ok (if gqF f g a m=true then (none,()) else (some false,())) w
 | 0,a,_=>by simp[gqF]
 | m+1,a,h=>by
  rw[List.range'_succ,List.forIn_cons,Sem.run_bind,h a (Nat.le_refl _) (by omega),Result.andThen_ok,gqF]
  by_cases e:f a=g a
  ·rw[if_pos e,decide_eq_true e,Bool.true_and]
   show (forIn (List.range' (a+1) m) ((none,()):Option Bool×Unit) fun i _=>F i).run P w=_
   rw[gq_loop2 F f g m (a+1) fun i h1 h2=>h i (by omega) (by omega)]
  ·rw[if_neg e,decide_eq_false e,Bool.false_and]
   rfl
theorem gq_nums2 {P:Program} {t e n:Nat} {k:IntKind} (f g:Nat→Int) {w:World} (d:Nat) (ht:P.underlying t=some (.array n e)) (he:P.underlying e=some (.int k)) (hs:(sizeOf e).run P w = .ok 1 w) (ha:(isAgg e).run P w = .ok false w) :
  (Op.equalIn (d+2) t (.agg (nums k f n).toArray) (.agg (nums k g n).toArray)).run P w = .ok (gqB f g n) w:=by
 rw[Op.equalIn]
 simp only[Sem.run_bind,run_underlying ht,Result.andThen_ok,hs]
 simp only[Std.Legacy.Range.forIn_eq_forIn_range']
 have hn:([:n]:Std.Legacy.Range).size=n:=by simp[Std.Legacy.Range.size]
 rw[hn]
 rw[gq_loop2 (w:=w) (P:=P) _ f g n 0 (fun i _ hi=>?_),Result.andThen_ok]
 ·have er:gqB f g n=gqF f g 0 n:=by
   rw[Bool.eq_iff_iff,gqF_iff]
   unfold gqB
   rw[decide_eq_true_iff]
   exact⟨fun h i _ h2=>h i (by omega),fun h i h2=>h i (Nat.zero_le _) (by omega)⟩
  rw[er]
  cases gqF f g 0 n<;>rfl
 ·have h1:i<n:=by omega
  have r1:=run_equalIn_int (P:=P) w d e k k (f i) (g i) he
  by_cases q:f i=g i
  ·rw[q] at r1
   simp[Sem.run_bind,run_part1 h1 hs ha,q,r1]
  ·simp[Sem.run_bind,run_part1 h1 hs ha,r1,q]
theorem eq8 (f g:Nat→Int) (w:World):(Op.equalIn 9999 23 (.agg #[.int .u8 (f 0),.int .u8 (f 1),.int .u8 (f 2),.int .u8 (f 3),.int .u8 (f 4),.int .u8 (f 5),.int .u8 (f 6),.int .u8 (f 7)]) (.agg #[.int .u8 (g 0),.int .u8 (g 1),.int .u8 (g 2),.int .u8 (g 3),.int .u8 (g 4),.int .u8 (g 5),.int .u8 (g 6),.int .u8 (g 7)])).run Tryz.prog w = .ok (gqB f g 8) w :=
 gq_nums2 (n:=8) f g 9997 Tryz.underlying23 Tryz.underlying5 (by simp[go_sem]) (by simp[go_sem])
def manB (mi mk ml:Int) (mg:Nat→Int) (mf mt ms mc:Int) (ni nk nl:Int) (ng:Nat→Int) (nf nt ns nc:Int):Bool:=(mi == ni) && ((mk == nk) && ((ml == nl) && (gqB mg ng 8 && ((mf == nf) && ((mt == nt) && ((ms == ns) && (mc == nc)))))))
theorem manB_iff (mi mk ml:Int) (mg:Nat→Int) (mf mt ms mc:Int) (ni nk nl:Int) (ng:Nat→Int) (nf nt ns nc:Int):manB mi mk ml mg mf mt ms mc ni nk nl ng nf nt ns nc=true↔mi=ni∧mk=nk∧ml=nl∧(∀ j,j<8→mg j=ng j)∧mf=nf∧mt=nt∧ms=ns∧mc=nc:=by
 unfold manB gqB
 simp only[Bool.and_eq_true,beq_iff_eq,decide_eq_true_eq]
set_option maxHeartbeats 4000000 in
theorem eqM (mi mk ml:Int) (mg:Nat→Int) (mf mt ms mc:Int) (ni nk nl:Int) (ng:Nat→Int) (nf nt ns nc:Int) (w:World):(binOp .eql 27 (.agg #[.int .u64 mi,.int .i64 mk,.int .u32 ml,.int .u8 (mg 0),.int .u8 (mg 1),.int .u8 (mg 2),.int .u8 (mg 3),.int .u8 (mg 4),.int .u8 (mg 5),.int .u8 (mg 6),.int .u8 (mg 7),.int .u32 mf,.int .u32 mt,.int .i64 ms,.int .i64 mc]) (.agg #[.int .u64 ni,.int .i64 nk,.int .u32 nl,.int .u8 (ng 0),.int .u8 (ng 1),.int .u8 (ng 2),.int .u8 (ng 3),.int .u8 (ng 4),.int .u8 (ng 5),.int .u8 (ng 6),.int .u8 (ng 7),.int .u32 nf,.int .u32 nt,.int .i64 ns,.int .i64 nc])).run Tryz.prog w = .ok (.bool (manB mi mk ml mg mf mt ms mc ni nk nl ng nf nt ns nc)) w:=by
 have h:=eq8 mg ng w
 rw[run_eql_struct]
 unfold manB
 simp[go_sem,h]
 repeat' split
 all_goals simp_all
theorem manB_self (mi mk ml:Int) (mg:Nat→Int) (mf mt ms mc:Int):manB mi mk ml mg mf mt ms mc mi mk ml mg mf mt ms mc=true:=(manB_iff _ _ _ _ _ _ _ _ _ _ _ _ _ _ _ _).2 ⟨rfl,rfl,rfl,fun _ _=>rfl,rfl,rfl,rfl,rfl⟩
theorem eqMs (mi mk ml:Int) (mg:Nat→Int) (mf mt ms mc:Int) (w:World):(binOp .eql 27 (.agg #[.int .u64 mi,.int .i64 mk,.int .u32 ml,.int .u8 (mg 0),.int .u8 (mg 1),.int .u8 (mg 2),.int .u8 (mg 3),.int .u8 (mg 4),.int .u8 (mg 5),.int .u8 (mg 6),.int .u8 (mg 7),.int .u32 mf,.int .u32 mt,.int .i64 ms,.int .i64 mc]) (.agg #[.int .u64 mi,.int .i64 mk,.int .u32 ml,.int .u8 (mg 0),.int .u8 (mg 1),.int .u8 (mg 2),.int .u8 (mg 3),.int .u8 (mg 4),.int .u8 (mg 5),.int .u8 (mg 6),.int .u8 (mg 7),.int .u32 mf,.int .u32 mt,.int .i64 ms,.int .i64 mc])).run Tryz.prog w = .ok (.bool true) w:=by
 rw[eqM,manB_self]
end Go.Proofs.YtbilamnnneddmaaGreatDoor
