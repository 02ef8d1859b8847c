import Derived.Test.YtbilamnnneddmaaGreatDoorZQnx
import Derived.Test.YtbilamnnneddmaaGreatDoorZQd
import Derived.Test.YtbilamnnneddmaaGreatDoorZQcx
import Derived.OrdersHeld
import Derived.Lib.Hide
import Derived.LoopN
import Derived.LoopTactic
import Derived.Deep.Onto
import Derived.Deep.RegionHeld3
import Derived.Deep.QuietTactic
import Derived.BigQuiet
import Derived.Great.BuildSlice
import Derived.StillTailTactics
import Derived.Lib.SliceRun
import Derived.Test.YtbilamnnneddmaaGreatDoorZJcx
namespace Go.Proofs.YtbilamnnneddmaaGreatDoor
set_option linter.unusedVariables false
set_option maxRecDepth 2000
set_option linter.unusedSimpArgs false
open Go.RowKit
def q63 (D o c s:Nat):Option Addr:=if c=63 then some ⟨D,o,none⟩ else some ⟨D,o+63*s,none⟩
theorem sl63 (D o N c s:Nat):sliced (some ⟨D,o,none⟩) (Int.toNat 63) N c s = .slice (q63 D o c s) (N - 63) (c - 63):=by
 unfold sliced q63
 rw[show Int.toNat 63=63 from rfl]
 split
 ·rfl
 ·simp[Addr.add]
theorem byt63 {w:World} {D o N c:Nat} {F:Nat→Int} (h:Has D o (nums .u8 F N) w) (hN:63≤N) (hc:N≤c):Byt w (q63 D o c 1) (N - 63) fun j=>F (63+j):=by
 by_cases e:N=63
 ·subst e;exact .inl rfl
 ·exact .inr ⟨D,o+63,if_neg (by omega),has_drop h (by omega)⟩
attribute [local go_sem ↓ high] sl63
theorem made_u8 (L:Nat):(madeCells #[Value.int .u8 0] L).toList=nums .u8 (fun _=>0) L:=by
 apply List.ext_getElem?
 intro j
 by_cases h:j<L
 ·rw[nums_at _ _ h]
  simp[madeCells,h,Nat.mod_one]
 ·rw[List.getElem?_eq_none (by simp[madeCells];omega),List.getElem?_eq_none (by rw[nums_length];omega)]
structure OcO (w:World) (D K V E B T R Q DD PB:Nat):Prop where
 v:w.heap.size≤V
 e:w.heap.size≤E
 q:w.heap.size≤Q
 p:w.heap.size≤PB
 nq:D≠Q∧K≠Q∧V≠Q∧E≠Q∧B≠Q∧T≠Q∧R≠Q∧PB≠Q∧1≠Q
 np:D≠PB∧K≠PB∧V≠PB∧E≠PB∧B≠PB∧T≠PB∧R≠PB∧Q≠PB∧DD≠PB∧1≠PB
 ve:V≠E
structure OcJ (w:World) (kf F:Nat→Int) (D o N L K V E B T R Q DD PB:Nat) (k at_:Nat) (er:Int) (W:World):Prop where
 hk:Own K (nums .u8 kf 32) W
 hv:Own V [.slice none 0 0] W
 he:Own E [.int .i64 0] W
 hb:Own B (nums .u8 (basF F) 8) W
 ht:Own T [.slice (some ⟨D,o+47,none⟩) 16 16] W
 hr:Own R [.pointer (some ⟨Q,0,none⟩)] W
 hq:Rd W Q DD (fun j=>F (63+j)) (N - 63) at_ er
 hp:Own PB (nums .u8 (plnF kf F k) L) W
 hd:Has D o (nums .u8 F N) W
 hg:Has 1 0 GL W
 hz:Below w.heap.size w W
 hy:firE (chE kf F N L) k=0
theorem bytD_odd {w:World} {q:Option Addr} {n K D l:Nat} {f:Nat→Int} {ob:Obj} (h:BytD w q n f K D) (hl:Odd l w):BytD (w.putObj l ob) q n f K D:=by
 rcases h with h | ⟨off,h1,h2,h3⟩
 ·exact .inl h
 ·rcases Nat.eq_zero_or_pos n with h0 | h0
  ·exact .inl h0
  ·obtain⟨m,hm⟩:∃ m,n=m+1:=⟨n - 1,by omega⟩
   refine .inr ⟨off,h1,h2,?_⟩
   rw[hm] at h3 ⊢
   exact h3.but But.putObj (odd_ne hl (h3.at 0 (.int .u8 (f 0)) (nums_at _ _ (by omega))))
theorem Rd.odd {w:World} {K D N at_ l:Nat} {F:Nat→Int} {er:Int} {ob:Obj} (h:Rd w K D F N at_ er) (hl:Odd l w):Rd (w.putObj l ob) K D F N at_ er:=by
 obtain⟨p,c,h1,h2,h3⟩:=h.ex
 exact⟨p,c,h1.odd hl,bytD_odd h2 hl,h3⟩
theorem num_odd {b o n l:Nat} {f:Nat→Int} {W:World} {ob:Obj} (hn:0<n) (h:Has b o (nums .u8 f n) W) (hl:Odd l W):Has b o (nums .u8 f n) (W.putObj l ob) :=
 h.but But.putObj (odd_ne hl (h.at 0 (.int .u8 (f 0)) (nums_at _ _ hn)))
theorem own_odd {b n l:Nat} {f:Nat→Int} {W:World} {ob:Obj} (hn:0<n) (h:Own b (nums .u8 f n) W) (hl:Odd l W):Own b (nums .u8 f n) (W.putObj l ob) :=
 h.but But.putObj (odd_ne hl (h.at 0 (.int .u8 (f 0)) (nums_at _ _ hn)))
section
variable {w W W':World} {kf F:Nat→Int} {D o N L K V E B T R Q DD PB k at_ at2:Nat} {er er2:Int}
theorem OcJ.later (h:OcJ w kf F D o N L K V E B T R Q DD PB k at_ er W) (hb:Below W.heap.size W W'):OcJ w kf F D o N L K V E B T R Q DD PB k at_ er W' :=
 ⟨h.hk.later hb,h.hv.later hb,h.he.later hb,h.hb.later hb,h.ht.later hb,h.hr.later hb,h.hq.later hb,h.hp.later hb,h.hd.later hb,h.hg.later hb,Below.go h.hz hb,h.hy⟩
theorem OcJ.odd {l:Nat} {ob:Obj} (hN:0<N) (hL:0<L) (h:OcJ w kf F D o N L K V E B T R Q DD PB k at_ er W) (hw:w.heap.size≤l) (hl:Odd l W):OcJ w kf F D o N L K V E B T R Q DD PB k at_ er (W.putObj l ob) :=
 ⟨own_odd (by decide) h.hk hl,h.hv.odd hl,h.he.odd hl,own_odd (by decide) h.hb hl,h.ht.odd hl,h.hr.odd hl,h.hq.odd hl,own_odd hL h.hp hl,num_odd hN h.hd hl,h.hg.odd hl,putObj_below h.hz hw,h.hy⟩
theorem OcJ.take (O:OcO w D K V E B T R Q DD PB) (h:OcJ w kf F D o N L K V E B T R Q DD PB k at_ er W) (hb:But Q W W') (hq:Rd W' Q DD (fun j=>F (63+j)) (N - 63) at2 er2):OcJ w kf F D o N L K V E B T R Q DD PB k at2 er2 W':=by
 obtain⟨a1,a2,a3,a4,a5,a6,a7,a8,a9⟩:=O.nq
 exact⟨h.hk.but hb a2,h.hv.but hb a3,h.he.but hb a4,h.hb.but hb a5,h.ht.but hb a6,h.hr.but hb a7,hq,h.hp.but hb a8,h.hd.but hb a1,h.hg.but hb a9,h.hz.trans (hb.below.mono O.q),h.hy⟩
theorem OcJ.copy {z:Nat→Int} (O:OcO w D K V E B T R Q DD PB) (h:OcJ w kf F D o N L K V E B T R Q DD PB k at_ er W) (hk:k<chN L) (hz:∀ j,j<chL L k→z j=nencF kf (nonF (basF F) (k+1)) (chkC F k) j) (hy:chE kf F N L k=0):OcJ w kf F D o N L K V E B T R Q DD PB (k+1) at_ er (W.setCells PB (256*k) (nums .u8 z (chL L k))):=by
 obtain⟨a1,a2,a3,a4,a5,a6,a7,a8,a9,a10⟩:=O.np
 refine⟨h.hk.far a2,h.hv.far a3,h.he.far a4,h.hb.far a5,h.ht.far a6,h.hr.far a7,h.hq.far But.store a8 a9,?_,h.hd.far a1,h.hg.far a10,Below.setCells h.hz O.p _ _,by rw[firE_succ h.hy,hy]⟩
 rw[← pln_succ kf F L k hk z hz]
 exact Own.part h.hp (by rw[nums_length,nums_length];unfold chL;unfold chN at hk;omega)
end
theorem Open_z (kf nf f sg:Nat→Int) (p:Option Addr) (qb qo n m N c dc:Nat) (eN:N=m+16) (z:Bool) (ez:eqB (fun j=>sg (m+j)) (macF kf nf f n sg m) 16=z) (hk:∀ i,i<32→inB (kf i)) (hn:∀ i,i<12→inB (nf i)) (hf:∀ i,i<n→inB (f i)) (hs:∀ i,i<N→inB (sg i)) (hn4:n≤16384) (hm4:m≤16384)
  (hnc:n≤c) (hmd:N≤dc) (hc:c≤9223372036854775807) (hd:dc≤9223372036854775807) (w:World) (hG:Has 1 0 GL w) (hp:Byt w p n f) (hq:Has qb qo (nums .u8 sg N) w) :
  Calls Tryz.prog 24 #[(.agg (nums .u8 kf 32).toArray),(.agg (nums .u8 nf 12).toArray),.slice p n c,.slice (some ⟨qb,qo,none⟩) N dc] w fun e w'=>∃ q d er,e = .returned (.tuple #[.slice q (if z=true then m else 0) d,.int .i64 er])∧(er=if z=true then 0 else 6)∧Byt w' q (if z=true then m else 0) (nencF kf nf sg)∧Below w.heap.size w w':=by
 refine (Open_core kf nf f sg p qb qo n m N c dc eN z ez hk hn hf hs hn4 hm4 hnc hmd hc hd w hG hp hq).mono ?_
 rintro e w' ⟨h,hb⟩
 cases z
 ·rw[if_neg (by decide)] at h
  exact⟨none,0,6,h,rfl,.inl rfl,hb⟩
 ·rw[if_pos rfl] at h
  obtain⟨v,rfl,hr⟩:=h
  obtain⟨q,d,rfl,_⟩:=row_form hr
  exact⟨q,d,0,rfl,rfl,(byt_row hr).2,hb⟩
def T2 (n m k:Nat):Nat:=if k=0 then 0 else if k=1 then n else n+m
theorem T2_le (n m k:Nat):T2 n m k≤n+m:=by
 unfold T2
 split
 ·omega
 ·split<;>omega
theorem parts2 {W:World} {X n m c d:Nat} {p q:Option Addr} {f g:Nat→Int} (h:Own X [.slice p n c,.slice q m d] W) (hp:Byt W p n f) (hq:Byt W q m g) (hn:n≤c∧c≤9223372036854775807) (hm:m≤d∧d≤9223372036854775807):Parts W (some ⟨X,0,none⟩) 2 (fun j=>if j<n then f j else g (j - n)) (T2 n m):=fun k hk=>by
 rcases (show k=0∨k=1 by omega) with rfl | rfl
 ·exact⟨X,0,p,n,c,rfl,h.lt,h.at 0 _ rfl,hn.1,hn.2,by show n=0+n;omega,byt_eq hp fun j hj=>by show f j=if 0+j<n then f (0+j) else _;rw[if_pos (by omega),Nat.zero_add]⟩
 ·exact⟨X,0,q,m,d,rfl,h.lt,h.at 1 _ rfl,hm.1,hm.2,rfl,byt_eq hq fun j hj=>by show g j=if n+j<n then _ else g (n+j - n);rw[if_neg (by omega),show n+j - n=j by omega]⟩
theorem take_no {w:World} {Q DD N at_:Nat} {F:Nat→Int} (x:Nat) (hN:N≤70368744177664) (h:Rd w Q DD F N at_ 0) (hx:N - at_<x) (hx2:x≤70368744177664) :
  Calls Tryz.prog 75 #[.pointer (some ⟨Q,0,none⟩),.int .i64 x] w fun e w'=>∃ v,e = .returned v∧Rd w' Q DD F N at_ 4∧But Q w w':=by
 have e:nxE N at_ 0 x 0 9223372036854775807=4:=by unfold nxE;rw[if_neg (by decide),if_neg (by omega),if_pos (by omega)]
 refine (Take_any x hN h).mono ?_
 rintro _ w' ⟨v,rfl,_,h2,h3⟩
 rw[e] at h2
 exact⟨v,rfl,h2,h3⟩
theorem take_yes {w:World} {Q DD N at_:Nat} {F:Nat→Int} (x:Nat) (hN:N≤70368744177664) (h:Rd w Q DD F N at_ 0) (hx:x≤N - at_) :
  Calls Tryz.prog 75 #[.pointer (some ⟨Q,0,none⟩),.int .i64 x] w fun e w'=>∃ v,e = .returned v∧w'.ownsRow w.heap.size 5 1 v x (nums .u8 (fun j=>F (at_+j)) x)∧Rd w' Q DD F N (at_+x) 0∧But Q w w':=by
 have e:nxE N at_ 0 x 0 9223372036854775807=0:=by unfold nxE;rw[if_neg (by decide),if_neg (by omega),if_neg (by omega)]
 refine (Take_any x hN h).mono ?_
 rintro _ w' ⟨v,rfl,h1,h2,h3⟩
 rw[e] at h1 h2
 exact⟨v,rfl,h1,h2,h3⟩
theorem ko_below {W W':World} (h:Below W.heap.size W W'):KeepsOthers W W':=⟨h.size,fun i ob ho _=>(h.block i (Array.getElem?_eq_some_iff.1 ho).1).trans ho⟩
theorem ko_cell {W W':World} {Q:Nat} {c:Value} (h:But Q W W') (hq:W.cell? ⟨Q,0,none⟩=some c):KeepsOthers W W':=⟨h.below.size,fun i ob ho hn=>by
 refine (h.heap i (Array.getElem?_eq_some_iff.1 ho).1 fun e=>?_).trans ho
 subst e
 obtain⟨o2,h3,h4⟩:=cells_of_cell hq
 rw[ho] at h3
 injection h3 with h3
 subst h3
 exact absurd h4 (by simpa using hn)⟩
theorem ko_but {W W':World} {Q:Nat} {c:Value} {cs:List Value} (h:But Q W W') (hq:Own Q (c :: cs) W):KeepsOthers W W':=ko_cell h (hq.at 0 c rfl)
theorem bunA_zero (L:Nat):bunA L 0 - 63=0:=by unfold bunA;omega
attribute [local go_sem] Oper.semAt_some
structure OcS (w:World) (kf F:Nat→Int) (N L V E:Nat) (W:World):Prop where
 ex:∃ er:Int,er≠0∧firE (chE kf F N L) (chN L)=er∧Own E [.int .i64 er] W
 v:Own V [.slice none 0 0] W
 z:Below w.heap.size w W
theorem OcS.odd {w W:World} {kf F:Nat→Int} {N L V E l:Nat} {ob:Obj} (h:OcS w kf F N L V E W) (hw:w.heap.size≤l) (hl:Odd l W):OcS w kf F N L V E (W.putObj l ob):=by
 obtain⟨er,h1,h2,h3⟩:=h.ex
 exact⟨⟨er,h1,h2,h3.odd hl⟩,h.v.odd hl,putObj_below h.z hw⟩
theorem OcJ.stop {w W:World} {kf F:Nat→Int} {D o N L K V E B T R Q DD PB k at_:Nat} {er x:Int} (O:OcO w D K V E B T R Q DD PB) (h:OcJ w kf F D o N L K V E B T R Q DD PB k at_ er W) (hk:k<chN L) (hx:x≠0) (he:chE kf F N L k=x):OcS w kf F N L V E ((W.setCell ⟨V,0,none⟩ (.slice none 0 0)).setCell ⟨E,0,none⟩ (.int .i64 x)) :=
 ⟨⟨x,hx,by rw[firE_stop h.hy (by rw[he];exact hx) _ hk,he],Own.store (vs:=[.int .i64 x]) (h.he.far (c:=V) (o:=0) (vs:=[.slice none 0 0]) O.ve.symm) rfl⟩,(Own.store (vs:=[.slice none 0 0]) h.hv rfl).far (c:=E) (o:=0) (vs:=[.int .i64 x]) O.ve,Below.setCells (Below.setCells h.hz O.v [.slice none 0 0] 0) O.e [.int .i64 x] 0⟩
theorem ko_stop (W:World) (V E:Nat) (a b:Value):KeepsOthers W ((W.setCell ⟨V,0,none⟩ a).setCell ⟨E,0,none⟩ b):=(KeepsOthers.setCell _ _ _).trans (KeepsOthers.setCell _ _ _)
set_option maxHeartbeats 16000000 in
theorem openChunks_any (kf F:Nat→Int) (D o N c L:Nat) (hk:∀ i,i<32→inB (kf i)) (hF:∀ j,j<N→inB (F j)) (hN:63≤N) (hN2:N≤70368744177664) (hNc:N≤c) (hc:c≤9223372036854775807) (hL:1≤L) (hL2:L≤65536) (w:World) (hG:Has 1 0 GL w) (hq:Has D o (nums .u8 F N) w) :
  Calls Tryz.prog 43 #[(.agg (nums .u8 kf 32).toArray),.slice (some ⟨D,o,none⟩) N c,.int .i64 L] w fun e w'=>∃ v,e = .returned (.tuple #[v,.int .i64 (opcE kf F N L)])∧RowR w' v (if opcE kf F N L=0 then L else 0) (plaF kf F)∧Below w.heap.size w w':=by
 have FK:=Lib.hid hk;have FF:=Lib.hid hF;have HG:=Lib.hid hG;have HD:=Lib.hid hq
 have HN:=Lib.hid hN;have HN2:=Lib.hid hN2;have HNC:=Lib.hid hNc;have HCC:=Lib.hid hc;have HL:=Lib.hid hL;have HL2:=Lib.hid hL2
 have n1:(63:Int)≤(c:Int):=by omega
 have n2:(63:Int)≤(N:Int):=by omega
 have BO:=Lib.hid (fun w h=>baseOf_any F D o N c (by omega) hNc hc w h)
 clear hk hF hG hq hN hN2 hNc hc hL hL2
 refine callsIn_wide.1 (callsIn_of_wp_marks (F:=Fence.wide) (n:=6) Tryz.func43 rfl trivial (wpIn_wide.2 ?_) rfl)
 simp only[Tryz.ntmps43,List.size_toArray,List.length_cons,List.length_nil,Nat.reduceAdd,Nat.reduceSub,Array.replicate_succ,Array.replicate_zero,List.push_toArray,List.append_toArray,List.nil_append,List.cons_append]
 go_upto_region 1 with fail
 obtain⟨W0,K,eW,eX,HK,BW0,KW,SW0⟩:=al1 w _ (nums .u8 kf 32).toArray 22 (nums .u8 kf 32) rfl rfl
 rw[eW,eX]
 have eKw:=eX
 obtain⟨W1,V,eW,eX,HV,BW1,VW,SW1⟩:=al1 W0 _ #[.slice none 0 0] 47 ([.slice none 0 0]) SW0 rfl
 rw[eW,eX]
 obtain⟨W2,E,eW,eX,HE,BW2,EW,SW2⟩:=al1 W1 _ #[.int .i64 0] 48 ([.int .i64 0]) SW1 rfl
 rw[eW,eX]
 have B:=Lib.hid (Below.go (Below.go BW0.out BW1.out) BW2.out)
 replace HK:=Lib.hid ((HK.out.later BW1.out).later BW2.out);replace HV:=Lib.hid (HV.out.later BW2.out)
 have hV:=Lib.hid (Nat.le_trans BW0.out.size VW.out);have hE:=Lib.hid (Nat.le_trans (Nat.le_trans BW0.out.size BW1.out.size) EW.out)
 have hVE:=Lib.hid (show K<V∧V<E by have:=VW.out;have:=EW.out;omega)
 clear eW eX BW0 BW1 BW2 SW0 SW1 SW2 KW VW EW
 replace HG:=Lib.hid (HG.out.later B.out)
 replace HD:=Lib.hid (HD.out.later B.out)
 refine wp_region_fun 8 (by kernel_rfl) (by kernel_rfl) rfl (fun s b=>⟨#[(.agg (nums .u8 kf 32).toArray),.slice (some ⟨D,o,none⟩) N c,.int .i64 L,.pointer (some ⟨K,0,none⟩),undef,undef,.pointer (some ⟨V,0,none⟩),.pointer (some ⟨E,0,none⟩),s 8,s 9,undef,undef,undef,undef,undef,undef,undef,undef,undef,undef,undef,s 21,s 22,s 23,s 24,undef,undef,undef,undef,undef,undef,undef,undef,undef,undef,undef,undef,undef,undef,undef,undef,undef,undef,undef,undef,undef,undef,undef,undef,undef,undef,undef,undef,undef,undef,undef,undef,undef,undef,undef,undef,undef,undef,undef,undef,undef,undef,undef,undef,undef,undef,undef,undef,undef,undef,undef,undef,undef,undef,undef,undef,undef,undef],[]⟩) (fun d s b w=>(Below W2.heap.size W2 w)∧(d 0=true→s 21 = .slice (some ⟨D,o,none⟩) N c)∧(d 1=true→s 22=(.agg (nums .u8 (basF F) 8).toArray))∧(d 2=true→s 23 = .slice (some ⟨D,o,none⟩) N c)∧(d 3=true→s 24 = .slice (some ⟨D,o+47,none⟩) 16 16)∧(d 4=true→s 8 = .pointer (some ⟨(b 4),0,none⟩)∧W2.heap.size≤b 4)∧(d 4=true→d 6=false→Own (b 4) (nums .u8 (fun _=>0) 8) w)∧(d 5=true→s 9 = .pointer (some ⟨(b 5),0,none⟩)∧W2.heap.size≤b 5)∧(d 5=true→d 7=false→Own (b 5) ([.slice none 0 0]) w)∧(d 6=true→Own (b 4) (nums .u8 (basF F) 8) w)∧(d 6=true→d 4=true)∧(d 7=true→Own (b 5) ([.slice (some ⟨D,o+47,none⟩) 16 16]) w)∧(d 7=true→d 5=true)∧(d 4=true→d 5=true→b 4≠b 5)) rfl ?h0y1 (?sty1:StepsF _ _ _ _ 8 _ _ [0,1,2,3,4,5,6,7]) ?dny1
 case h0y1=>exact⟨Below.drew (Below.refl _ _),(fun h=>nomatch h),(fun h=>nomatch h),(fun h=>nomatch h),(fun h=>nomatch h),(fun h=>nomatch h),(fun h=>nomatch h),(fun h=>nomatch h),(fun h=>nomatch h),(fun h=>nomatch h),(fun h=>nomatch h),(fun h=>nomatch h),(fun h=>nomatch h),(fun h=>nomatch h)⟩
 case sty1 =>
  refine StepsF.cons (o:=_) rfl (ws:=[]) (by kernel_rfl) (by decide) (fun d s b w hF hd hw K_ hK=>?_) ?_
  ·have hB:Below W2.heap.size W2 w:=(p0_ hF.out)
   dsimp only
   go_simp
   exact hK.out (ups s 21 (.slice (some ⟨D,o,none⟩) N c)) b _ ⟨hB,(fun _=>rfl),(p2_ hF.out),(p3_ hF.out),(p4_ hF.out),(p5_ hF.out),(p6_ hF.out),(p7_ hF.out),(p8_ hF.out),(p9_ hF.out),(p10_ hF.out),(p11_ hF.out),(p12_ hF.out),(q13_ hF.out)⟩
  refine StepsF.cons (o:=_) rfl (ws:=[0]) (by kernel_rfl) (by decide) (fun d s b w hF hd hw K_ hK=>?_) ?_
  ·have hB:Below W2.heap.size W2 w:=(p0_ hF.out)
   have e0:s 21 = .slice (some ⟨D,o,none⟩) N c:=(p1_ hF.out) (hw 0 (by decide))
   dsimp only
   go_simp
   go_at_call 38
   refine (BO.out _ (HD.out.later hB)).mono ?_
   rintro e w1 ⟨rfl,hb⟩
   exact hK.out (ups (ups s 21 (.slice (some ⟨D,o,none⟩) N c)) 22 ((.agg (nums .u8 (basF F) 8).toArray))) b _ ⟨(Below.go hB hb),(fun _=>rfl),(fun _=>rfl),(p3_ hF.out),(p4_ hF.out),(p5_ hF.out),(fun h0 h1=>((p6_ hF.out) h0 h1).later hb),(p7_ hF.out),(fun h0 h1=>((p8_ hF.out) h0 h1).later hb),(fun h0=>((p9_ hF.out) h0).later hb),(p10_ hF.out),(fun h0=>((p11_ hF.out) h0).later hb),(p12_ hF.out),(q13_ hF.out)⟩
  refine StepsF.cons (o:=_) rfl (ws:=[]) (by kernel_rfl) (by decide) (fun d s b w hF hd hw K_ hK=>?_) ?_
  ·have hB:Below W2.heap.size W2 w:=(p0_ hF.out)
   dsimp only
   go_simp
   exact hK.out (ups s 23 (.slice (some ⟨D,o,none⟩) N c)) b _ ⟨hB,(p1_ hF.out),(p2_ hF.out),(fun _=>rfl),(p4_ hF.out),(p5_ hF.out),(p6_ hF.out),(p7_ hF.out),(p8_ hF.out),(p9_ hF.out),(p10_ hF.out),(p11_ hF.out),(p12_ hF.out),(q13_ hF.out)⟩
  refine StepsF.cons (o:=_) rfl (ws:=[2]) (by kernel_rfl) (by decide) (fun d s b w hF hd hw K_ hK=>?_) ?_
  ·have hB:Below W2.heap.size W2 w:=(p0_ hF.out)
   have e2:s 23 = .slice (some ⟨D,o,none⟩) N c:=(p3_ hF.out) (hw 2 (by decide))
   dsimp only
   go_simp
   exact hK.out (ups (ups s 23 (.slice (some ⟨D,o,none⟩) N c)) 24 (.slice (some ⟨D,o+47,none⟩) 16 16)) b _ ⟨hB,(p1_ hF.out),(p2_ hF.out),(fun _=>rfl),(fun _=>rfl),(p5_ hF.out),(p6_ hF.out),(p7_ hF.out),(p8_ hF.out),(p9_ hF.out),(p10_ hF.out),(p11_ hF.out),(p12_ hF.out),(q13_ hF.out)⟩
  refine StepsF.cons (o:=_) rfl (ws:=[]) (by kernel_rfl) (by decide) (fun d s b w hF hd hw K_ hK=>?_) ?_
  ·have hB:Below W2.heap.size W2 w:=(p0_ hF.out)
   dsimp only
   go_simp
   exact hK.out (ups s 8 (.pointer (some ⟨w.heap.size,0,none⟩))) (ups b 4 w.heap.size) _ ⟨(hB.alloc hB.size _),(p1_ hF.out),(p2_ hF.out),(p3_ hF.out),(p4_ hF.out),(fun _=>⟨rfl,hB.size⟩),(fun _ _=>Own.newAt rfl),(p7_ hF.out),(fun h0 h1=>((p8_ hF.out) h0 h1).alloc),(fun h=>absurd ((p10_ hF.out) h) (by simp[hd])),(fun _=>rfl),(fun h0=>((p11_ hF.out) h0).alloc),(p12_ hF.out),(fun _ h=>Nat.ne_of_gt (by cases e:d 7 with | false=>exact ((p8_ hF.out) h e).lt | true=>exact ((p11_ hF.out) e).lt))⟩
  refine StepsF.cons (o:=_) rfl (ws:=[]) (by kernel_rfl) (by decide) (fun d s b w hF hd hw K_ hK=>?_) ?_
  ·have hB:Below W2.heap.size W2 w:=(p0_ hF.out)
   dsimp only
   go_simp
   exact hK.out (ups s 9 (.pointer (some ⟨w.heap.size,0,none⟩))) (ups b 5 w.heap.size) _ ⟨(hB.alloc hB.size _),(p1_ hF.out),(p2_ hF.out),(p3_ hF.out),(p4_ hF.out),(p5_ hF.out),(fun h0 h1=>((p6_ hF.out) h0 h1).alloc),(fun _=>⟨rfl,hB.size⟩),(fun _ _=>Own.newAt rfl),(fun h0=>((p9_ hF.out) h0).alloc),(p10_ hF.out),(fun h=>absurd ((p12_ hF.out) h) (by simp[hd])),(fun _=>rfl),(fun h _=>Nat.ne_of_lt (by cases e:d 6 with | false=>exact ((p6_ hF.out) h e).lt | true=>exact ((p9_ hF.out) e).lt))⟩
  refine StepsF.cons (o:=_) rfl (ws:=[4,1,1,0,1,4,5]) (by kernel_rfl) (by decide) (fun d s b w hF hd hw K_ hK=>?_) ?_
  ·have hB:Below W2.heap.size W2 w:=(p0_ hF.out)
   have e0:s 21 = .slice (some ⟨D,o,none⟩) N c:=(p1_ hF.out) (hw 0 (by decide))
   have e1:s 22=(.agg (nums .u8 (basF F) 8).toArray):=(p2_ hF.out) (hw 1 (by decide))
   have e4:s 8 = .pointer (some ⟨(b 4),0,none⟩):=((p5_ hF.out) (hw 4 (by decide))).1
   have le4:W2.heap.size≤b 4:=((p5_ hF.out) (hw 4 (by decide))).2
   have e5:s 9 = .pointer (some ⟨(b 5),0,none⟩):=((p7_ hF.out) (hw 5 (by decide))).1
   have le5:W2.heap.size≤b 5:=((p7_ hF.out) (hw 5 (by decide))).2
   dsimp only
   have o4:=(p6_ hF.out) (hw 4 (by decide)) hd
   have hst:=store_nums (P:=Tryz.prog) (n:=8) .u8 (basF F) o4 rfl
   go_simp
   exact hK.out (ups (ups (ups (ups s 21 (.slice (some ⟨D,o,none⟩) N c)) 22 ((.agg (nums .u8 (basF F) 8).toArray))) 8 (.pointer (some ⟨(b 4),0,none⟩))) 9 (.pointer (some ⟨(b 5),0,none⟩))) b _ ⟨(Below.setCells hB le4 (nums .u8 (basF F) 8) 0),(fun _=>rfl),(fun _=>rfl),(p3_ hF.out),(p4_ hF.out),(fun _=>⟨rfl,le4⟩),(fun _ h=>nomatch h),(fun _=>⟨rfl,le5⟩),(fun h h2=>Own.far (o:=0) (vs:=(nums .u8 (basF F) 8)) ((p8_ hF.out) h h2) (((q13_ hF.out) (hw 4 (by decide)) h).symm)),(fun _=>Own.store (vs:=(nums .u8 (basF F) 8)) o4 rfl),(fun _=>hw 4 (by decide)),(fun h=>Own.far (o:=0) (vs:=(nums .u8 (basF F) 8)) ((p11_ hF.out) h) (((q13_ hF.out) (hw 4 (by decide)) ((p12_ hF.out) h)).symm)),(p12_ hF.out),(q13_ hF.out)⟩
  refine StepsF.cons (o:=_) rfl (ws:=[5,3,6,0,1,2,3,4,5,6]) (by kernel_rfl) (by decide) (fun d s b w hF hd hw K_ hK=>?_) ?_
  ·have hB:Below W2.heap.size W2 w:=(p0_ hF.out)
   have e0:s 21 = .slice (some ⟨D,o,none⟩) N c:=(p1_ hF.out) (hw 0 (by decide))
   have e1:s 22=(.agg (nums .u8 (basF F) 8).toArray):=(p2_ hF.out) (hw 1 (by decide))
   have e2:s 23 = .slice (some ⟨D,o,none⟩) N c:=(p3_ hF.out) (hw 2 (by decide))
   have e3:s 24 = .slice (some ⟨D,o+47,none⟩) 16 16:=(p4_ hF.out) (hw 3 (by decide))
   have e4:s 8 = .pointer (some ⟨(b 4),0,none⟩):=((p5_ hF.out) (hw 4 (by decide))).1
   have le4:W2.heap.size≤b 4:=((p5_ hF.out) (hw 4 (by decide))).2
   have e5:s 9 = .pointer (some ⟨(b 5),0,none⟩):=((p7_ hF.out) (hw 5 (by decide))).1
   have le5:W2.heap.size≤b 5:=((p7_ hF.out) (hw 5 (by decide))).2
   dsimp only
   have o5:=(p8_ hF.out) (hw 5 (by decide)) hd
   have fr0:=o5.ok 0 (by simp)
   have ce0:=o5.at 0 _ rfl
   go_simp
   exact hK.out (ups (ups (ups (ups (ups (ups s 21 (.slice (some ⟨D,o,none⟩) N c)) 22 ((.agg (nums .u8 (basF F) 8).toArray))) 23 (.slice (some ⟨D,o,none⟩) N c)) 24 (.slice (some ⟨D,o+47,none⟩) 16 16)) 8 (.pointer (some ⟨(b 4),0,none⟩))) 9 (.pointer (some ⟨(b 5),0,none⟩))) b _ ⟨(Below.setCells hB le5 ([.slice (some ⟨D,o+47,none⟩) 16 16]) 0),(fun _=>rfl),(fun _=>rfl),(fun _=>rfl),(fun _=>rfl),(fun _=>⟨rfl,le4⟩),(fun h h2=>Own.far (o:=0) (vs:=([.slice (some ⟨D,o+47,none⟩) 16 16])) ((p6_ hF.out) h h2) (((q13_ hF.out) h (hw 5 (by decide))))),(fun _=>⟨rfl,le5⟩),(fun _ h=>nomatch h),(fun h=>Own.far (o:=0) (vs:=([.slice (some ⟨D,o+47,none⟩) 16 16])) ((p9_ hF.out) h) (((q13_ hF.out) ((p10_ hF.out) h) (hw 5 (by decide))))),(p10_ hF.out),(fun _=>Own.store (vs:=([.slice (some ⟨D,o+47,none⟩) 16 16])) o5 rfl),(fun _=>hw 5 (by decide)),(q13_ hF.out)⟩
  exact StepsF.nil
 intro d s b y1 hF hall
 replace hF:=Lib.hid hF
 have hB:Below W2.heap.size W2 y1:=(p0_ hF.out)
 try dsimp only
 have e0:s 21 = .slice (some ⟨D,o,none⟩) N c:=(p1_ hF.out) (hall 0 (by decide))
 have e1:s 22=(.agg (nums .u8 (basF F) 8).toArray):=(p2_ hF.out) (hall 1 (by decide))
 have e2:s 23 = .slice (some ⟨D,o,none⟩) N c:=(p3_ hF.out) (hall 2 (by decide))
 have e3:s 24 = .slice (some ⟨D,o+47,none⟩) 16 16:=(p4_ hF.out) (hall 3 (by decide))
 have e4:s 8 = .pointer (some ⟨(b 4),0,none⟩):=((p5_ hF.out) (hall 4 (by decide))).1
 have le4:W2.heap.size≤b 4:=((p5_ hF.out) (hall 4 (by decide))).2
 have e5:s 9 = .pointer (some ⟨(b 5),0,none⟩):=((p7_ hF.out) (hall 5 (by decide))).1
 have le5:W2.heap.size≤b 5:=((p7_ hF.out) (hall 5 (by decide))).2
 have f6:=(p9_ hF.out) (hall 6 (by decide))
 have f7:=(p11_ hF.out) (hall 7 (by decide))
 have n4_5:=(q13_ hF.out) (hall 4 (by decide)) (hall 5 (by decide))
 rw[e0,e1,e2,e3,e4,e5]
 clear hall hF e0 e1 e2 e3 e4 e5
 obtain⟨X,hz⟩:∃ x,x=b 4:=⟨_,rfl⟩
 rw[← hz] at le4 f6 n4_5 ⊢
 clear hz
 obtain⟨Y,hz⟩:∃ x,x=b 5:=⟨_,rfl⟩
 rw[← hz] at le5 f7 n4_5 ⊢
 clear hz
 clear d s b
 have HX:=Lib.hid f6;have HY:=Lib.hid f7
 have XY:Hid (E<X∧E<Y∧X≠Y∧X<y1.heap.size∧Y<y1.heap.size):=Lib.hid (by have:=HE.out.lt;exact⟨by omega,by omega,n4_5,f6.lt,f7.lt⟩)
 have LTS:Hid (w.heap.size≤y1.heap.size∧D<y1.heap.size∧1<y1.heap.size):=Lib.hid ⟨(Below.go B.out hB).size,(HD.out.later hB).lt,(HG.out.later hB).lt⟩
 have SLI:Hid (Byt y1 (q63 D o c 1) (N - 63) fun j=>F (63+j)):=Lib.hid (byt63 (HD.out.later hB) HN.out HNC.out)
 clear f6 f7 le4 le5 n4_5 BO
 replace HG:=Lib.hid (HG.out.later hB)
 replace HD:=Lib.hid (HD.out.later hB)
 replace HK:=Lib.hid (HK.out.later hB)
 replace HV:=Lib.hid (HV.out.later hB)
 replace HE:=Lib.hid (HE.out.later hB)
 replace B:=Lib.hid (Below.go B.out hB)
 clear hB
 go_wp2_with (fail)
 go_at_call 69
 refine (New_any _ (N - 63) (c - 63) (fun j=>F (63+j)) (by have:=HN2.out;omega) _ SLI.out).mono ?_
 rintro e w3 ⟨Q,DD,rfl,hQ,hDD,hDl,hR,hb⟩
 have HQ:=Lib.hid hR
 have QD:Hid (y1.heap.size≤Q∧y1.heap.size≤DD∧DD<w3.heap.size∧Q<w3.heap.size∧y1.heap.size≤w3.heap.size):=Lib.hid ⟨hQ,hDD,hDl,hR.lt,hb.size⟩
 replace HG:=Lib.hid (HG.out.later hb)
 replace HD:=Lib.hid (HD.out.later hb)
 replace HK:=Lib.hid (HK.out.later hb)
 replace HV:=Lib.hid (HV.out.later hb)
 replace HE:=Lib.hid (HE.out.later hb)
 replace HX:=Lib.hid (HX.out.later hb)
 replace HY:=Lib.hid (HY.out.later hb)
 replace B:=Lib.hid (Below.go B.out hb)
 clear hb hR hQ hDD hDl SLI
 go_upto_region 3 with fail
 obtain⟨w4,R,eW,eX,HR,Bw4,RW,Sw4⟩:=al1 w3 _ #[.pointer (some ⟨Q,0,none⟩)] 117 ([.pointer (some ⟨Q,0,none⟩)]) rfl rfl
 rw[eW,eX]
 replace HG:=Lib.hid (HG.out.later Bw4.out)
 replace HD:=Lib.hid (HD.out.later Bw4.out)
 replace HK:=Lib.hid (HK.out.later Bw4.out)
 replace HV:=Lib.hid (HV.out.later Bw4.out)
 replace HE:=Lib.hid (HE.out.later Bw4.out)
 replace HX:=Lib.hid (HX.out.later Bw4.out)
 replace HY:=Lib.hid (HY.out.later Bw4.out)
 replace HQ:=Lib.hid (HQ.out.later Bw4.out)
 replace B:=Lib.hid (Below.go B.out Bw4.out)
 have RW2:=Lib.hid (show y1.heap.size≤R∧Q<R∧DD<R by have:=RW.out;have:=QD.out;omega)
 obtain⟨i0,hi,hz0,hz1,hz2⟩:=infoB_parts
 have hmk:=run_make (P:=Tryz.prog) w4 47 5 i0 (.int .u8 0) Tryz.underlying47 hi hz0 .i64 .i64 (L:Int) (L:Int) (by omega) (Int.le_refl _) (by rw[hz2];have:=HL2.out;omega) (by have:=HL2.out;omega)
 rw[hz1] at hmk
 clear eW eX hi hz0 hz1 hz2 RW Bw4
 go_upto_region 4 with fail
 obtain⟨w5,PB,eW,eX,HPB,Bw5,PBW,Sw5⟩:=al1 w4 (R+1) (madeCells #[Value.int .u8 0] L) 5 (nums .u8 (fun _=>0) L) Sw4 (made_u8 L)
 rw[eW,eX]
 replace HG:=Lib.hid (HG.out.later Bw5.out)
 replace HD:=Lib.hid (HD.out.later Bw5.out)
 replace HK:=Lib.hid (HK.out.later Bw5.out)
 replace HV:=Lib.hid (HV.out.later Bw5.out)
 replace HE:=Lib.hid (HE.out.later Bw5.out)
 replace HX:=Lib.hid (HX.out.later Bw5.out)
 replace HY:=Lib.hid (HY.out.later Bw5.out)
 replace HQ:=Lib.hid (HQ.out.later Bw5.out)
 replace HR:=Lib.hid (HR.out.later Bw5.out)
 replace B:=Lib.hid (Below.go B.out Bw5.out)
 have HO:Hid (OcO w D K V E X Y R Q DD PB):=Lib.hid (by
  have h1:=hV.out;have h2:=hE.out;have h3:=hVE.out;have h4:=XY.out;have h5:=LTS.out;have h6:=QD.out;have h7:=RW2.out;have h8:=PBW.out
  exact⟨h1,h2,by omega,by omega,⟨by omega,by omega,by omega,by omega,by omega,by omega,by omega,by omega,by omega⟩,⟨by omega,by omega,by omega,by omega,by omega,by omega,by omega,by omega,by omega,by omega⟩,by omega⟩)
 have HJ:Hid (OcJ w kf F D o N L K V E X Y R Q DD PB 0 0 0 w5):=Lib.hid ⟨HK.out,HV.out,HE.out,HX.out,HY.out,HR.out,HQ.out,by rw[nums_congr .u8 (g:=fun _=>0) (fun j _=>by unfold plnF;rw[if_neg (by omega)])];exact HPB.out,HD.out,HG.out,B.out,rfl⟩
 have HWS:=Lib.hid (show w.heap.size≤w5.heap.size from B.out.size)
 clear hmk eW eX HG HD HK HV HE HX HY HQ HR HPB Bw5 PBW Sw5 Sw4 B XY LTS QD RW2 hV hE hVE
 go_wp2_with (fail)
 go_at_call 29
 refine (chunks_any _ L L _).mono ?_
 rintro e w6 ⟨C,rfl,hC,hown,hb⟩
 have HC:=Lib.hid hown
 replace HJ:=Lib.hid (HJ.out.later hb);replace HWS:=Lib.hid (Nat.le_trans HWS.out hb.size)
 have HLT:=Lib.hid hown.lt
 clear hC hown hb
 go_wp2_with (fail)
 refine wpIn_wide.1 (range_stop (n:=6) (gf:=61) (lb:=#[.pointer (some ⟨C,0,none⟩)]) rfl (fun _ _=>rfl) (encs:=fun x:Nat=>#[.int .i64 x,.slice (some ⟨PB,0+256*x,none⟩) (chL L x) (chL L x)]) (fun _=>rfl)
  (fun W=>OcJ w kf F D o N L K V E X Y R Q DD PB 0 0 0 W∧Own C [.slice (some ⟨PB,0,none⟩) L L] W) (fun k W=>OcJ w kf F D o N L K V E X Y R Q DD PB k (bunA L k - 63) 0 W) (fun k x=>x=k∧k<chN L) (fun k _=>k+1) (fun W=>OcJ w kf F D o N L K V E X Y R Q DD PB (chN L) (bunA L (chN L) - 63) 0 W) (OcS w kf F N L V E) ?h0 ?hJ ?hD ?hS ?hround ?hiter ?hdone ?hstop)
 case h0=>exact fun a b=>⟨(HJ.out.later (Below.al (Below.refl _ _))).later (Below.al (Below.refl _ _)),HC.out.alloc.alloc⟩
 case hJ=>exact fun k W l ob h hl ho=>h.odd (by have:=HN.out;omega) (by have:=HL.out;omega) (Nat.le_trans HWS.out hl) ho
 case hD=>exact fun W l ob h hl ho=>h.odd (by have:=HN.out;omega) (by have:=HL.out;omega) (Nat.le_trans HWS.out hl) ho
 case hS=>exact fun W l ob h hl ho=>h.odd (Nat.le_trans HWS.out hl) ho
 case hiter=>exact fun l Bk Bx W1 _ hBk b1 hI hY=>chunk_in 5 C L L PB 0 _ (.inr rfl) (Nat.le_refl _) (by have:=HL2.out;omega) (by have:=HL2.out;omega) l Bk Bx (fun k W=>OcJ w kf F D o N L K V E X Y R Q DD PB k (bunA L k - 63) 0 W) _ W1 hI.2 b1 (by rw[bunA_zero];exact hI.1) (fun k W b j h=>hY k k W b j ⟨rfl,h⟩)
 case hround =>
  clear HJ HC HLT
  rintro l k x W hl hj ⟨hx,hk⟩ hodd
  subst hx
  have OD:=Lib.hid hodd;have HJ:=Lib.hid hj;have HK:=Lib.hid hk
  have lW:w.heap.size≤l:=by have:=HWS.out;omega
  clear hk hj hl hodd
  gi_wp2
  refine⟨⟨Nat.le_refl _,fun i ob hi _=>hi⟩,fun ob=>?_⟩
  have J2:=Lib.hid (HJ.out.odd (ob:=ob) (by have:=HN.out;omega) (by have:=HL.out;omega) lW OD.out)
  clear OD HJ lW
  generalize W.putObj l ob=W2 at *
  have QL:=Lib.hid J2.out.hq.lt;have DL:=Lib.hid J2.out.hp.lt
  have hx64:=Lib.hid (show x<256 by have:=HK.out;have:=HL2.out;unfold chN at *;omega)
  have FR:=Lib.hid (fun w=>front_any x (chL L x) (chL L x) (some ⟨PB,256*x,none⟩) (by have:=hx64.out;omega) (by unfold chL;omega) w)
  gi_wp2
  refine⟨trivial,?_⟩
  gi_at_call 30
  refine (CallsIn.inRound l (callsIn_wide.2 (FR.out _))).mono ?_
  rintro e z1 ⟨v1,rfl,hrow,hb⟩
  obtain⟨p1,c1,rfl,_⟩:=row_form hrow
  have R1:=Lib.hid hrow
  have KO:=Lib.hid (ko_below hb)
  replace J2:=Lib.hid (J2.out.later hb)
  clear hb hrow FR
  have hA:=Lib.hid (show bunA L x=63+276*x from bunA_lt HK.out)
  by_cases h1:N<63+276*x+4
  ·have TK:=Lib.hid (fun w h=>take_no (w:=w) (Q:=Q) (DD:=DD) (N:=N - 63) (at_:=bunA L x - 63) (F:=fun j=>F (63+j)) 4 (by have:=HN2.out;omega) h (by have:=hA.out;have:=HN.out;omega) (by decide))
   have CE:Hid (chE kf F N L x=4):=Lib.hid (by unfold chE;rw[if_pos h1])
   clear h1
   have r0:=J2.out.hr.at 0 _ rfl;have rl:=J2.out.hr.lt
   gi_wp2
   refine⟨trivial,?_⟩
   gi_at_call 75
   refine (CallsIn.inRound l (callsIn_wide.2 (TK.out _ J2.out.hq))).mono ?_
   rintro e z2 ⟨v2,rfl,hR,hb⟩
   obtain⟨_,_,gQ,_⟩:=J2.out.hq.ex
   replace KO:=Lib.hid (KO.out.trans (ko_but hb gQ))
   replace J2:=Lib.hid (J2.out.take HO.out hb hR)
   clear hb hR gQ TK r0 rl R1
   have r0:=J2.out.hr.at 0 _ rfl;have rl:=J2.out.hr.lt
   gi_wp2
   refine⟨trivial,?_⟩
   gi_at_call 76
   refine (CallsIn.inRound l (callsIn_wide.2 (Err_any J2.out.hq))).mono ?_
   rintro e z3 ⟨rfl,rfl⟩
   have v0:=J2.out.hv.at 0 _ rfl;have vf:=J2.out.hv.ok 0 (by simp);have vl:=J2.out.hv.lt;have e0:=J2.out.he.at 0 _ rfl;have ef:=J2.out.he.ok 0 (by simp);have el:=J2.out.he.lt;have nve:=HO.out.ve;have nev:=HO.out.ve.symm
   gi_wp2
   exact⟨KO.out.trans (ko_stop _ _ _ _ _),J2.out.stop HO.out HK.out (by decide) CE.out⟩
  ·have TK:=Lib.hid (fun w h=>take_yes (w:=w) (Q:=Q) (DD:=DD) (N:=N - 63) (at_:=bunA L x - 63) (F:=fun j=>F (63+j)) 4 (by have:=HN2.out;omega) h (by have:=hA.out;have:=HN.out;omega))
   have r0:=J2.out.hr.at 0 _ rfl;have rl:=J2.out.hr.lt
   have H1:=Lib.hid h1
   clear h1
   gi_wp2
   refine⟨trivial,?_⟩
   gi_at_call 75
   refine (CallsIn.inRound l (callsIn_wide.2 (TK.out _ J2.out.hq))).mono ?_
   rintro e z2 ⟨v2,rfl,hrow,hR,hb⟩
   obtain⟨p2,c2,rfl,_⟩:=row_form hrow
   rw[nums_congr .u8 (g:=fun j=>F (63+276*x+j)) (fun j _=>by show F _=F _;congr 1;have:=hA.out;omega)] at hrow
   have R2:=Lib.hid hrow
   replace R1:=Lib.hid (row_but R1.out hb (row_ne R1.out QL.out))
   obtain⟨_,_,gQ,_⟩:=J2.out.hq.ex
   replace KO:=Lib.hid (KO.out.trans (ko_but hb gQ))
   replace J2:=Lib.hid (J2.out.take HO.out hb hR)
   clear hb hR gQ TK r0 rl hrow
   have hrow:=R1.out
   have r0:=J2.out.hr.at 0 _ rfl;have rl:=J2.out.hr.lt
   gi_wp2
   refine⟨trivial,?_⟩
   gi_at_call 76
   refine (CallsIn.inRound l (callsIn_wide.2 (Err_any J2.out.hq))).mono ?_
   rintro e z3 ⟨rfl,rfl⟩
   gi_wp2
   have EQ:=Lib.hid (fun w h1 h2=>EqualG_any p2 p1 4 c2 c1 (fun j=>F (63+276*x+j)) (froF x (chL L x)) (fun j hj=>FF.out _ (by have:=H1.out;omega)) (fun j _=>in_froF _ _ j) w h1 h2)
   refine⟨trivial,?_⟩
   gi_at_call 12
   refine (CallsIn.inRound l (callsIn_wide.2 (EQ.out _ (byt_row R2.out).2 (byt_row R1.out).2))).mono ?_
   rintro e z4 ⟨rfl,hb⟩
   replace KO:=Lib.hid (KO.out.trans (ko_below hb))
   replace J2:=Lib.hid (J2.out.later hb)
   replace R1:=Lib.hid (row_later R1.out hb)
   clear hb R2 EQ r0 rl hrow
   obtain⟨b1,e1⟩:∃ b,gqB (fun j=>F (63+276*x+j)) (froF x (chL L x)) 4=b:=⟨_,rfl⟩
   rw[e1]
   have E1:=Lib.hid e1
   clear e1
   cases b1
   ·have CE:Hid (chE kf F N L x=7):=Lib.hid (by unfold chE;rw[if_neg H1.out,if_pos E1.out])
    clear R1
    have v0:=J2.out.hv.at 0 _ rfl;have vf:=J2.out.hv.ok 0 (by simp);have vl:=J2.out.hv.lt;have e0:=J2.out.he.at 0 _ rfl;have ef:=J2.out.he.ok 0 (by simp);have el:=J2.out.he.lt;have nve:=HO.out.ve;have nev:=HO.out.ve.symm
    gi_wp2
    exact⟨KO.out.trans (ko_stop _ _ _ _ _),J2.out.stop HO.out HK.out (by decide) CE.out⟩
   ·have hC:=Lib.hid (show 1≤chL L x∧chL L x≤256 by have:=HK.out;unfold chN at this;unfold chL;omega)
    have wn:IntKind.i64.wrap (((chL L x:Nat):Int)+16)=(chL L x:Nat)+16:=by have:=hC.out;rw[IntKind.wrap_i64];omega
    have r0:=J2.out.hr.at 0 _ rfl;have rl:=J2.out.hr.lt
    gi_wp2
    by_cases h3:N<63+276*x+4+(chL L x+16)
    ·have TK:=Lib.hid (fun w h=>take_no (w:=w) (Q:=Q) (DD:=DD) (N:=N - 63) (at_:=bunA L x - 63+4) (F:=fun j=>F (63+j)) (chL L x+16) (by have:=HN2.out;omega) h (by have:=hA.out;have:=HN.out;omega) (by have:=hC.out;omega))
     rw[show ((chL L x+16:Nat):Int)=(chL L x:Nat)+16 from rfl] at TK
     have CE:Hid (chE kf F N L x=4):=Lib.hid (by unfold chE;rw[if_neg H1.out,if_neg (by rw[E1.out];decide),if_pos h3])
     clear h3 R1
     refine⟨trivial,?_⟩
     gi_at_call 75
     refine (CallsIn.inRound l (callsIn_wide.2 (TK.out _ J2.out.hq))).mono ?_
     rintro e z5 ⟨v3,rfl,hR,hb⟩
     obtain⟨_,_,gQ,_⟩:=J2.out.hq.ex
     replace KO:=Lib.hid (KO.out.trans (ko_but hb gQ))
     replace J2:=Lib.hid (J2.out.take HO.out hb hR)
     clear hb hR gQ TK r0 rl
     have r0:=J2.out.hr.at 0 _ rfl;have rl:=J2.out.hr.lt
     gi_wp2
     refine⟨trivial,?_⟩
     gi_at_call 76
     refine (CallsIn.inRound l (callsIn_wide.2 (Err_any J2.out.hq))).mono ?_
     rintro e z6 ⟨rfl,rfl⟩
     have v0:=J2.out.hv.at 0 _ rfl;have vf:=J2.out.hv.ok 0 (by simp);have vl:=J2.out.hv.lt;have e0:=J2.out.he.at 0 _ rfl;have ef:=J2.out.he.ok 0 (by simp);have el:=J2.out.he.lt;have nve:=HO.out.ve;have nev:=HO.out.ve.symm
     gi_wp2
     exact⟨KO.out.trans (ko_stop _ _ _ _ _),J2.out.stop HO.out HK.out (by decide) CE.out⟩
    ·have TK:=Lib.hid (fun w h=>take_yes (w:=w) (Q:=Q) (DD:=DD) (N:=N - 63) (at_:=bunA L x - 63+4) (F:=fun j=>F (63+j)) (chL L x+16) (by have:=HN2.out;omega) h (by have:=hA.out;have:=HN.out;omega))
     rw[show ((chL L x+16:Nat):Int)=(chL L x:Nat)+16 from rfl] at TK
     have H3:=Lib.hid h3
     clear h3
     refine⟨trivial,?_⟩
     gi_at_call 75
     refine (CallsIn.inRound l (callsIn_wide.2 (TK.out _ J2.out.hq))).mono ?_
     rintro e z5 ⟨v3,rfl,hrow,hR,hb⟩
     obtain⟨p3,c3,rfl,_⟩:=row_form hrow
     rw[nums_congr .u8 (g:=chkC F x) (fun j _=>by show F _=F _;congr 1;have:=hA.out;omega)] at hrow
     have R3:=Lib.hid hrow
     replace R1:=Lib.hid (row_but R1.out hb (row_ne R1.out QL.out))
     obtain⟨_,_,gQ,_⟩:=J2.out.hq.ex
     replace KO:=Lib.hid (KO.out.trans (ko_but hb gQ))
     replace J2:=Lib.hid (J2.out.take HO.out hb hR)
     clear hb hR gQ TK r0 rl hrow
     have r0:=J2.out.hr.at 0 _ rfl;have rl:=J2.out.hr.lt
     gi_wp2
     refine⟨trivial,?_⟩
     gi_at_call 76
     refine (CallsIn.inRound l (callsIn_wide.2 (Err_any J2.out.hq))).mono ?_
     rintro e z6 ⟨rfl,rfl⟩
     gi_wp2
     obtain⟨D3,rfl,hD3⟩:∃ D,p3=some ⟨D,0,none⟩∧Has D 0 (nums .u8 (chkC F x) (chL L x+16)) z6:=by
      rcases R3.out.2 with ⟨_,h⟩ | ⟨D,_,_,h,_⟩
      ·omega
      ·injection h with h
       subst h
       exact⟨D,rfl,(row_has' R3.out).1⟩
     have H5:=Lib.hid hD3
     have cap1:=Lib.hid (row_cap_ R1.out);have cap3:=Lib.hid (row_cap_ R3.out)
     have BY1:=Lib.hid (byt_row R1.out).2
     clear hD3 R1 R3 r0 rl
     have HK5:=Lib.hid J2.out.hk;have HB5:=Lib.hid J2.out.hb;have HT5:=Lib.hid J2.out.ht;have HG5:=Lib.hid J2.out.hg
     have TB5:Hid (Byt z6 (some ⟨D,o+47,none⟩) 16 (ttF F)):=Lib.hid (.inr ⟨D,o+47,rfl,has_drop J2.out.hd (by have:=HN.out;omega)⟩)
     have CN:=Lib.hid (fun w=>chunkNonce_any (basF F) x (by have:=hx64.out;omega) (fun j hj=>FF.out _ (by have:=HN.out;omega)) w)
     obtain⟨zt,ezt⟩:∃ z,tagC kf F L x=z:=⟨_,rfl⟩
     have OP:=Lib.hid (fun p7 c7 w h1 h2 hG hp hq=>Open_z kf (nonF (basF F) (x+1)) (addF (ttF F) x (chL L x)) (chkC F x) p7 D3 0 20 (chL L x) (chL L x+16) c7 c3 rfl zt ezt FK.out (fun j _=>in_nonF (fun j hj=>FF.out _ (by have:=HN.out;omega)) _ j) (fun j hj=>in_addF (fun j hj=>FF.out _ (by have:=HN.out;omega)) j hj) (fun j hj=>FF.out _ (by have:=H3.out;omega)) (by decide) (by have:=hC.out;omega) h1 cap3.out.1 h2 cap3.out.2 w hG hp hq)
     have EZ:=Lib.hid ezt
     clear ezt
     have hb0_:Below z6.heap.size z6 z6.drew:=(Below.refl _ _).drew
     refine held_round (S:=fun w'=>Below z6.heap.size z6 w') (by kernel_rfl) (fun ⟨_,_,h⟩=>h) (by kernel_rfl) ?_
     generalize z6.drew=z7 at *
     refine wpAnyH_take (i:=0) (v := .agg (nums .u8 kf 32).toArray) rfl (by kernel_rfl) (by kernel_rfl) (by kernel_rfl) (fun _ _ _ h=>h) (yieldsIf_load_mid (by rfl) 22 _ rfl K 0 rfl (nums .u8 kf 32) _ (fun w h=>(HK5.out.later h).cell) Tryz.underlying22 rfl (by kernel_rfl)) (by assumption) ?_
     try simp only[Act.put,List.getElem_toArray,List.getElem_cons_zero,List.getElem_cons_succ,List.setIfInBounds_toArray,List.set_cons_zero,List.set_cons_succ]
     refine wpAnyH_take (i:=1) (v := .agg (nums .u8 (basF F) 8).toArray) rfl (by kernel_rfl) (by kernel_rfl) (by kernel_rfl) (fun _ _ _ h=>h) (yieldsIf_load_mid (by rfl) 23 _ rfl X 0 rfl (nums .u8 (basF F) 8) _ (fun w h=>(HB5.out.later h).cell) Tryz.underlying23 rfl (by kernel_rfl)) (by assumption) ?_
     try simp only[Act.put,List.getElem_toArray,List.getElem_cons_zero,List.getElem_cons_succ,List.setIfInBounds_toArray,List.set_cons_zero,List.set_cons_succ]
     refine wpAnyH_take (i:=2) (v:=?_) rfl (by kernel_rfl) (by kernel_rfl) (by kernel_rfl) (fun _ _ _ h=>h) (Or.inl ⟨by rfl,?_⟩) (by assumption) ?_
     rotate_left
     ·intro w' hS;go_simp;try (with_reducible rfl)
     try simp only[Act.put,List.getElem_toArray,List.getElem_cons_zero,List.getElem_cons_succ,List.setIfInBounds_toArray,List.set_cons_zero,List.set_cons_succ]
     refine wpAnyH_take (i:=4) (v:=?_) rfl (by kernel_rfl) (by kernel_rfl) (by kernel_rfl) (fun _ _ _ h=>h) (Or.inl ⟨by rfl,?_⟩) (by assumption) ?_
     rotate_left
     ·intro w' hS;go_simp;try (with_reducible rfl)
     try simp only[Act.put,List.getElem_toArray,List.getElem_cons_zero,List.getElem_cons_succ,List.setIfInBounds_toArray,List.set_cons_zero,List.set_cons_succ]
     refine wpAnyH_take (i:=5) (v := .slice (some ⟨D,o+47,none⟩) 16 16) rfl (by kernel_rfl) (by kernel_rfl) (by kernel_rfl) (fun _ _ _ h=>h) (Or.inl ⟨by rfl,fun w' hS=>?_⟩) (by assumption) ?_
     ·have t0:=(HT5.out.later hS).at 0 _ rfl;have tl:=(HT5.out.later hS).lt;go_simp
     try simp only[Act.put,List.getElem_toArray,List.getElem_cons_zero,List.getElem_cons_succ,List.setIfInBounds_toArray,List.set_cons_zero,List.set_cons_succ]
     refine wpAnyH_take (i:=8) (v:=?_) rfl (by kernel_rfl) (by kernel_rfl) (by kernel_rfl) (fun _ _ _ h=>h) (Or.inl ⟨by rfl,?_⟩) (by assumption) ?_
     rotate_left
     ·intro w' hS;go_simp;try (with_reducible rfl)
     try simp only[Act.put,List.getElem_toArray,List.getElem_cons_zero,List.getElem_cons_succ,List.setIfInBounds_toArray,List.set_cons_zero,List.set_cons_succ]
     refine wpAnyH_ready (rs:=[3,6]) (by kernel_rfl) (by simp) ?_
     refine (AllReadyH.cons rfl (fun K_ hK=>?_) (AllReadyH.cons rfl (fun K_ hK=>?_) AllReadyH.nil))
     ·go_simp
      go_at_call 31
      refine (CN.out _).mono ?_
      rintro e u3 ⟨rfl,h1⟩
      have b3:=Below.go hb0_ h1
      clear h1
      refine hK.out _ _ b3 (fun _=>?_)
      clear hK K_
      try simp only[Act.put,List.getElem_toArray,List.getElem_cons_zero,List.getElem_cons_succ,List.setIfInBounds_toArray,List.set_cons_zero,List.set_cons_succ]
      refine wpAnyH_ready (rs:=[6]) (by kernel_rfl) (by simp) ?_
      refine (AllReadyH.cons rfl (fun K_ hK=>?_) AllReadyH.nil)
      go_simp
      obtain⟨u3_6,LB,eW,eX,HLB,h1_,_,_⟩:=al1 u3 _ #[.slice p1 4 c1,.slice (some ⟨D,o+47,none⟩) 16 16] 47 [.slice p1 4 c1,.slice (some ⟨D,o+47,none⟩) 16 16] rfl rfl
      rw[eW]
      first | rw[eX] | skip
      clear eW eX
      have h1:=h1_.out
      have b3_6:=Below.go b3 h1
      clear h1
      refine hK.out _ _ b3_6 (fun _=>?_)
      clear hK K_
      try simp only[Act.put,List.getElem_toArray,List.getElem_cons_zero,List.getElem_cons_succ,List.setIfInBounds_toArray,List.set_cons_zero,List.set_cons_succ]
      refine wpAnyH_ready (rs:=[7]) (by kernel_rfl) (by simp) ?_
      refine (AllReadyH.cons rfl (fun K_ hK=>?_) AllReadyH.nil)
      go_simp
      go_at_call 27
      refine (Concat_any (some ⟨LB,0,none⟩) 2 2 (addF (ttF F) x (chL L x)) (T2 4 16) rfl (fun k _=>Nat.le_trans (T2_le _ _ k) (by decide)) (Nat.le_refl _) (by decide) _ (parts2 HLB.out (BY1.out.later b3_6) (TB5.out.later b3_6) cap1.out (by decide))).mono ?_
      rintro e u3_6_7 ⟨v7,rfl,hrow,h1⟩
      have b3_6_7:=Below.go b3_6 h1
      replace HLB:=Lib.hid (HLB.out.later h1)
      obtain⟨p7,c7,rfl,_⟩:=row_form hrow
      have R7:=Lib.hid (byt_row hrow).2;have cap7:=Lib.hid (row_cap_ hrow)
      clear hrow
      clear h1
      refine hK.out _ _ b3_6_7 (fun _=>?_)
      clear hK K_
      try simp only[Act.put,List.getElem_toArray,List.getElem_cons_zero,List.getElem_cons_succ,List.setIfInBounds_toArray,List.set_cons_zero,List.set_cons_succ]
      refine wpAnyH_ready (rs:=[9]) (by kernel_rfl) (by simp) ?_
      refine (AllReadyH.cons rfl (fun K_ hK=>?_) AllReadyH.nil)
      go_simp
      go_at_call 24
      refine (OP.out p7 c7 _ cap7.out.1 cap7.out.2 (HG5.out.later b3_6_7) R7.out (H5.out.later b3_6_7)).mono ?_
      rintro e u3_6_7_9 ⟨q9,d9,er,rfl,her,hy9,h1⟩
      have b3_6_7_9:=Below.go b3_6_7 h1
      replace HLB:=Lib.hid (HLB.out.later h1)
      replace R7:=Lib.hid (R7.out.later h1)
      have R9:=Lib.hid hy9;have ER:=Lib.hid her
      clear hy9 her
      clear h1
      refine hK.out _ _ b3_6_7_9 (fun _=>?_)
      clear hK K_
      try simp only[Act.put,List.getElem_toArray,List.getElem_cons_zero,List.getElem_cons_succ,List.setIfInBounds_toArray,List.set_cons_zero,List.set_cons_succ]
      refine wpAnyH_take (i:=10) (v:=?_) rfl (by kernel_rfl) (by kernel_rfl) (by kernel_rfl) (fun _ _ _ h=>h) (Or.inl ⟨by rfl,?_⟩) (by assumption) ?_
      rotate_left
      ·intro w' hS;go_simp;try (with_reducible rfl)
      try simp only[Act.put,List.getElem_toArray,List.getElem_cons_zero,List.getElem_cons_succ,List.setIfInBounds_toArray,List.set_cons_zero,List.set_cons_succ]
      refine wpAnyH_take (i:=11) (v:=?_) rfl (by kernel_rfl) (by kernel_rfl) (by kernel_rfl) (fun _ _ _ h=>h) (Or.inl ⟨by rfl,?_⟩) (by assumption) ?_
      rotate_left
      ·intro w' hS;go_simp;try (with_reducible rfl)
      try simp only[Act.put,List.getElem_toArray,List.getElem_cons_zero,List.getElem_cons_succ,List.setIfInBounds_toArray,List.set_cons_zero,List.set_cons_succ]
      refine wpAnyH_take (i:=12) (v:=?_) rfl (by kernel_rfl) (by kernel_rfl) (by kernel_rfl) (fun _ _ _ h=>h) (Or.inl ⟨by rfl,?_⟩) (by assumption) ?_
      rotate_left
      ·intro w' hS;go_simp;try (with_reducible rfl)
      try simp only[Act.put,List.getElem_toArray,List.getElem_cons_zero,List.getElem_cons_succ,List.setIfInBounds_toArray,List.set_cons_zero,List.set_cons_succ]
      refine wpAnyH_take (i:=13) (v:=?_) rfl (by kernel_rfl) (by kernel_rfl) (by kernel_rfl) (fun _ _ _ h=>h) (Or.inl ⟨by rfl,?_⟩) (by assumption) ?_
      rotate_left
      ·intro w' hS;go_simp;try (with_reducible rfl)
      try simp only[Act.put,List.getElem_toArray,List.getElem_cons_zero,List.getElem_cons_succ,List.setIfInBounds_toArray,List.set_cons_zero,List.set_cons_succ]
      refine wpAnyH_take (i:=14) (v:=?_) rfl (by kernel_rfl) (by kernel_rfl) (by kernel_rfl) (fun _ _ _ h=>h) (Or.inl ⟨by rfl,?_⟩) (by assumption) ?_
      rotate_left
      ·intro w' hS;go_simp;try (with_reducible rfl)
      try simp only[Act.put,List.getElem_toArray,List.getElem_cons_zero,List.getElem_cons_succ,List.setIfInBounds_toArray,List.set_cons_zero,List.set_cons_succ]
      refine wpAnyH_done (by kernel_rfl) ?_ _
      replace J2:=Lib.hid (J2.out.later b3_6_7_9)
      replace KO:=Lib.hid (KO.out.trans (ko_below b3_6_7_9))
      have hr:=ER.out
      clear ER b3_6_7_9 HK5 HB5 HT5 HG5 TB5 BY1 H5 HLB R7 CN OP hb0_
      cases zt
      ·have CE:Hid (chE kf F N L x=6):=Lib.hid (by unfold chE;rw[if_neg H1.out,if_neg (by rw[E1.out];decide),if_neg H3.out,if_pos EZ.out])
       rw[if_neg (by decide)] at hr
       subst hr
       clear R9
       have v0:=J2.out.hv.at 0 _ rfl;have vf:=J2.out.hv.ok 0 (by simp);have vl:=J2.out.hv.lt;have e0:=J2.out.he.at 0 _ rfl;have ef:=J2.out.he.ok 0 (by simp);have el:=J2.out.he.lt;have nve:=HO.out.ve;have nev:=HO.out.ve.symm
       gi_wp2
       exact⟨KO.out.trans (ko_stop _ _ _ _ _),J2.out.stop HO.out HK.out (by decide) CE.out⟩
      ·have CE:Hid (chE kf F N L x=0):=Lib.hid (by unfold chE;rw[if_neg H1.out,if_neg (by rw[E1.out];decide),if_neg H3.out,if_neg (by rw[EZ.out];decide)])
       rw[if_pos rfl] at hr
       subst hr
       simp only[if_true] at R9 ⊢
       obtain⟨bb,off,rfl,hbb⟩:=R9.out.resolve_left (by have:=hC.out;omega)
       have hcp:=copy_byt PB (256*x) bb off (chL L x) (chL L x) (chL L x) d9 (chL L x) 3 _ _ (Nat.min_self _).symm hbb (J2.out.hp.room (by rw[nums_length];have:=HK.out;unfold chN at this;unfold chL;omega))
       gi_wp2
       refine⟨KO.out.trans (ko_cell But.store (J2.out.hp.at 0 _ (nums_at _ _ (by have:=HL.out;omega)))),?_⟩
       rw[show bunA L (x+1) - 63=bunA L x - 63+4+(chL L x+16) by rw[bunA_succ HK.out,hA.out];omega]
       exact J2.out.copy HO.out HK.out (fun _ _=>rfl) CE.out
     ·go_simp
      obtain⟨u6,LB,eW,eX,HLB,h1_,_,_⟩:=al1 z7 _ #[.slice p1 4 c1,.slice (some ⟨D,o+47,none⟩) 16 16] 47 [.slice p1 4 c1,.slice (some ⟨D,o+47,none⟩) 16 16] rfl rfl
      rw[eW]
      first | rw[eX] | skip
      clear eW eX
      have h1:=h1_.out
      have b6:=Below.go hb0_ h1
      clear h1
      refine hK.out _ _ b6 (fun _=>?_)
      clear hK K_
      try simp only[Act.put,List.getElem_toArray,List.getElem_cons_zero,List.getElem_cons_succ,List.setIfInBounds_toArray,List.set_cons_zero,List.set_cons_succ]
      refine wpAnyH_ready (rs:=[3]) (by kernel_rfl) (by simp) ?_
      refine (AllReadyH.cons rfl (fun K_ hK=>?_) AllReadyH.nil)
      go_simp
      go_at_call 31
      refine (CN.out _).mono ?_
      rintro e u6_3 ⟨rfl,h1⟩
      have b6_3:=Below.go b6 h1
      replace HLB:=Lib.hid (HLB.out.later h1)
      clear h1
      refine hK.out _ _ b6_3 (fun _=>?_)
      clear hK K_
      try simp only[Act.put,List.getElem_toArray,List.getElem_cons_zero,List.getElem_cons_succ,List.setIfInBounds_toArray,List.set_cons_zero,List.set_cons_succ]
      refine wpAnyH_ready (rs:=[7]) (by kernel_rfl) (by simp) ?_
      refine (AllReadyH.cons rfl (fun K_ hK=>?_) AllReadyH.nil)
      go_simp
      go_at_call 27
      refine (Concat_any (some ⟨LB,0,none⟩) 2 2 (addF (ttF F) x (chL L x)) (T2 4 16) rfl (fun k _=>Nat.le_trans (T2_le _ _ k) (by decide)) (Nat.le_refl _) (by decide) _ (parts2 HLB.out (BY1.out.later b6_3) (TB5.out.later b6_3) cap1.out (by decide))).mono ?_
      rintro e u6_3_7 ⟨v7,rfl,hrow,h1⟩
      have b6_3_7:=Below.go b6_3 h1
      replace HLB:=Lib.hid (HLB.out.later h1)
      obtain⟨p7,c7,rfl,_⟩:=row_form hrow
      have R7:=Lib.hid (byt_row hrow).2;have cap7:=Lib.hid (row_cap_ hrow)
      clear hrow
      clear h1
      refine hK.out _ _ b6_3_7 (fun _=>?_)
      clear hK K_
      try simp only[Act.put,List.getElem_toArray,List.getElem_cons_zero,List.getElem_cons_succ,List.setIfInBounds_toArray,List.set_cons_zero,List.set_cons_succ]
      refine wpAnyH_ready (rs:=[9]) (by kernel_rfl) (by simp) ?_
      refine (AllReadyH.cons rfl (fun K_ hK=>?_) AllReadyH.nil)
      go_simp
      go_at_call 24
      refine (OP.out p7 c7 _ cap7.out.1 cap7.out.2 (HG5.out.later b6_3_7) R7.out (H5.out.later b6_3_7)).mono ?_
      rintro e u6_3_7_9 ⟨q9,d9,er,rfl,her,hy9,h1⟩
      have b6_3_7_9:=Below.go b6_3_7 h1
      replace HLB:=Lib.hid (HLB.out.later h1)
      replace R7:=Lib.hid (R7.out.later h1)
      have R9:=Lib.hid hy9;have ER:=Lib.hid her
      clear hy9 her
      clear h1
      refine hK.out _ _ b6_3_7_9 (fun _=>?_)
      clear hK K_
      try simp only[Act.put,List.getElem_toArray,List.getElem_cons_zero,List.getElem_cons_succ,List.setIfInBounds_toArray,List.set_cons_zero,List.set_cons_succ]
      refine wpAnyH_take (i:=10) (v:=?_) rfl (by kernel_rfl) (by kernel_rfl) (by kernel_rfl) (fun _ _ _ h=>h) (Or.inl ⟨by rfl,?_⟩) (by assumption) ?_
      rotate_left
      ·intro w' hS;go_simp;try (with_reducible rfl)
      try simp only[Act.put,List.getElem_toArray,List.getElem_cons_zero,List.getElem_cons_succ,List.setIfInBounds_toArray,List.set_cons_zero,List.set_cons_succ]
      refine wpAnyH_take (i:=11) (v:=?_) rfl (by kernel_rfl) (by kernel_rfl) (by kernel_rfl) (fun _ _ _ h=>h) (Or.inl ⟨by rfl,?_⟩) (by assumption) ?_
      rotate_left
      ·intro w' hS;go_simp;try (with_reducible rfl)
      try simp only[Act.put,List.getElem_toArray,List.getElem_cons_zero,List.getElem_cons_succ,List.setIfInBounds_toArray,List.set_cons_zero,List.set_cons_succ]
      refine wpAnyH_take (i:=12) (v:=?_) rfl (by kernel_rfl) (by kernel_rfl) (by kernel_rfl) (fun _ _ _ h=>h) (Or.inl ⟨by rfl,?_⟩) (by assumption) ?_
      rotate_left
      ·intro w' hS;go_simp;try (with_reducible rfl)
      try simp only[Act.put,List.getElem_toArray,List.getElem_cons_zero,List.getElem_cons_succ,List.setIfInBounds_toArray,List.set_cons_zero,List.set_cons_succ]
      refine wpAnyH_take (i:=13) (v:=?_) rfl (by kernel_rfl) (by kernel_rfl) (by kernel_rfl) (fun _ _ _ h=>h) (Or.inl ⟨by rfl,?_⟩) (by assumption) ?_
      rotate_left
      ·intro w' hS;go_simp;try (with_reducible rfl)
      try simp only[Act.put,List.getElem_toArray,List.getElem_cons_zero,List.getElem_cons_succ,List.setIfInBounds_toArray,List.set_cons_zero,List.set_cons_succ]
      refine wpAnyH_take (i:=14) (v:=?_) rfl (by kernel_rfl) (by kernel_rfl) (by kernel_rfl) (fun _ _ _ h=>h) (Or.inl ⟨by rfl,?_⟩) (by assumption) ?_
      rotate_left
      ·intro w' hS;go_simp;try (with_reducible rfl)
      try simp only[Act.put,List.getElem_toArray,List.getElem_cons_zero,List.getElem_cons_succ,List.setIfInBounds_toArray,List.set_cons_zero,List.set_cons_succ]
      refine wpAnyH_done (by kernel_rfl) ?_ _
      replace J2:=Lib.hid (J2.out.later b6_3_7_9)
      replace KO:=Lib.hid (KO.out.trans (ko_below b6_3_7_9))
      have hr:=ER.out
      clear ER b6_3_7_9 HK5 HB5 HT5 HG5 TB5 BY1 H5 HLB R7 CN OP hb0_
      cases zt
      ·have CE:Hid (chE kf F N L x=6):=Lib.hid (by unfold chE;rw[if_neg H1.out,if_neg (by rw[E1.out];decide),if_neg H3.out,if_pos EZ.out])
       rw[if_neg (by decide)] at hr
       subst hr
       clear R9
       have v0:=J2.out.hv.at 0 _ rfl;have vf:=J2.out.hv.ok 0 (by simp);have vl:=J2.out.hv.lt;have e0:=J2.out.he.at 0 _ rfl;have ef:=J2.out.he.ok 0 (by simp);have el:=J2.out.he.lt;have nve:=HO.out.ve;have nev:=HO.out.ve.symm
       gi_wp2
       exact⟨KO.out.trans (ko_stop _ _ _ _ _),J2.out.stop HO.out HK.out (by decide) CE.out⟩
      ·have CE:Hid (chE kf F N L x=0):=Lib.hid (by unfold chE;rw[if_neg H1.out,if_neg (by rw[E1.out];decide),if_neg H3.out,if_neg (by rw[EZ.out];decide)])
       rw[if_pos rfl] at hr
       subst hr
       simp only[if_true] at R9 ⊢
       obtain⟨bb,off,rfl,hbb⟩:=R9.out.resolve_left (by have:=hC.out;omega)
       have hcp:=copy_byt PB (256*x) bb off (chL L x) (chL L x) (chL L x) d9 (chL L x) 3 _ _ (Nat.min_self _).symm hbb (J2.out.hp.room (by rw[nums_length];have:=HK.out;unfold chN at this;unfold chL;omega))
       gi_wp2
       refine⟨KO.out.trans (ko_cell But.store (J2.out.hp.at 0 _ (nums_at _ _ (by have:=HL.out;omega)))),?_⟩
       rw[show bunA L (x+1) - 63=bunA L x - 63+4+(chL L x+16) by rw[bunA_succ HK.out,hA.out];omega]
       exact J2.out.copy HO.out HK.out (fun _ _=>rfl) CE.out
 case hdone =>
  clear HJ HC HLT
  rintro DD2 W hD hd hK
  have J2:=Lib.hid hd;have DW:=Lib.hid hD;have KD:=Lib.hid hK
  clear hd hD hK
  have hB:=Lib.hid (show bunA L (chN L)=bunL L from rfl)
  have hB2:=Lib.hid (show 63≤bunA L (chN L) by unfold bunA;omega)
  have r0:=J2.out.hr.at 0 _ rfl;have rl:=J2.out.hr.lt
  go_wp2_with (fail)
  go_at_call 77
  refine (Left_any J2.out.hq).mono ?_
  rintro e W2 ⟨rfl,rfl⟩
  have LE:leftN (N - 63) (bunA L (chN L) - 63) 0=N - bunL L:=by unfold leftN;rw[if_pos rfl];have:=hB.out;have:=hB2.out;omega
  rw[LE]
  have v0:=J2.out.hv.at 0 _ rfl;have vf:=J2.out.hv.ok 0 (by simp);have vl:=J2.out.hv.lt;have e0:=J2.out.he.at 0 _ rfl;have ef:=J2.out.he.ok 0 (by simp);have el:=J2.out.he.lt;have nve:=HO.out.ve;have nev:=HO.out.ve.symm
  by_cases h1:bunL L<N
  ·have g1:(0:Int)<((N - bunL L:Nat):Int):=by omega
   have OE:opcE kf F N L=7:=by unfold opcE;rw[if_neg (by rw[J2.out.hy];decide),if_pos h1]
   go_wp2_with (fail)
   clear v0 vf vl e0 ef el r0 rl
   have HVX:Hid (Own V [.slice none 0 0] ((W2.setCell ⟨V,0,none⟩ (.slice none 0 0)).setCell ⟨E,0,none⟩ (.int .i64 7))):=Lib.hid ((Own.store (vs:=[.slice none 0 0]) J2.out.hv rfl).far (c:=E) (o:=0) (vs:=[.int .i64 7]) nve)
   have HEX:Hid (Own E [.int .i64 7] ((W2.setCell ⟨V,0,none⟩ (.slice none 0 0)).setCell ⟨E,0,none⟩ (.int .i64 7))):=Lib.hid (Own.store (vs:=[.int .i64 7]) (J2.out.he.far (c:=V) (o:=0) (vs:=[.slice none 0 0]) nev) rfl)
   have HBX:Hid (Below w.heap.size w ((W2.setCell ⟨V,0,none⟩ (.slice none 0 0)).setCell ⟨E,0,none⟩ (.int .i64 7))):=Lib.hid (Below.setCells (Below.setCells J2.out.hz HO.out.v [.slice none 0 0] 0) HO.out.e [.int .i64 7] 0)
   have KX:=Lib.hid ((ko_stop W2 V E (.slice none 0 0) (.int .i64 7)).same _ _ KD.out rfl)
   generalize (W2.setCell ⟨V,0,none⟩ (.slice none 0 0)).setCell ⟨E,0,none⟩ (.int .i64 7)=WX at *
   refine⟨by simp,.inl ⟨_,_,rfl,run_takeDeferred KX.out,?_⟩⟩
   have od:Odd DD2 WX:=⟨_,KX.out,rfl⟩
   have V6:=Lib.hid (HVX.out.odd (o := .deferred none) od);have E6:=Lib.hid (HEX.out.odd (o := .deferred none) od)
   have B6:=Lib.hid (putObj_below (o := .deferred none) HBX.out (show w.heap.size≤DD2 from Nat.le_trans HWS.out DW.out))
   clear od KX HVX HEX HBX
   generalize WX.putObj DD2 (.deferred none)=W7 at *
   have v0:=V6.out.at 0 _ rfl;have vl:=V6.out.lt;have e0:=E6.out.at 0 _ rfl;have el:=E6.out.lt
   refine⟨.tuple #[.slice none 0 0,.int .i64 7],by simp[results,Tryz.results43,go_sem,v0,e0],?_⟩
   exact⟨_,rfl,⟨none,0,rfl,Nat.le_refl _,by decide,.inl rfl⟩,by rw[← eKw];exact B6.out⟩
  ·have g1:decide ((0:Int)<((N - bunL L:Nat):Int))=false:=decide_eq_false (by omega)
   have OE:opcE kf F N L=0:=by unfold opcE;rw[if_neg (by rw[J2.out.hy];decide),if_neg h1]
   go_wp2_with (fail)
   clear v0 vf vl e0 ef el r0 rl
   have HVX:Hid (Own V [.slice (some ⟨PB,0,none⟩) L L] ((W2.setCell ⟨V,0,none⟩ (.slice (some ⟨PB,0,none⟩) L L)).setCell ⟨E,0,none⟩ (.int .i64 0))):=Lib.hid ((Own.store (vs:=[.slice (some ⟨PB,0,none⟩) L L]) J2.out.hv rfl).far (c:=E) (o:=0) (vs:=[.int .i64 0]) nve)
   have HEX:Hid (Own E [.int .i64 0] ((W2.setCell ⟨V,0,none⟩ (.slice (some ⟨PB,0,none⟩) L L)).setCell ⟨E,0,none⟩ (.int .i64 0))):=Lib.hid (Own.store (vs:=[.int .i64 0]) (J2.out.he.far (c:=V) (o:=0) (vs:=[.slice (some ⟨PB,0,none⟩) L L]) nev) rfl)
   have HBX:Hid (Below w.heap.size w ((W2.setCell ⟨V,0,none⟩ (.slice (some ⟨PB,0,none⟩) L L)).setCell ⟨E,0,none⟩ (.int .i64 0))):=Lib.hid (Below.setCells (Below.setCells J2.out.hz HO.out.v [.slice (some ⟨PB,0,none⟩) L L] 0) HO.out.e [.int .i64 0] 0)
   have HPX:Hid (Own PB (nums .u8 (plaF kf F) L) ((W2.setCell ⟨V,0,none⟩ (.slice (some ⟨PB,0,none⟩) L L)).setCell ⟨E,0,none⟩ (.int .i64 0))):=Lib.hid (by
    rw[← pln_end kf F L]
    exact (J2.out.hp.far (c:=V) (o:=0) (vs:=[.slice (some ⟨PB,0,none⟩) L L]) (Ne.symm HO.out.np.2.2.1)).far (c:=E) (o:=0) (vs:=[.int .i64 0]) (Ne.symm HO.out.np.2.2.2.1))
   have KX:=Lib.hid ((ko_stop W2 V E (.slice (some ⟨PB,0,none⟩) L L) (.int .i64 0)).same _ _ KD.out rfl)
   generalize (W2.setCell ⟨V,0,none⟩ (.slice (some ⟨PB,0,none⟩) L L)).setCell ⟨E,0,none⟩ (.int .i64 0)=WX at *
   refine⟨by simp,.inl ⟨_,_,rfl,run_takeDeferred KX.out,?_⟩⟩
   have od:Odd DD2 WX:=⟨_,KX.out,rfl⟩
   have V6:=Lib.hid (HVX.out.odd (o := .deferred none) od);have E6:=Lib.hid (HEX.out.odd (o := .deferred none) od)
   have B6:=Lib.hid (putObj_below (o := .deferred none) HBX.out (show w.heap.size≤DD2 from Nat.le_trans HWS.out DW.out))
   have P6:=Lib.hid (own_odd (ob := .deferred none) (by have:=HL.out;omega) HPX.out od)
   clear HPX
   clear od KX HVX HEX HBX
   generalize WX.putObj DD2 (.deferred none)=W7 at *
   have v0:=V6.out.at 0 _ rfl;have vl:=V6.out.lt;have e0:=E6.out.at 0 _ rfl;have el:=E6.out.lt
   refine⟨.tuple #[.slice (some ⟨PB,0,none⟩) L L,.int .i64 0],by simp[results,Tryz.results43,go_sem,v0,e0],?_⟩
   exact⟨_,rfl,⟨some ⟨PB,0,none⟩,L,rfl,Nat.le_refl _,by have:=HL2.out;omega,.inr ⟨PB,0,rfl,P6.out.has⟩⟩,by rw[← eKw];exact B6.out⟩
 case hstop =>
  clear HJ HC HLT
  rintro DD2 WX hD hd hK
  have DW:=Lib.hid hD;have KX:=Lib.hid hK
  obtain⟨er,h0,he,hE⟩:=hd.ex
  have HVX:=Lib.hid hd.v;have HEX:=Lib.hid hE;have HBX:=Lib.hid hd.z
  have OE:opcE kf F N L=er:=by unfold opcE;rw[if_pos (by rw[he];exact h0),he]
  clear hd hD hK hE
  show bodyPostM Fence.wide 6 Tryz.prog Tryz.f43 _ Exit.ret _ _
  refine⟨by simp,.inl ⟨_,_,rfl,run_takeDeferred KX.out,?_⟩⟩
  have od:Odd DD2 WX:=⟨_,KX.out,rfl⟩
  have V6:=Lib.hid (HVX.out.odd (o := .deferred none) od);have E6:=Lib.hid (HEX.out.odd (o := .deferred none) od)
  have B6:=Lib.hid (putObj_below (o := .deferred none) HBX.out (show w.heap.size≤DD2 from Nat.le_trans HWS.out DW.out))
  clear od KX HVX HEX HBX
  generalize WX.putObj DD2 (.deferred none)=W7 at *
  have v0:=V6.out.at 0 _ rfl;have vl:=V6.out.lt;have e0:=E6.out.at 0 _ rfl;have el:=E6.out.lt
  refine⟨.tuple #[.slice none 0 0,.int .i64 er],by simp[results,Tryz.results43,go_sem,v0,e0],?_⟩
  exact⟨_,by rw[OE],by rw[OE,if_neg h0];exact⟨none,0,rfl,Nat.le_refl _,by decide,.inl rfl⟩,B6.out⟩
end Go.Proofs.YtbilamnnneddmaaGreatDoor
namespace Go.Proofs.YtbilamnnneddmaaGreatDoor
set_option linter.unusedVariables false
set_option maxRecDepth 2000
set_option linter.unusedSimpArgs false
open Go.RowKit
theorem res_three {P:Program} {fn:Func} {tmps:Array Value} {w:World} {r r2 s T T2:Nat} {a a2:Addr} {v v2 u:Value} (hf:fn.results=#[.cell r T,.cell r2 T2,.tmp s]) (ha:tmps[r]?.getD undef = .pointer (some a)) (hl:(loadVar T a).run P w = .ok v w) (ha2:tmps[r2]?.getD undef = .pointer (some a2)) (hl2:(loadVar T2 a2).run P w = .ok v2 w) (hs:tmps[s]?.getD undef=u):(results fn tmps).run P w = .ok (.tuple #[v,v2,u]) w:=by
 subst hs
 have hx:(asAddr (Value.pointer (some a))).run P w = .ok a w:=by simp[asAddr]
 have hx2:(asAddr (Value.pointer (some a2))).run P w = .ok a2 w:=by simp[asAddr]
 simp[results,hf,ha,hx,hl,ha2,hx2,hl2]
theorem NmS.away {W:World} {s n X k B:Nat} {q:Option Addr} {f:Nat→Int} {vs:List Value} (h:NmS W s q n f) (hf:FrQ B n q) (hX:X<B):NmS (W.setCells X k vs) s q n f:=by
 rcases hf with h0 | ⟨b,o,e,hb⟩
 ·exact .inl h0
 ·rcases h with h0 | ⟨b2,o2,e2,hh⟩
  ·exact .inl h0
  ·rw[e] at e2
   injection e2 with e2
   injection e2 with e3 e4
   subst e3
   exact .inr ⟨b,o2,by rw[e,e4],hh.far (by omega)⟩
theorem AstAt.away {A:Ast} {W:World} {X k B:Nat} {vs:List Value} (h:AstAt A W) (hf:FrA B A) (hX:X<B):AstAt A (W.setCells X k vs) :=
 ⟨⟨h.m.v.away hf.1.1 hX,h.m.u.away hf.1.2.1 hX,h.m.t.away hf.1.2.2 hX,h.m.lv,h.m.lu,h.m.lt,h.m.mv,h.m.mu,h.m.mt⟩,h.x.t.away hf.2 hX,h.x.l,h.x.m⟩
theorem freeA {W:World} {A:Nat} {X Y:Ast} (h:Own A (cA X) W):W.there A 0 (cA Y).toArray.size:=by
 rw[show (cA Y).toArray.size=24 from rfl]
 have:=h.free
 rwa [show (cA X).length=24 from rfl] at this
theorem freeM {W:World} {A:Nat} {X Y:Mn} (h:Own A (cM X) W):W.there A 0 (cM Y).toArray.size:=by
 rw[show (cM Y).toArray.size=15 from rfl]
 have:=h.free
 rwa [show (cM X).length=15 from rfl] at this
theorem putA {W:World} {A:Nat} {X Y:Ast} (h:Own A (cA X) W):Own A (cA Y) (W.setCells A 0 (cA Y)):=Own.store h (by rw[show (cA Y).length=24 from rfl,show (cA X).length=24 from rfl])
theorem putM {W:World} {A:Nat} {X Y:Mn} (h:Own A (cM X) W):Own A (cM Y) (W.setCells A 0 (cM Y)):=Own.store h (by rw[show (cM Y).length=15 from rfl,show (cM X).length=15 from rfl])
def manP (F:Nat→Int) (j:Nat):Int:=F (12+j)
def sizF (F:Nat→Int):Nat:=(decM (manP F)).s.toNat
def pkE (kf F:Nat→Int) (N:Nat):Int:=if N<63 then 4 else peekE kf F
def pkM (kf F:Nat→Int) (N:Nat):Mn:=if pkE kf F N=0 then decM (manP F) else nilMn
def opnE (kf F:Nat→Int) (N:Nat) (P:Nat→Int):Int:=if pkE kf F N≠0 then pkE kf F N else if opcE kf F N (sizF F)≠0 then opcE kf F N (sizF F) else decEA (decM (manP F)).k P (sizF F)
def opnM (kf F:Nat→Int) (N:Nat) (P:Nat→Int):Mn:=if opnE kf F N P=0 then decM (manP F) else nilMn
theorem opc_len {kf F:Nat→Int} {N L:Nat} (hL:1≤L) (h:opcE kf F N L=0):bunL L≤N:=by
 unfold opcE at h
 by_cases h0:firE (chE kf F N L) (chN L)=0
 ·have hc:chN L - 1<chN L:=by unfold chN;omega
  have h1:=(firE_zero.1 h0) (chN L - 1) hc
  have h2:¬N<63+276*(chN L - 1)+4+(chL L (chN L - 1)+16):=by
   intro hn
   unfold chE at h1
   by_cases g1:N<63+276*(chN L - 1)+4
   ·rw[if_pos g1] at h1;exact absurd h1 (by decide)
   ·rw[if_neg g1] at h1
    by_cases g2:gqB (fun j=>F (63+276*(chN L - 1)+j)) (froF (chN L - 1) (chL L (chN L - 1))) 4=false
    ·rw[if_pos g2] at h1;exact absurd h1 (by decide)
    ·rw[if_neg g2,if_pos hn] at h1;exact absurd h1 (by decide)
  have h3:=bunA_succ hc
  rw[show chN L - 1+1=chN L by omega] at h3
  unfold bunL
  omega
 ·rw[if_pos h0] at h;exact absurd h h0
theorem siz_bd {kf F:Nat→Int} {N:Nat} (h:pkE kf F N=0):63≤N∧1≤sizF F∧sizF F≤2048∧(decM (manP F)).s=(sizF F:Int)∧chkN (decM (manP F))=0:=by
 unfold pkE at h
 by_cases h1:N<63
 ·rw[if_pos h1] at h;exact absurd h (by decide)
 ·rw[if_neg h1] at h
  unfold peekE at h
  split at h
  ·exact absurd h (by decide)
  ·split at h
   ·exact absurd h (by decide)
   ·have hc:checkF (decM (manP F)).k (decM (manP F)).g (decM (manP F)).f (decM (manP F)).t (decM (manP F)).s (decM (manP F)).c=0:=h
    refine⟨by omega,?_⟩
    have hs:1≤(decM (manP F)).s∧(decM (manP F)).s≤capF (decM (manP F)).k:=by
     unfold checkF at hc
     split at hc
     ·exact absurd hc (by decide)
     ·split at hc
      ·exact absurd hc (by decide)
      ·rename_i a
       split at hc
       ·exact absurd hc (by decide)
       ·constructor
        ·have:=fun x=>a (.inr (.inr x));omega
        ·omega
    have hcap:=capF_le (decM (manP F)).k
    unfold sizF
    exact⟨by omega,by omega,by omega,hc⟩
theorem in_plaF {kf F:Nat→Int} {N L:Nat} (hF:∀ j,j<N→inB (F j)) (hL:bunL L≤N) (j:Nat) (hj:j<L):inB (plaF kf F j):=by
 unfold plaF
 have hi:j/256<chN L:=by unfold chN;omega
 have h1:=bunA_succ hi
 have h2:bunA L (j/256+1)≤bunL L:=by unfold bunL bunA;have:j/256+1≤chN L:=hi;omega
 refine nin_encF (m:=chL L (j/256)) (fun r hr=>hF _ ?_) _ (by unfold chL;omega)
 omega
set_option maxHeartbeats 4000000 in
theorem Peek_all (kf F:Nat→Int) (q:Option Addr) (N c:Nat) (hk:∀ i,i<32→inB (kf i)) (hF:∀ j,j<N→inB (F j)) (hNc:N≤c) (hc:c≤9223372036854775807) (w:World) (hG:Has 1 0 GL w) (hg:Has 0 0 CapL w) (hq:Byt w q N F) :
  Calls Tryz.prog 16 #[(.agg (nums .u8 kf 32).toArray),.slice q N c] w fun e w'=>e = .returned (.tuple #[.agg (cM (pkM kf F N)).toArray,.int .i64 (pkE kf F N)])∧Below w.heap.size w w':=by
 by_cases hN:N<63
 ·have PE:pkE kf F N=4:=if_pos hN
  have PM:pkM kf F N=nilMn:=if_neg (by rw[PE];decide)
  have g1:decide ((N:Int)<63)=true:=decide_eq_true (by omega)
  rw[PE,PM]
  go_enter Tryz.func16,Tryz.ntmps16
  go_upto_region 1 with fail
  obtain⟨W0,K,eW,eX,HK,BW0,KW,SW0⟩:=al1 w _ (nums .u8 kf 32).toArray 22 (nums .u8 kf 32) rfl rfl
  rw[eW,eX]
  obtain⟨W1,R,eW,eX,HR,BW1,RW,SW1⟩:=al1 W0 _ #[.int .u64 0,.int .i64 0,.int .u32 0,.int .u8 0,.int .u8 0,.int .u8 0,.int .u8 0,.int .u8 0,.int .u8 0,.int .u8 0,.int .u8 0,.int .u32 0,.int .u32 0,.int .i64 0,.int .i64 0] 27 (cM nilMn) SW0 rfl
  rw[eW,eX]
  have B:=Lib.hid (Below.go BW0.out BW1.out)
  have RW:=Lib.hid (Nat.le_trans BW0.out.size RW.out)
  clear eW eX BW0 BW1 SW1 SW0 KW HK
  go_wp2_with (refine wpList_store_mid rfl 27 _ _ rfl R 0 (cM nilMn).toArray rfl rfl (freeM HR.out) (by kernel_rfl) (cM_one _) ?_)
  have hL:=run_loadVar_mid (P:=Tryz.prog) _ R 0 27 (cM nilMn) _ (Own.store (vs:=cM nilMn) HR.out rfl).cell Tryz.underlying27 rfl (by kernel_rfl)
  exact bodyPost_ret (v := .tuple #[.agg (cM nilMn).toArray,.int .i64 4]) (gres_two Tryz.results16 rfl hL rfl) rfl ⟨rfl,Below.setCells B.out RW.out _ _⟩
 ·obtain⟨D,o,rfl,h⟩:=hq.resolve_left (by omega)
  have e1:pkE kf F N=peekE kf F:=if_neg hN
  have e2:pkM kf F N=peekM kf F:=by unfold pkM peekM;rw[e1];rfl
  rw[e1,e2]
  exact Peek_any kf F D o N c hk hF (by omega) hNc hc w hG hg h
set_option maxHeartbeats 16000000 in
theorem Open_any (kf F P:Nat→Int) (hP:∀ j,j<sizF F→P j=plaF kf F j) (q:Option Addr) (N c:Nat) (hk:∀ i,i<32→inB (kf i)) (hF:∀ j,j<N→inB (F j)) (hN2:N≤1200) (hNc:N≤c) (hc:c≤9223372036854775807) (w:World) (hG:Has 1 0 GL w) (hg:Has 0 0 CapL w) (hq:Byt w q N F) :
  Calls Tryz.prog 18 #[(.agg (nums .u8 kf 32).toArray),.slice q N c] w fun e w'=>∃ Y,e = .returned (.tuple #[.agg (cM (opnM kf F N P)).toArray,.agg (cA Y).toArray,.int .i64 (opnE kf F N P)])∧AstAt Y w'∧FewA Y∧(opnE kf F N P=0→EqA Y (decA (decM (manP F)).k P (sizF F)))∧(opnE kf F N P≠0→Y=kinA 0)∧Below w.heap.size w w':=by
 have HP:=Lib.hid hP
 clear hP
 have FK:=Lib.hid hk;have FF:=Lib.hid hF;have HG:=Lib.hid hG;have Hg:=Lib.hid hg;have HQ:=Lib.hid hq
 have HN2:=Lib.hid hN2;have HNC:=Lib.hid hNc;have HCC:=Lib.hid hc
 clear hk hF hG hg hq hN2 hNc hc
 go_enter Tryz.func18,Tryz.ntmps18
 go_upto_region 1 with fail
 obtain⟨W0,K,eW,eX,HK,BW0,KW,SW0⟩:=al1 w _ (nums .u8 kf 32).toArray 22 (nums .u8 kf 32) rfl rfl
 rw[eW,eX]
 obtain⟨W1,R,eW,eX,HR,BW1,RW,SW1⟩:=al1 W0 _ #[.int .u64 0,.int .i64 0,.int .u32 0,.int .u8 0,.int .u8 0,.int .u8 0,.int .u8 0,.int .u8 0,.int .u8 0,.int .u8 0,.int .u8 0,.int .u32 0,.int .u32 0,.int .i64 0,.int .i64 0] 27 (cM nilMn) SW0 rfl
 rw[eW,eX]
 obtain⟨W2,A,eW,eX,HA,BW2,AW,SW2⟩:=al1 W1 _ #[.int .i64 0,.slice none 0 0,.slice none 0 0,.slice none 0 0,.int .i64 0,.slice none 0 0,.int .i64 0,.int .i64 0,.int .i64 0,.int .i64 0,.int .i64 0,.int .i64 0,.int .i64 0,.int .i64 0,.int .i64 0,.int .i64 0,.int .i64 0,.int .i64 0,.int .i64 0,.int .i64 0,.int .i64 0,.int .i64 0,.int .i64 0,.int .i64 0] 45 (cA (kinA 0)) SW1 rfl
 rw[eW,eX]
 have B:=Lib.hid (Below.go (Below.go BW0.out BW1.out) BW2.out)
 have nRA:R≠A:=by have:=AW.out;omega
 have nAR:=nRA.symm
 have RW:=Lib.hid (Nat.le_trans BW0.out.size RW.out)
 have AW:=Lib.hid (Nat.le_trans (Nat.le_trans BW0.out.size BW1.out.size) AW.out)
 replace HK:=Lib.hid ((HK.out.later BW1.out).later BW2.out);replace HR:=Lib.hid (HR.out.later BW2.out)
 clear eW eX BW0 BW1 BW2 SW1 SW0 SW2 KW
 replace HG:=Lib.hid (HG.out.later B.out)
 replace Hg:=Lib.hid (Hg.out.later B.out)
 replace HQ:=Lib.hid (HQ.out.later B.out)
 go_wp2_with (refine wpList_load_mid rfl 22 _ rfl K 0 rfl (nums .u8 kf 32) _ HK.out.cell Tryz.underlying22 rfl (by kernel_rfl) ?_)
 go_at_call 16
 refine (Peek_all kf F q N c FK.out FF.out HNC.out HCC.out _ HG.out Hg.out HQ.out).mono ?_
 rintro e w3 ⟨rfl,hb⟩
 replace HG:=Lib.hid (HG.out.later hb)
 replace Hg:=Lib.hid (Hg.out.later hb)
 replace HQ:=Lib.hid (HQ.out.later hb)
 replace HK:=Lib.hid (HK.out.later hb)
 replace HR:=Lib.hid (HR.out.later hb)
 replace HA:=Lib.hid (HA.out.later hb)
 replace B:=Lib.hid (Below.go B.out hb)
 clear hb
 obtain⟨ep,hep⟩:∃ z,z=pkE kf F N:=⟨_,rfl⟩
 obtain⟨MP,hMP⟩:∃ z,z=pkM kf F N:=⟨_,rfl⟩
 rw[← hep,← hMP]
 have EP:=Lib.hid hep;have EM:=Lib.hid hMP
 clear hep hMP
 have HR3:=Lib.hid HR.out.lt;have HA3:=Lib.hid HA.out.lt
 go_upto_region 2 with (obtain⟨w4,Z,eW,eX,HZ,b4,ZW,_⟩:=al1 w3 _ #[.int .u64 0,.int .i64 0,.int .u32 0,.int .u8 0,.int .u8 0,.int .u8 0,.int .u8 0,.int .u8 0,.int .u8 0,.int .u8 0,.int .u8 0,.int .u32 0,.int .u32 0,.int .i64 0,.int .i64 0] 27 (cM nilMn) rfl rfl;rw[eW,eX];refine wpList_store_mid rfl 27 _ _ rfl Z 0 (cM MP).toArray rfl rfl (freeM HZ.out) (by kernel_rfl) (cM_one _) ?_)
 have hb:=Below.setCells b4.out ZW.out (cM MP) 0
 have HZ2:=Lib.hid (putM (Y:=MP) HZ.out)
 have ZRA:=Lib.hid (show R<Z∧A<Z from ⟨Nat.lt_of_lt_of_le HR3.out ZW.out,Nat.lt_of_lt_of_le HA3.out ZW.out⟩)
 clear eW eX b4 ZW HZ HR3 HA3
 generalize w4.setCells Z 0 (cM MP)=w5 at *
 replace HG:=Lib.hid (HG.out.later hb)
 replace Hg:=Lib.hid (Hg.out.later hb)
 replace HQ:=Lib.hid (HQ.out.later hb)
 replace HK:=Lib.hid (HK.out.later hb)
 replace HR:=Lib.hid (HR.out.later hb)
 replace HA:=Lib.hid (HA.out.later hb)
 replace B:=Lib.hid (Below.go B.out hb)
 clear hb
 by_cases h0:ep=0
 ·have hp0:=EP.out.symm.trans h0
  subst h0
  obtain⟨hN,hL1,hL2,hS,hck⟩:=siz_bd hp0
  have eM:MP=decM (manP F):=by rw[EM.out];unfold pkM;rw[if_pos hp0]
  subst eM
  obtain⟨D,o,rfl,hQ⟩:=HQ.out.resolve_left (by omega)
  have HD:=Lib.hid hQ
  have z13:=HZ2.out.at 13 _ rfl;have z1:=HZ2.out.at 1 _ rfl;have zl:=HZ2.out.lt
  rw[hS] at z13
  have OC:=Lib.hid (fun w hG hq=>openChunks_any kf F D o N c (sizF F) FK.out FF.out hN (by have:=HN2.out;omega) HNC.out HCC.out hL1 (by omega) w hG hq)
  have HS:=Lib.hid hS;have HL1:=Lib.hid hL1;have HP0:=Lib.hid hp0
  clear hQ hN hL2 hS hp0 hck EP EM HQ hL1
  obtain⟨L,eL⟩:∃ L,sizF F=L:=⟨_,rfl⟩
  rw[eL] at z13 OC HL1
  have EL:=Lib.hid eL
  clear eL
  go_wp2_with (refine wpList_load_mid rfl 22 _ rfl K 0 rfl (nums .u8 kf 32) _ HK.out.cell Tryz.underlying22 rfl (by kernel_rfl) ?_)
  go_at_call 43
  refine (OC.out _ HG.out HD.out).mono ?_
  rintro e w6 ⟨v,rfl,hrow,hb⟩
  obtain⟨pq,pc,rfl,hpc,hpx,hby⟩:=hrow
  replace HG:=Lib.hid (HG.out.later hb)
  replace Hg:=Lib.hid (Hg.out.later hb)
  replace HD:=Lib.hid (HD.out.later hb)
  replace HK:=Lib.hid (HK.out.later hb)
  replace HR:=Lib.hid (HR.out.later hb)
  replace HA:=Lib.hid (HA.out.later hb)
  replace HZ2:=Lib.hid (HZ2.out.later hb)
  replace B:=Lib.hid (Below.go B.out hb)
  have PB:=Lib.hid hby
  clear hb hby z13 z1 zl OC
  obtain⟨eo,heo⟩:∃ z,z=opcE kf F N L:=⟨_,rfl⟩
  rw[← heo] at PB ⊢
  have EO:=Lib.hid heo
  clear heo
  by_cases h1:eo=0
  ·subst h1
   have hbun:=opc_len HL1.out EO.out.symm
   simp only[if_true] at PB hpc ⊢
   have z1:=HZ2.out.at 1 _ rfl;have zl:=HZ2.out.lt
   have AD:=Lib.hid (fun w hq hg=>ADecode_any (decM (manP F)).k P pq L pc (fun j hj=>by rw[HP.out j (by rw[EL.out];exact hj)];exact in_plaF FF.out hbun j hj) (by have:=HN2.out;have:L≤bunL L:=(by unfold bunL bunA chN;omega);omega) w hq hg)
   clear hbun
   have RL6:=HR.out.lt;have AL6:=HA.out.lt
   go_wp2_with (fail)
   go_at_call 44
   refine (AD.out _ (byt_eq PB.out fun j hj=>(HP.out j (by rw[EL.out];exact hj)).symm) Hg.out).mono ?_
   rintro e w7 ⟨⟨Y,rfl,hY,hFY,hFR,hY0,hY1⟩,hb⟩
   replace HR:=Lib.hid (HR.out.later hb)
   replace HA:=Lib.hid (HA.out.later hb)
   replace HZ2:=Lib.hid (HZ2.out.later hb)
   replace B:=Lib.hid (Below.go B.out hb)
   have YR:=Lib.hid hFR;have R6:=Lib.hid (show R<w6.heap.size∧A<w6.heap.size from ⟨RL6,AL6⟩)
   clear hFR
   have YA:=Lib.hid hY;have YF:=Lib.hid hFY;have Y0:=Lib.hid hY0
   clear hb hY hFY hY0 hY1 z1 zl AD PB HK HG Hg HD
   obtain⟨ed,hed⟩:∃ z,z=decEA (decM (manP F)).k P L:=⟨_,rfl⟩
   rw[← hed] at Y0 ⊢
   have OE2:opnE kf F N P=ed:=by unfold opnE;rw[if_neg (by rw[HP0.out];decide),EL.out,if_neg (by rw[← EO.out];decide),hed]
   clear hed
   have HR7:=Lib.hid HR.out.lt;have HA7:=Lib.hid HA.out.lt
   go_upto_region 8 with (obtain⟨w8,X,eW,eX,HX,b8,XW,_⟩:=al1 w7 _ #[.int .i64 0,.slice none 0 0,.slice none 0 0,.slice none 0 0,.int .i64 0,.slice none 0 0,.int .i64 0,.int .i64 0,.int .i64 0,.int .i64 0,.int .i64 0,.int .i64 0,.int .i64 0,.int .i64 0,.int .i64 0,.int .i64 0,.int .i64 0,.int .i64 0,.int .i64 0,.int .i64 0,.int .i64 0,.int .i64 0,.int .i64 0,.int .i64 0] 45 (cA (kinA 0)) rfl rfl;rw[eW,eX];refine wpList_store_mid rfl 45 _ _ rfl X 0 (cA Y).toArray rfl rfl (freeA HX.out) (by kernel_rfl) (cA_one _) ?_)
   have hb:=Below.setCells b8.out XW.out (cA Y) 0
   have HX2:=Lib.hid (putA (Y:=Y) HX.out)
   have XRA:=Lib.hid (show R<X∧A<X from ⟨Nat.lt_of_lt_of_le HR7.out XW.out,Nat.lt_of_lt_of_le HA7.out XW.out⟩)
   clear eW eX b8 XW HX HR7 HA7
   generalize w8.setCells X 0 (cA Y)=w9 at *
   replace HR:=Lib.hid (HR.out.later hb)
   replace HA:=Lib.hid (HA.out.later hb)
   replace HZ2:=Lib.hid (HZ2.out.later hb)
   replace YA:=Lib.hid (YA.out.later hb)
   replace B:=Lib.hid (Below.go B.out hb)
   clear hb
   by_cases h2:ed=0
   ·subst h2
    go_upto_region 10 with fail
    have hbd:Below w9.heap.size w9 w9.drew:=(Below.refl _ _).drew
    replace HR:=Lib.hid (HR.out.later hbd)
    replace HA:=Lib.hid (HA.out.later hbd)
    replace HZ2:=Lib.hid (HZ2.out.later hbd)
    replace YA:=Lib.hid (YA.out.later hbd)
    replace HX2:=Lib.hid (HX2.out.later hbd)
    replace B:=Lib.hid (Below.go B.out hbd)
    clear hbd
    have nZR:Z≠R:=by have:=ZRA.out;omega
    have nZA:Z≠A:=by have:=ZRA.out;omega
    have nXR:X≠R:=by have:=XRA.out;omega
    have nXA:X≠A:=by have:=XRA.out;omega
    obtain⟨M0,eM0⟩:∃ M,M=decM (manP F):=⟨_,rfl⟩
    rw[← eM0] at HZ2
    have OM:opnM kf F N P=M0:=by unfold opnM;rw[if_pos OE2,eM0]
    have OE3:=Lib.hid OE2;have OM3:=Lib.hid OM;have EQY:=Lib.hid (Y0.out rfl)
    clear eM0 OE2 OM Y0
    refine wp_region_held_drew (S:=fun w'=>Own Z (cM M0) w'∧Own X (cA Y) w') (by kernel_rfl) ⟨HZ2.out,HX2.out⟩ (fun hs=>?_)
    generalize w9.drew=z0 at *
    refine wpAnyH_take (i:=0) (v := .agg (cM M0).toArray) rfl (by kernel_rfl) (by kernel_rfl) (by kernel_rfl) (fun _ _ _ h=>h) (yieldsIf_load_mid (by rfl) 27 _ rfl Z 0 rfl (cM M0) _ (fun w h=>h.1.cell) Tryz.underlying27 rfl (by kernel_rfl)) hs ?_
    try simp only[Act.put,List.getElem_toArray,List.getElem_cons_zero,List.getElem_cons_succ,List.setIfInBounds_toArray,List.set_cons_zero,List.set_cons_succ]
    refine wpAnyH_take (i:=1) (v := .agg (cA Y).toArray) rfl (by kernel_rfl) (by kernel_rfl) (by kernel_rfl) (fun _ _ _ h=>h) (yieldsIf_load_mid (by rfl) 45 _ rfl X 0 rfl (cA Y) _ (fun w h=>h.2.cell) Tryz.underlying45 rfl (by kernel_rfl)) hs ?_
    try simp only[Act.put,List.getElem_toArray,List.getElem_cons_zero,List.getElem_cons_succ,List.setIfInBounds_toArray,List.set_cons_zero,List.set_cons_succ]
    refine wpAnyH_ready (rs:=[2]) (by kernel_rfl) (by simp) ?_
    refine (AllReadyH.cons rfl (fun K_ hK=>?_) AllReadyH.nil)
    rw[if_pos]
    rotate_left
    ·simp[Region.wanted]
    refine wp_store_mid 27 _ _ rfl R 0 (cM M0).toArray rfl rfl (freeM HR.out) (by kernel_rfl) (cM_one _) ?_
    refine hK.out _ _ ⟨HZ2.out.far (o:=0) (vs:=cM M0) nZR,HX2.out.far (o:=0) (vs:=cM M0) nXR⟩ (fun _=>?_)
    clear hK K_
    try simp only[Act.put,List.getElem_toArray,List.getElem_cons_zero,List.getElem_cons_succ,List.setIfInBounds_toArray,List.set_cons_zero,List.set_cons_succ]
    change wpAnyH _ _ _ _ _ _ _ _ (z0.setCells R 0 (cM M0))
    have HA1:=HA.out.far (c:=R) (o:=0) (vs:=cM M0) nAR
    have HX1:=HX2.out.far (o:=0) (vs:=cM M0) nXR
    have HZ1:=HZ2.out.far (o:=0) (vs:=cM M0) nZR
    have HR1:=putM (Y:=M0) HR.out
    have YA1:=YA.out.away (k:=0) (vs:=cM M0) YR.out R6.out.1
    have B1:=Below.setCells B.out RW.out (cM M0) 0
    clear HA HX2 HZ2 HR YA B hs
    generalize z0.setCells R 0 (cM M0)=z1 at *
    refine wpAnyH_ready (rs:=[3]) (by kernel_rfl) (by simp) ?_
    refine (AllReadyH.cons rfl (fun K_ hK=>?_) AllReadyH.nil)
    rw[if_pos]
    rotate_left
    ·simp[Region.wanted]
    refine wp_store_mid 45 _ _ rfl A 0 (cA Y).toArray rfl rfl (freeA HA1) (by kernel_rfl) (cA_one _) ?_
    refine hK.out _ _ ⟨HZ1.far (o:=0) (vs:=cA Y) nZA,HX1.far (o:=0) (vs:=cA Y) nXA⟩ (fun hs=>?_)
    clear hK K_
    try simp only[Act.put,List.getElem_toArray,List.getElem_cons_zero,List.getElem_cons_succ,List.setIfInBounds_toArray,List.set_cons_zero,List.set_cons_succ]
    change wpAnyH _ _ _ _ _ _ _ _ (z1.setCells A 0 (cA Y))
    have hR:=HR1.far (c:=A) (o:=0) (vs:=cA Y) nRA
    have hA:=putA (Y:=Y) HA1
    have YA2:=YA1.away (k:=0) (vs:=cA Y) YR.out R6.out.2
    have B2:=Below.setCells B1 AW.out (cA Y) 0
    clear HA1 HX1 HZ1 HR1 YA1 B1
    generalize z1.setCells A 0 (cA Y)=z2 at *
    refine wpAnyH_take (i:=4) (v := .int .i64 0) rfl (by kernel_rfl) (by kernel_rfl) (by kernel_rfl) (fun _ _ _ h=>h) (Or.inl ⟨by rfl,fun w' hS=>?_⟩) hs ?_
    ·go_simp
    try simp only[Act.put,List.getElem_toArray,List.getElem_cons_zero,List.getElem_cons_succ,List.setIfInBounds_toArray,List.set_cons_zero,List.set_cons_succ]
    refine wpAnyH_done (by kernel_rfl) ?_ _
    go_wp2_with (fail)
    have hL:=run_loadVar_mid (P:=Tryz.prog) _ R 0 27 (cM M0) _ hR.cell Tryz.underlying27 rfl (by kernel_rfl)
    have hL2:=run_loadVar_mid (P:=Tryz.prog) _ A 0 45 (cA Y) _ hA.cell Tryz.underlying45 rfl (by kernel_rfl)
    exact bodyPost_ret (v := .tuple #[.agg (cM M0).toArray,.agg (cA Y).toArray,.int .i64 0]) (res_three Tryz.results18 rfl hL rfl hL2 rfl) rfl (⟨Y,by rw[OE3.out,OM3.out],YA2,YF.out,fun _=>by rw[EL.out];exact EQY.out,fun h=>absurd OE3.out h,B2⟩)
   ·have hd:(ed != 0)=true:=by simpa using h2
    have OE:opnE kf F N P=ed:=OE2
    have OM:opnM kf F N P=nilMn:=if_neg (by rw[OE];assumption)
    go_upto_region 9 with fail
    refine wp_region_lit ?_
    refine wpList_val rfl (.agg (cM nilMn).toArray) (by kernel_rfl) ?_
    refine wpList_val rfl (.agg (cA (kinA 0)).toArray) (by kernel_rfl) ?_
    refine wpList_val rfl (.int .i64 ed) (by kernel_rfl) ?_
    refine wpList_store_mid rfl 27 _ _ rfl R 0 (cM nilMn).toArray rfl rfl (freeM HR.out) (by kernel_rfl) (cM_one _) ?_
    refine wpList_store_mid rfl 45 _ _ rfl A 0 (cA (kinA 0)).toArray rfl rfl (freeA ((HA.out.far (c:=R) (o:=0) (vs:=cM nilMn) nAR))) (by kernel_rfl) (cA_one _) ?_
    go_wp2_with (fail)
    have hR:=(Own.store (vs:=cM nilMn) HR.out rfl).far (c:=A) (o:=0) (vs:=cA (kinA 0)) nRA
    have hA:=Own.store (vs:=cA (kinA 0)) (HA.out.far (c:=R) (o:=0) (vs:=cM nilMn) nAR) rfl
    have hL:=run_loadVar_mid (P:=Tryz.prog) _ R 0 27 (cM nilMn) _ hR.cell Tryz.underlying27 rfl (by kernel_rfl)
    have hL2:=run_loadVar_mid (P:=Tryz.prog) _ A 0 45 (cA (kinA 0)) _ hA.cell Tryz.underlying45 rfl (by kernel_rfl)
    exact bodyPost_ret (v := .tuple #[.agg (cM nilMn).toArray,.agg (cA (kinA 0)).toArray,.int .i64 ed]) (res_three Tryz.results18 rfl hL rfl hL2 rfl) rfl (⟨kinA 0,by rw[OE,OM],kinA_at _ _,⟨by decide,by decide,by decide,by decide⟩,fun h=>absurd (OE.symm.trans h) (by assumption),fun _=>rfl,Below.setCells (Below.setCells B.out RW.out _ _) AW.out _ _⟩)
  ·have hd:(eo != 0)=true:=by simpa using h1
   have OE:opnE kf F N P=eo:=by unfold opnE;rw[if_neg (by rw[HP0.out];decide),EL.out,if_pos (by rw[← EO.out];exact h1),EO.out]
   have OM:opnM kf F N P=nilMn:=if_neg (by rw[OE];assumption)
   go_upto_region 6 with fail
   refine wp_region_lit ?_
   refine wpList_val rfl (.agg (cM nilMn).toArray) (by kernel_rfl) ?_
   refine wpList_val rfl (.agg (cA (kinA 0)).toArray) (by kernel_rfl) ?_
   refine wpList_val rfl (.int .i64 eo) (by kernel_rfl) ?_
   refine wpList_store_mid rfl 27 _ _ rfl R 0 (cM nilMn).toArray rfl rfl (freeM HR.out) (by kernel_rfl) (cM_one _) ?_
   refine wpList_store_mid rfl 45 _ _ rfl A 0 (cA (kinA 0)).toArray rfl rfl (freeA ((HA.out.far (c:=R) (o:=0) (vs:=cM nilMn) nAR))) (by kernel_rfl) (cA_one _) ?_
   go_wp2_with (fail)
   have hR:=(Own.store (vs:=cM nilMn) HR.out rfl).far (c:=A) (o:=0) (vs:=cA (kinA 0)) nRA
   have hA:=Own.store (vs:=cA (kinA 0)) (HA.out.far (c:=R) (o:=0) (vs:=cM nilMn) nAR) rfl
   have hL:=run_loadVar_mid (P:=Tryz.prog) _ R 0 27 (cM nilMn) _ hR.cell Tryz.underlying27 rfl (by kernel_rfl)
   have hL2:=run_loadVar_mid (P:=Tryz.prog) _ A 0 45 (cA (kinA 0)) _ hA.cell Tryz.underlying45 rfl (by kernel_rfl)
   exact bodyPost_ret (v := .tuple #[.agg (cM nilMn).toArray,.agg (cA (kinA 0)).toArray,.int .i64 eo]) (res_three Tryz.results18 rfl hL rfl hL2 rfl) rfl (⟨kinA 0,by rw[OE,OM],kinA_at _ _,⟨by decide,by decide,by decide,by decide⟩,fun h=>absurd (OE.symm.trans h) (by assumption),fun _=>rfl,Below.setCells (Below.setCells B.out RW.out _ _) AW.out _ _⟩)
 ·have hd:(ep != 0)=true:=by simpa using h0
  have OE:opnE kf F N P=ep:=by unfold opnE;rw[if_pos (by rw[← EP.out];exact h0),EP.out]
  have OM:opnM kf F N P=nilMn:=if_neg (by rw[OE];assumption)
  go_upto_region 3 with fail
  refine wp_region_lit ?_
  refine wpList_val rfl (.agg (cM nilMn).toArray) (by kernel_rfl) ?_
  refine wpList_val rfl (.agg (cA (kinA 0)).toArray) (by kernel_rfl) ?_
  refine wpList_val rfl (.int .i64 ep) (by kernel_rfl) ?_
  refine wpList_store_mid rfl 27 _ _ rfl R 0 (cM nilMn).toArray rfl rfl (freeM HR.out) (by kernel_rfl) (cM_one _) ?_
  refine wpList_store_mid rfl 45 _ _ rfl A 0 (cA (kinA 0)).toArray rfl rfl (freeA ((HA.out.far (c:=R) (o:=0) (vs:=cM nilMn) nAR))) (by kernel_rfl) (cA_one _) ?_
  go_wp2_with (fail)
  have hR:=(Own.store (vs:=cM nilMn) HR.out rfl).far (c:=A) (o:=0) (vs:=cA (kinA 0)) nRA
  have hA:=Own.store (vs:=cA (kinA 0)) (HA.out.far (c:=R) (o:=0) (vs:=cM nilMn) nAR) rfl
  have hL:=run_loadVar_mid (P:=Tryz.prog) _ R 0 27 (cM nilMn) _ hR.cell Tryz.underlying27 rfl (by kernel_rfl)
  have hL2:=run_loadVar_mid (P:=Tryz.prog) _ A 0 45 (cA (kinA 0)) _ hA.cell Tryz.underlying45 rfl (by kernel_rfl)
  exact bodyPost_ret (v := .tuple #[.agg (cM nilMn).toArray,.agg (cA (kinA 0)).toArray,.int .i64 ep]) (res_three Tryz.results18 rfl hL rfl hL2 rfl) rfl (⟨kinA 0,by rw[OE,OM],kinA_at _ _,⟨by decide,by decide,by decide,by decide⟩,fun h=>absurd (OE.symm.trans h) (by assumption),fun _=>rfl,Below.setCells (Below.setCells B.out RW.out _ _) AW.out _ _⟩)
end Go.Proofs.YtbilamnnneddmaaGreatDoor
namespace Go.Proofs.YtbilamnnneddmaaGreatDoor
set_option linter.unusedVariables false
set_option maxRecDepth 2000
set_option linter.unusedVariables false
set_option linter.unusedSimpArgs false
open Go.RowKit
theorem byt_odd {w:World} {q:Option Addr} {n l:Nat} {f:Nat→Int} {ob:Obj} (h:Byt w q n f) (hl:Odd l w):Byt (w.putObj l ob) q n f:=by
 rcases h with h0 | ⟨b,o,e,hh⟩
 ·exact .inl h0
 ·rcases Nat.eq_zero_or_pos n with h0 | h0
  ·exact .inl h0
  ·exact .inr ⟨b,o,e,num_odd h0 hh hl⟩
theorem byt_cell {W:World} {T n m c:Nat} {q p:Option Addr} {f:Nat→Int} {v:Value} (h:Byt W q n f) (hT:Own T [.slice p m c] W):Byt (W.setCell ⟨T,0,none⟩ v) q n f:=by
 rcases h with h0 | ⟨b,o,e,hh⟩
 ·exact .inl h0
 ·refine .inr ⟨b,o,e,?_⟩
  by_cases hb:b=T
  ·subst hb
   refine⟨by have h0:=hh.lt;rw[← size_setCells b [v] 0 W] at h0;exact h0,fun j u hj=>?_⟩
   have hc:=hh.cell j u hj
   have hj2:j<n:=by have:=(List.getElem?_eq_some_iff.1 hj).1;rwa [nums_length] at this
   rw[nums_at .u8 f hj2] at hj
   have n0:o+j≠0:=fun e=>by rw[e,hT.at 0 _ rfl,← hj] at hc;cases hc
   have:=World.cell?_setCells_out b [v] 0 W ⟨b,o+j,none⟩ (fun _ _=>by show o+j<0∨0+1≤o+j;omega)
   exact this.trans hc
  ·exact hh.far (c:=T) (o:=0) (vs:=[v]) hb
theorem byt_grown {W W':World} {row:Option Nat} {q:Option Addr} {n X:Nat} {f:Nat→Int} (h:Byt W q n f) (hg:W.grownBy W' row) (hq:∀ b o,q=some ⟨b,o,none⟩→X≤b) (hr:∀ b,row=some b→b<X):Byt W' q n f:=by
 rcases h with h0 | ⟨b,o,e,hh⟩
 ·exact .inl h0
 ·exact .inr ⟨b,o,e,hh.grown hg fun h1=>by have:=hq b o e;have:=hr b h1;omega⟩
theorem bunF_at (kf b mF P:Nat→Int) (L k j:Nat) (hj:j<276):bunF kf b mF P L (63+276*k+j)=chuF kf b (tagB kf b mF) P L k j:=by
 unfold bunF
 rw[if_neg (by omega),show (63+276*k+j - 63)/276=k by omega,show (63+276*k+j - 63)%276=j by omega]
theorem bunA_le {L k:Nat} (hL:L≤900):bunA L k≤1100:=by unfold bunA chN;omega
structure SeJ (w:World) (kf b mF P:Nat→Int) (L K S T X:Nat) (pq tq:Option Addr) (tc k:Nat) (W:World):Prop where
 hk:Own K (nums .u8 kf 32) W
 hs:Own S (nums .u8 b 8) W
 hg:Has 1 0 GL W
 ht:Own T [.slice tq 16 tc] W
 hy:Byt W tq 16 (tagB kf b mF)
 hb:Byt W pq L P
 hp:∃ q c,Own X [.slice q (bunA L k) c] W∧Byt W q (bunA L k) (bunF kf b mF P L)∧bunA L k≤c∧c≤9223372036854775807
 hz:Below w.heap.size w W
section
variable {w W W':World} {kf b mF P:Nat→Int} {L K S T X tc k:Nat} {pq tq:Option Addr}
theorem SeJ.later (h:SeJ w kf b mF P L K S T X pq tq tc k W) (hl:Below W.heap.size W W'):SeJ w kf b mF P L K S T X pq tq tc k W':=by
 obtain⟨q,c,h1,h2,h3⟩:=h.hp
 exact⟨h.hk.later hl,h.hs.later hl,h.hg.later hl,h.ht.later hl,h.hy.later hl,h.hb.later hl,⟨q,c,h1.later hl,h2.later hl,h3⟩,Below.go h.hz hl⟩
theorem SeJ.odd {l:Nat} {ob:Obj} (h:SeJ w kf b mF P L K S T X pq tq tc k W) (hw:w.heap.size≤l) (hl:Odd l W):SeJ w kf b mF P L K S T X pq tq tc k (W.putObj l ob):=by
 obtain⟨q,c,h1,h2,h3⟩:=h.hp
 exact⟨own_odd (by decide) h.hk hl,own_odd (by decide) h.hs hl,h.hg.odd hl,h.ht.odd hl,byt_odd h.hy hl,byt_odd h.hb hl,⟨q,c,h1.odd hl,byt_odd h2 hl,h3⟩,putObj_below h.hz hw⟩
theorem SeJ.put {q:Option Addr} {c:Nat} (h:SeJ w kf b mF P L K S T X pq tq tc k W) (n1:K≠X∧S≠X∧1≠X∧T≠X) (hX:w.heap.size≤X) (h2:Byt W q (bunA L (k+1)) (bunF kf b mF P L)) (h3:bunA L (k+1)≤c∧c≤9223372036854775807):SeJ w kf b mF P L K S T X pq tq tc (k+1) (W.setCell ⟨X,0,none⟩ (.slice q (bunA L (k+1)) c)):=by
 obtain⟨q0,c0,h1,_,_⟩:=h.hp
 obtain⟨a1,a2,a3,a4⟩:=n1
 exact⟨h.hk.far (c:=X) (o:=0) (vs:=[_]) a1,h.hs.far (c:=X) (o:=0) (vs:=[_]) a2,h.hg.far (c:=X) (o:=0) (vs:=[_]) a3,h.ht.far (c:=X) (o:=0) (vs:=[_]) a4,byt_cell h.hy h1,byt_cell h.hb h1,⟨q,c,Own.store (vs:=[_]) h1 rfl,byt_cell h2 h1,h3⟩,Below.setCells h.hz hX [_] 0⟩
end
end Go.Proofs.YtbilamnnneddmaaGreatDoor
