import Derived.Test.YtbilamnnneddmaaGreatDoorZHUx
import Derived.RangeFuncCalls
import Derived.RangeFuncOwn
import Derived.RangeFuncLeaves
import Derived.OrdersIn
import Derived.OrdersHeld
import Derived.Lib.Hide
import Derived.Test.YtbilamnnneddmaaGreatDoorZMS1
import Derived.Test.YtbilamnnneddmaaGreatDoorZTXAx
import Derived.Lib.SliceRun
import Derived.TacticsInMore
import Derived.OwnWalkIn
import Derived.LoopNIn
import Derived.LoopIn
import Derived.Great.BuildSlice
import Derived.Test.YtbilamnnneddmaaGreatDoorZDOx
import Derived.Deep.Onto
import Derived.Deep.RegionHeld3
import Derived.Deep.QuietTactic
import Derived.BigQuiet
import Derived.LoopN
import Derived.LoopTactic
namespace Go.Proofs.YtbilamnnneddmaaGreatDoor
set_option linter.unusedVariables false
set_option maxRecDepth 2000
set_option linter.unusedSimpArgs false
open Go.RowKit
theorem rows_in {n:Nat} {P:Program} {row:String} {args:Array Value} {w:World} {R:Value→World→Prop} (h:Rows P row args w R):RowsIn Fence.wide n P row args w R :=
 fun c cs _=>let ⟨v,w',r,s⟩:=h c cs;⟨v,w',r,stepsIn_wide.2 s⟩
def nodf (o:Oper):Bool:=match o.op with | .defer _=>false | _=>true
theorem nodf_ne {o:Oper} (h:nodf o=true) (c:Call):o.op ≠ .defer c:=fun e=>by
 unfold nodf at h
 rw[e] at h
 cases h
theorem op_round {l n:Nat} {P:Program} {o:Oper} {a:Act} {w:World} {K:Act→World→Prop} {Q:Exit→Act→World→Prop} (hd:nodf o=true) (h:o.wp P a w K Q):o.wpIn (Fence.wide.inRound l) n P a w K Q:=by
 refine⟨fun _ _=>trivial,?_⟩
 rw[show (Fence.wide.inRound l).round=some l from rfl,Oper.semAt_some l _ _ (nodf_ne hd)]
 unfold Oper.wp at h
 generalize (execOp a.eval o).run P w=r at *
 cases r with
 | ok nx w' =>
  cases nx with
  | value v=>exact h
  | skip=>exact h
  | defer d=>exact h
  | enter f args=>exact⟨(fun hh=>by cases hh),CallsIn.inRound l (callsIn_wide.2 h)⟩
  | row row args=>exact⟨(fun hh=>by cases hh),rows_in h⟩
  | _=>exact h.elim
 | halt x w' =>
  cases x with
  | panic v=>exact h
  | _=>exact h.elim
theorem list_round {l n:Nat} {P:Program} {ops:Array Oper} {Q:Exit→Act→World→Prop} (hQ:¬LetsOut Q):∀ (rest:List Oper) (a:Act) (w:World),(∀ o∈rest,nodf o=true)→wpList P ops Q rest a w→wpListIn (Fence.wide.inRound l) n P ops Q rest a w
 | [],_,_,_,h=>h
 | o :: rest,a,w,hd,h=>by
  have ih:=fun (a:Act) (w:World) (h:wpList P ops Q rest a w)=>list_round (l:=l) (n:=n) hQ rest a w (fun o ho=>hd o (List.mem_cons_of_mem _ ho)) h
  unfold wpList at h
  unfold wpListIn
  split
  ·rename_i hw
   rw[if_pos hw] at h
   rcases h with h | ⟨_,h⟩
   ·exact op_round (hd o List.mem_cons_self) (Oper.wp_mono ih h)
   ·exact absurd h hQ
  ·rename_i hw
   rw[if_neg hw] at h
   exact⟨fun _ _=>trivial,ih _ _ h⟩
theorem any_round {l n:Nat} {P:Program} {md:Region.Mode} {ops:Array Oper} {Q:Exit→Act→World→Prop} (hQ:¬LetsOut Q) (hd:∀ (i:Nat) (o:Oper),ops[i]?=some o→nodf o=true):∀ (fuel:Nat) (listed:Array Bool) (a:Act) (w:World),wpAny P md ops Q fuel listed a w→wpAnyIn (Fence.wide.inRound l) n P md ops Q fuel listed a w
 | 0,_,_,_,h=>h
 | fuel+1,listed,a,w,h=>by
  refine⟨h.1,fun i hi=>?_⟩
  have h1:=h.2 i hi
  unfold wpOp at h1
  unfold wpOpIn
  split
  ·rename_i ho
   rw[ho] at h1
   exact any_round hQ hd fuel _ a w h1
  ·rename_i o ho
   rw[ho] at h1
   dsimp only at h1
   split
   ·rename_i hw
    rw[if_pos hw] at h1
    rcases h1 with h1 | ⟨_,h1⟩
    ·exact op_round (hd i o ho) (Oper.wp_mono (fun a w h=>any_round hQ hd fuel _ a w h) h1)
    ·exact absurd h1 hQ
   ·rename_i hw
    rw[if_neg hw] at h1
    exact⟨fun _ _=>trivial,any_round hQ hd fuel _ _ _ h1⟩
theorem region_round {l n:Nat} {P:Program} {id:Nat} {ops:List Oper} {Q:Exit→Act→World→Prop} {a:Act} {w:World} (hQ:¬LetsOut Q) (hd:ops.all nodf=true) (h:wpList P ops.toArray Q ops a w):(Code.region id ops.toArray false).wpIn (Fence.wide.inRound l) n P Q a w :=
 wpIn_region_lit (list_round hQ _ _ _ (fun o ho=>List.all_eq_true.1 hd o ho) h)
theorem held_round {l n:Nat} {P:Program} {id:Nat} {ops:Array Oper} {Q:Exit→Act→World→Prop} {S:World→Prop} {a:Act} {w:World} (hm:P.follows .mixedOrders=true) (hQ:¬LetsOut Q) (hd:ops.all nodf=true)
  (h:wpAnyH P .any ops Q S ops.size (Array.replicate ops.size false) a w.drew):(Code.region id ops true).wpIn (Fence.wide.inRound l) n P Q a w :=
 wpIn_region_any hm (any_round hQ (fun i o ho=>by
  obtain⟨hi,rfl⟩:=Array.getElem?_eq_some_iff.1 ho
  exact Array.all_eq_true.1 hd i hi) _ _ _ _ (wpAny_of_held _ _ _ _ h))
end Go.Proofs.YtbilamnnneddmaaGreatDoor
namespace Go.Proofs.YtbilamnnneddmaaGreatDoor
set_option linter.unusedVariables false
set_option maxRecDepth 2000
set_option linter.unusedSimpArgs false
set_option linter.unusedVariables false
open Go.RowKit
def goesOn (J:World→Prop) (W0:World):Exit→Act→World→Prop
 | .normal,_,W'=>KeepsOthers W0 W'∧J W'
 | _,_,_=>False
def Odd (l:Nat) (W:World):Prop:=∃ o,W.heap[l]?=some o∧o.isCells=false
theorem range_book {α σ:Type} {n:Nat} {P:Program} {g:Operand} {ps:Array Tmp} {assign body:Code} {Q:Exit→Act→World→Prop} {a:Act} {w:World}
  {gf:Nat} {lb:Array Value} (hg:a.eval g = .func (.func gf) #[] lb) (eg:∀ args w,(callFunc gf args).run P w = .ok (.enter gf args) w)
  {encs:α→Array Value} (hps:∀ x,(encs x).size=ps.size)
  (I0:World→Prop) (J:σ→World→Prop) (ok:σ→α→Prop) (st:σ→α→σ) (Done:World→Prop)
  (h0:∀ o o',I0 ((w.alloc o).alloc o'))
  (hJ:∀ s W l o,J s W→w.heap.size≤l→Odd l W→J s (W.putObj l o))
  (hD:∀ W l o,Done W→w.heap.size≤l→Odd l W→Done (W.putObj l o))
  (hround:∀ l s x W,w.heap.size<l→J s W→ok s x→Odd l W →
   assign.wpIn (Fence.wide.inRound l) (n - 1 - 1) P (Exit.then (fun a₁ W₁=>KeepsOthers W W₁∧∀ o,body.wpIn (Fence.wide.inRound l) (n - 1 - 1) P (goesOn (J (st s x)) (W₁.putObj l o)) a₁ (W₁.putObj l o)) (fun _ _ _=>False))
    { tmps:=(ps.zip (encs x)).foldl (fun t (p,v)=>t.setIfInBounds p v) a.tmps,defers:=[] } W)
  (hiter:∀ (l:Nat) (Bk:World→Prop) (W1:World),Below w.heap.size w W1→(∀ W W',Bk W→KeepsOthers W W'→Bk W')→Bk W1→I0 W1 →
   (∀ s x W,Bk W→J s W→ok s x→YieldAt Fence.wide (n - 1 - 1) P l (encs x) W fun e W'=>e = .returned (.bool true)∧Bk W'∧J (st s x) W') →
   CallsIn Fence.wide (n - 1) P gf (#[.func (.yield l) #[] #[]] ++ lb) W1 fun e W'=>(∃ v,e = .returned v)∧Bk W'∧Done W')
  (hdone:∀ D W,w.heap.size≤D→Done W→W.heap[D]?=some (.deferred (some []))→Q .normal { a with defers := { target := .collected D,args:=#[] } :: a.defers } W) :
  (Code.rangeFunc g ps assign body).wpIn Fence.wide n P Q a w:=by
 refine wpIn_rangeFunc fun fn hfn=>?_
 rw[show Fence.wide.round=none from rfl]
 obtain⟨rec,hrec⟩:∃ rec:LoopState→Loop,rec=fun s => { state:=s,pending:=none,fn,tmps:=a.tmps,params:=ps,assign,body,defers:=w.heap.size }:=⟨_,rfl⟩
 obtain⟨W1,hW1⟩:∃ W1,(w.alloc (.deferred (some []))).alloc (.loop (rec .ready))=W1:=⟨_,rfl⟩
 have hL1:W1.heap[w.heap.size+1]?=some (.loop (rec .ready)):=by
  have:=World.alloc_heap_new (w.alloc (.deferred (some []))) (.loop (rec .ready))
  rwa [World.size_alloc,hW1] at this
 have hK1:W1.heap[w.heap.size]?=some (.deferred (some [])):=by
  rw[← hW1]
  exact (Below.heap_alloc _ _ _ (by simp)).trans (World.alloc_heap_new w _)
 have hB1:Below w.heap.size w W1:=hW1 ▸ ((Below.refl _ w).alloc (Nat.le_refl _) _).alloc (by simp) _
 have hI1:I0 W1:=hW1 ▸ h0 _ _
 refine⟨w.heap.size+1,[{ target := .collected w.heap.size,args:=#[] }],W1,{ target := .fn (.func gf) lb,args:=#[.func (.yield (w.heap.size+1)) #[] #[]] },W1,gf,#[.func (.yield (w.heap.size+1)) #[] #[]] ++ lb,W1,?_,?_,fun _ _=>trivial,?_,(fun h=>by cases h),?_⟩
 ·rw[← hW1,hrec]
  exact run_enterLoop_outer _ _ _ _ _
 ·simp only[resolve,hg]
  simp[go_sem]
 ·simp[invoke,go_sem,eg]
 ·refine (hiter (w.heap.size+1) (fun W=>W.heap[w.heap.size+1]?=some (.loop (rec .ready))∧W.heap[w.heap.size]?=some (.deferred (some []))) W1 hB1
   (fun W W' h k=>⟨k.same _ _ h.1 rfl,k.same _ _ h.2 rfl⟩) ⟨hL1,hK1⟩ hI1 ?_).mono ?_
  ·rintro s x W ⟨hl,hk⟩ hj hok
   have hlt:w.heap.size+1<W.heap.size:=(Array.getElem?_eq_some_iff.1 hl).1
   have hy:=run_yield (P:=P) (args:=encs x) hl (by rw[hrec];exact hps x)
   rw[hrec] at hy
   refine⟨fn,_,assign,body,hy,roundIn_of_wpIn hfn (wpIn_mono (hround (w.heap.size+1) s x W (Nat.lt_succ_self _) hj hok ⟨_,hl,rfl⟩) ?_)⟩
   rintro e a1 W2 hp
   cases e with
   | normal =>
    obtain⟨hk2,hb⟩:=hp
    have hl2:=hk2.same _ _ hl rfl
    have hlt2:=(Array.getElem?_eq_some_iff.1 hl2).1
    refine⟨_,run_beginRound hl2 (by rw[hrec]),wpIn_mono (hb _) ?_⟩
    rintro e3 a3 W3 hp3
    cases e3 with
    | normal =>
     obtain⟨hk3,hj3⟩:=hp3
     have hl3:=hk3.same _ _ (World.putObj_heap_same hlt2) rfl
     have hd3:=hk3.same _ _ ((World.putObj_heap_other (show w.heap.size≠w.heap.size+1 by omega)).trans (hk2.same _ _ hk rfl)) rfl
     have he:=run_endRound (P:=P) none hl3
     rw[hrec] at he ⊢
     refine⟨_,_,he,rfl,⟨World.putObj_heap_same (Array.getElem?_eq_some_iff.1 hl3).1,(World.putObj_heap_other (by omega)).trans hd3⟩,hJ _ _ _ _ hj3 (by omega) ⟨_,hl3,rfl⟩⟩
    | _=>exact hp3.elim
   | _=>exact hp.elim
  ·rintro e W2 ⟨⟨v,rfl⟩,⟨hl,hk⟩,hd⟩
   have he:=run_endLoop (P:=P) hl (by rw[hrec];simp)
   rw[hrec] at he
   exact⟨none,_,he,hdone _ _ (Nat.le_refl _) (hD _ _ _ hd (by omega) ⟨_,hl,rfl⟩) ((World.putObj_heap_other (by omega)).trans hk)⟩
end Go.Proofs.YtbilamnnneddmaaGreatDoor
namespace Go.Proofs.YtbilamnnneddmaaGreatDoor
set_option linter.unusedVariables false
set_option maxRecDepth 2000
set_option linter.unusedSimpArgs false
open Go.RowKit
theorem odd_ne {l b o:Nat} {v:Value} {W:World} (h:Odd l W) (hc:W.cell? ⟨b,o,none⟩=some v):b≠l:=fun e=>by
 subst e
 obtain⟨ob,h1,h2⟩:=h
 obtain⟨o2,h3,h4⟩:=cells_of_cell hc
 rw[h1] at h3
 injection h3 with h3
 rw[h3,h4] at h2
 cases h2
theorem Odd.lt {l:Nat} {W:World} (h:Odd l W):l<W.heap.size:=by
 obtain⟨o,h1,_⟩:=h
 exact (Array.getElem?_eq_some_iff.1 h1).1
theorem putObj_below {B l:Nat} {w W:World} {o:Obj} (h:Below B w W) (hl:B≤l):Below B w (W.putObj l o) :=
 h.trans ⟨rfl,rfl,rfl,by rw[World.putObj_size];exact Nat.le_refl _,fun i hi=>World.putObj_heap_other (by omega)⟩
theorem But.putObj {l:Nat} {W:World} {o:Obj}:But l W (W.putObj l o):=⟨putObj_below (Below.refl _ _) (Nat.le_refl _),fun i _ hn=>World.putObj_heap_other hn⟩
theorem Own.odd {b l:Nat} {v:Value} {cs:List Value} {W:World} {o:Obj} (h:Own b (v :: cs) W) (hl:Odd l W):Own b (v :: cs) (W.putObj l o) :=
 h.but But.putObj (odd_ne hl (h.at 0 v rfl))
theorem row_odd {W:World} {base size n l:Nat} {e:TypeId} {v:Value} {xs:List Value} {o:Obj} (h:W.ownsRow base e size v n xs) (hl:Odd l W):(W.putObj l o).ownsRow base e size v n xs:=by
 refine row_but h But.putObj ?_
 rcases h.2 with ⟨rfl,_⟩ | ⟨g,cap,cur,rfl,_,hg,_⟩
 ·simp[Value.ownBlock]
 ·simp only[Value.ownBlock,ne_eq,Option.some.injEq]
  rintro rfl
  obtain⟨ob,h1,h2⟩:=hl
  rw[hg] at h1
  injection h1 with h1
  rw[← h1] at h2
  cases h2
theorem Has.odd {b i l:Nat} {v:Value} {cs:List Value} {W:World} {o:Obj} (h:Has b i (v :: cs) W) (hl:Odd l W):Has b i (v :: cs) (W.putObj l o) :=
 h.but But.putObj (odd_ne hl (h.at 0 v rfl))
theorem NmS.odd {W:World} {s n l:Nat} {q:Option Addr} {f:Nat→Int} {o:Obj} (h:NmS W s q n f) (hl:Odd l W):NmS (W.putObj l o) s q n f:=by
 rcases h with h | ⟨b,off,h1,h2⟩
 ·exact .inl h
 ·by_cases h0:n*s=0
  ·refine .inr ⟨b,off,h1,⟨by rw[World.putObj_size];exact h2.lt,fun j v hv=>?_⟩⟩
   rw[h0] at hv
   cases hv
  ·obtain⟨k,hk⟩:∃ k,n*s=k+1:=⟨n*s - 1,by omega⟩
   refine .inr ⟨b,off,h1,?_⟩
   rw[hk] at h2 ⊢
   exact h2.but But.putObj (odd_ne hl (h2.at 0 (.int .i64 (f 0)) (nums_at _ _ (by omega))))
end Go.Proofs.YtbilamnnneddmaaGreatDoor
namespace Go.Proofs.YtbilamnnneddmaaGreatDoor
set_option linter.unusedVariables false
set_option maxRecDepth 2000
set_option linter.unusedSimpArgs false
open Go.RowKit
def sdF (s:Nat):Nat→Nat
 | 0=>s
 | k+1=>sdF s k/2
def lvF (f:Nat→Int) (s:Nat):Nat→Nat→Int
 | 0=>f
 | k+1=>hlfF (lvF f s k) (sdF s k) (sdF s (k+1))
def LastK (s K:Nat):Prop:=1≤K∧sdF s (K - 1)=1∧∀ j,j+1<K→2≤sdF s j
structure LvOk (f:Nat→Int) (s j:Nat) (M:Txr):Prop where
 S:M.S=(sdF s j:Int)
 n:M.n=sdF s j*sdF s j
 f:M.f=lvF f s j
def cellsX (X:Nat→Txr):Nat→List Value
 | 0=>[]
 | k+1=>cellsX X k ++ [.int .i64 (X k).S,.slice (X k).q (X k).n (X k).c]
theorem cellsX_congr {X Y:Nat→Txr}:∀ {k:Nat},(∀ j,j<k→X j=Y j)→cellsX X k=cellsX Y k
 | 0,_=>rfl
 | k+1,h=>by
  show cellsX X k ++ _=cellsX Y k ++ _
  rw[cellsX_congr (k:=k) (fun j hj=>h j (by omega)),h k (by omega)]
def updX (X:Nat→Txr) (k:Nat) (M:Txr) (j:Nat):Txr:=if j=k then M else X j
theorem updX_same (X:Nat→Txr) (k:Nat) (M:Txr):updX X k M k=M:=if_pos rfl
theorem updX_other {X:Nat→Txr} {k j:Nat} {M:Txr} (h:j≠k):updX X k M j=X j:=if_neg h
theorem cellsX_upd (X:Nat→Txr) (k:Nat) (M:Txr):cellsX X k ++ [.int .i64 M.S,.slice M.q M.n M.c]=cellsX (updX X k M) (k+1):=by
 show _=cellsX (updX X k M) k ++ [.int .i64 (updX X k M k).S,.slice (updX X k M k).q (updX X k M k).n (updX X k M k).c]
 rw[updX_same,cellsX_congr (k:=k) (fun j hj=>(updX_other (Nat.ne_of_lt hj)).symm)]
structure LvOut (f:Nat→Int) (s:Nat) (v:Value) (K:Nat) (X:Nat→Txr) (W:World):Prop where
 r:∃ g c,v = .slice (some ⟨g,0,none⟩) K c∧K≤c∧c≤9223372036854775807∧Has g 0 (cellsX X K) W
 k:LastK s K
 x:∀ j,j<K→TxAt (X j) W∧LvOk f s j (X j)
theorem LvOut.later {f:Nat→Int} {s K:Nat} {v:Value} {X:Nat→Txr} {W W':World} (h:LvOut f s v K X W) (hb:Below W.heap.size W W'):LvOut f s v K X W':=by
 obtain⟨g,c,h1,h2,h3,h4⟩:=h.r
 exact⟨⟨g,c,h1,h2,h3,h4.later hb⟩,h.k,fun j hj=>⟨(h.x j hj).1.later hb,(h.x j hj).2⟩⟩
end Go.Proofs.YtbilamnnneddmaaGreatDoor
namespace Go.Proofs.YtbilamnnneddmaaGreatDoor
set_option linter.unusedVariables false
set_option maxRecDepth 2000
set_option linter.unusedSimpArgs false
open Go.RowKit
end Go.Proofs.YtbilamnnneddmaaGreatDoor
namespace Go.Proofs.YtbilamnnneddmaaGreatDoor
set_option linter.unusedVariables false
set_option maxRecDepth 2000
set_option linter.unusedSimpArgs false
open Go.RowKit
structure RowT (M:Txr) (W:World):Prop where
 n:1≤M.n
 r:∃ base,W.ownsRow base 37 3 (.slice M.q M.n M.c) M.n (nums .i64 M.f (M.n*3))
theorem RowT.later {M:Txr} {W W':World} (h:RowT M W) (hb:Below W.heap.size W W'):RowT M W':=by
 obtain⟨b,hr⟩:=h.r
 exact⟨h.n,b,row_later hr hb⟩
theorem RowT.odd {M:Txr} {l:Nat} {W:World} {o:Obj} (h:RowT M W) (hl:Odd l W):RowT M (W.putObj l o):=by
 obtain⟨b,hr⟩:=h.r
 exact⟨h.n,b,row_odd hr hl⟩
theorem RowT.at {M:Txr} {W:World} (h:RowT M W):TxAt M W:=by
 obtain⟨b,hr⟩:=h.r
 have hc:=row_cap_ hr
 have hn:=h.n
 obtain⟨S,q,n,c,f⟩:=M
 dsimp only at *
 rcases hr.2 with ⟨_,h0⟩ | ⟨g,cap,_,hv,_⟩
 ·omega
 ·have e:q=some ⟨g,0,none⟩:=by injection hv
  subst e
  exact⟨.inr ⟨g,0,rfl,(row_has' hr).1⟩,hc.1,hc.2⟩
theorem RowT.grown {M:Txr} {W W':World} {row:Option Nat} {base' n' s':Nat} {e':TypeId} {v':Value} {xs':List Value} (h:RowT M W) (hg:W.grownBy W' row) (hv:row=v'.ownBlock) (hr':W.ownsRow base' e' s' v' n' xs') (he:37≠e'):RowT M W':=by
 obtain⟨b,hr⟩:=h.r
 subst hv
 exact⟨h.n,b,hr.kept hg (rows_ne hr hr' he)⟩
def Away (L:Nat) (M:Txr):Prop:=(Value.slice M.q M.n M.c).ownBlock≠some L
theorem RowT.far {M:Txr} {L:Nat} {W:World} {vs:List Value} (h:RowT M W) (ha:Away L M):RowT M (W.setCells L 0 vs):=by
 obtain⟨b,hr⟩:=h.r
 exact⟨h.n,b,row_far hr ha 0 vs⟩
theorem RowT.away {M:Txr} {W:World} (h:RowT M W):Away W.heap.size M:=by
 obtain⟨b,hr⟩:=h.r
 exact row_new hr (Nat.le_refl _)
structure LvS where
 L:Nat
 k:Nat
 X:Nat→Txr
 M:Txr
def LvS.next (σ:LvS) (x:Txr):LvS:=⟨σ.L,σ.k+1,updX σ.X σ.k x,σ.M⟩
structure LvJ (w:World) (B:Nat) (f:Nat→Int) (s:Nat) (σ:LvS) (W:World):Prop where
 b:∃ p c,Own B [.slice p σ.k c] W∧W.ownsRow (σ.L+1) 36 2 (.slice p σ.k c) σ.k (cellsX σ.X σ.k)
 x:∀ j,j<σ.k→RowT (σ.X j) W∧LvOk f s j (σ.X j)
 y:∀ j,j<σ.k→Away σ.L (σ.X j)∧Away B (σ.X j)
 ma:Away σ.L σ.M∧Away B σ.M
 l:Own σ.L [.int .i64 σ.M.S,.slice σ.M.q σ.M.n σ.M.c] W
 m:RowT σ.M W
 o:B<σ.L
 h:w.heap.size≤B
 z:Below w.heap.size w W
theorem LvJ.later {w:World} {B s:Nat} {f:Nat→Int} {σ:LvS} {W W':World} (h:LvJ w B f s σ W) (hb:Below W.heap.size W W'):LvJ w B f s σ W':=by
 obtain⟨p,c,h1,h2⟩:=h.b
 exact⟨⟨p,c,h1.later hb,row_later h2 hb⟩,fun j hj=>⟨(h.x j hj).1.later hb,(h.x j hj).2⟩,h.y,h.ma,h.l.later hb,h.m.later hb,h.o,h.h,Below.go h.z hb⟩
theorem LvJ.odd {w:World} {B s l:Nat} {f:Nat→Int} {σ:LvS} {W:World} {o:Obj} (h:LvJ w B f s σ W) (hw:w.heap.size≤l) (hl:Odd l W):LvJ w B f s σ (W.putObj l o):=by
 obtain⟨p,c,h1,h2⟩:=h.b
 exact⟨⟨p,c,h1.odd hl,row_odd h2 hl⟩,fun j hj=>⟨(h.x j hj).1.odd hl,(h.x j hj).2⟩,h.y,h.ma,h.l.odd hl,h.m.odd hl,h.o,h.h,putObj_below h.z hw⟩
theorem LvJ.step {w:World} {B s:Nat} {f:Nat→Int} {σ:LvS} {W:World} {M:Txr} (h:LvJ w B f s σ W) (hm:RowT M W) (hM:Away σ.L M∧Away B M) :
  LvJ w B f s ⟨σ.L,σ.k,σ.X,M⟩ (W.setCells σ.L 0 [.int .i64 M.S,.slice M.q M.n M.c]):=by
 obtain⟨p,c,h1,h2⟩:=h.b
 exact⟨⟨p,c,h1.far (Nat.ne_of_lt h.o),row_far h2 (row_ne h2 (Nat.lt_succ_self _)) 0 _⟩,fun j hj=>⟨(h.x j hj).1.far (h.y j hj).1,(h.x j hj).2⟩,h.y,hM,Own.store h.l rfl,hm.far hM.1,h.o,h.h,Below.setCells h.z (Nat.le_trans h.h (Nat.le_of_lt h.o)) _ _⟩
structure LvI (w:World) (B A:Nat) (T:Txr) (W:World):Prop where
 b:Own B [.slice none 0 0] W
 a:Own A [.int .i64 T.S,.slice T.q T.n T.c] W
 t:RowT T W
 tb:Away B T
 h:w.heap.size≤B
 z:Below w.heap.size w W
theorem LvI.later {w:World} {B A:Nat} {T:Txr} {W W':World} (h:LvI w B A T W) (hb:Below W.heap.size W W'):LvI w B A T W':=⟨h.b.later hb,h.a.later hb,h.t.later hb,h.tb,h.h,Below.go h.z hb⟩
end Go.Proofs.YtbilamnnneddmaaGreatDoor
namespace Go.Proofs.YtbilamnnneddmaaGreatDoor
set_option linter.unusedVariables false
set_option maxRecDepth 2000
set_option linter.unusedSimpArgs false
open Go.RowKit
theorem Odd.later {l:Nat} {W W':World} (h:Odd l W) (hb:Below W.heap.size W W'):Odd l W':=by
 obtain⟨o,h1,h2⟩:=h
 exact⟨o,(hb.block l (Array.getElem?_eq_some_iff.1 h1).1).trans h1,h2⟩
theorem row_cells {W:World} {base n size:Nat} {e:TypeId} {v:Value} {xs:List Value} (h:W.ownsRow base e size v n xs):∀ (j:Nat) (o:Obj),v.ownBlock=some j→W.heap[j]?=some o→o.isCells=true:=fun j o hj ho=>by
 rcases h.2 with ⟨rfl,_⟩ | ⟨g,cap,cur,rfl,_,hg,_⟩
 ·cases hj
 ·simp only[Value.ownBlock,Option.some.injEq] at hj
  subst hj
  rw[hg] at ho
  injection ho with ho
  rw[← ho]
  rfl
theorem LvJ.body {w:World} {B s:Nat} {f:Nat→Int} {σ:LvS} {W W':World} {x:Txr} {p:Option Addr} {c:Nat} {v':Value} (h:LvJ w B f s σ W) (e:x=σ.M) (hx:LvOk f s σ.k x)
  (hr:W.ownsRow (σ.L+1) 36 2 (.slice p σ.k c) σ.k (cellsX σ.X σ.k)) (hg:W.grownBy W' (Value.slice p σ.k c).ownBlock) (hb:Own B [.slice p σ.k c] W)
  (hr':W'.ownsRow (σ.L+1) 36 2 v' (σ.k+1) (cellsX σ.X σ.k ++ [.int .i64 x.S,.slice x.q x.n x.c])):LvJ w B f s (σ.next x) (W'.setCells B 0 [v']):=by
 subst e
 obtain⟨q,d,rfl,_⟩:=row_form hr'
 have nb:∀ {b:Nat},b<σ.L+1→(Value.slice p σ.k c).ownBlock≠some b:=fun hb=>row_ne hr hb
 have rt:∀ {Y:Txr},RowT Y W→Away B Y→RowT Y (W'.setCells B 0 [.slice q (σ.k+1) d]):=fun {Y} hY ha=>(hY.grown hg rfl hr (by decide)).far ha
 refine⟨⟨q,d,Own.store (hb.grown hg (nb (by have:=h.o;omega))) rfl,?_⟩,?_,?_,h.ma,(h.l.grown hg (nb (Nat.lt_succ_self _))).far (Nat.ne_of_gt h.o),rt h.m h.ma.2,h.o,h.h,?_⟩
 ·have:=row_far hr' (row_ne hr' (show B<σ.L+1 by have:=h.o;omega)) 0 [.slice q (σ.k+1) d]
  rw[cellsX_upd] at this
  exact this
 ·intro j hj
  show RowT (updX σ.X σ.k σ.M j) _∧LvOk f s j (updX σ.X σ.k σ.M j)
  by_cases hjk:j=σ.k
  ·subst hjk
   rw[updX_same]
   exact⟨rt h.m h.ma.2,hx⟩
  ·rw[updX_other hjk]
   have hj2:j<σ.k:=by have:j<σ.k+1:=hj;omega
   exact⟨rt (h.x j hj2).1 (h.y j hj2).2,(h.x j hj2).2⟩
 ·intro j hj
  show Away σ.L (updX σ.X σ.k σ.M j)∧Away B (updX σ.X σ.k σ.M j)
  by_cases hjk:j=σ.k
  ·rw[hjk,updX_same];exact h.ma
  ·rw[updX_other hjk]
   exact h.y j (by have:j<σ.k+1:=hj;omega)
 ·exact Below.setCells (h.z.grown hg (by have:=h.z.size;omega) (fun k hk=>Nat.le_trans (by have:=h.o;have:=h.h;omega) (row_ge hr k hk))) h.h _ _
theorem then_lets {K:Act→World→Prop}:¬LetsOut (Exit.then K (fun _ _ _=>False)):=fun ⟨_,_,h⟩=>h
theorem block_lets {id:Nat} {J:World→Prop} {W0:World}:¬LetsOut (Exit.inBlock id (goesOn J W0)):=fun ⟨_,_,h⟩=>h
end Go.Proofs.YtbilamnnneddmaaGreatDoor
namespace Go.Proofs.YtbilamnnneddmaaGreatDoor
set_option linter.unusedVariables false
set_option maxRecDepth 2000
set_option linter.unusedSimpArgs false
set_option linter.unusedVariables false
open Go.RowKit
def goesOr (J St:World→Prop) (W0:World):Exit→Act→World→Prop
 | .normal,_,W'=>KeepsOthers W0 W'∧J W'
 | .ret,_,W'=>KeepsOthers W0 W'∧St W'
 | _,_,_=>False
theorem range_stop {α σ:Type} {n:Nat} {P:Program} {g:Operand} {ps:Array Tmp} {assign body:Code} {Q:Exit→Act→World→Prop} {a:Act} {w:World}
  {gf:Nat} {lb:Array Value} (hg:a.eval g = .func (.func gf) #[] lb) (eg:∀ args w,(callFunc gf args).run P w = .ok (.enter gf args) w)
  {encs:α→Array Value} (hps:∀ x,(encs x).size=ps.size)
  (I0:World→Prop) (J:σ→World→Prop) (ok:σ→α→Prop) (st:σ→α→σ) (Done St:World→Prop)
  (h0:∀ o o',I0 ((w.alloc o).alloc o'))
  (hJ:∀ s W l o,J s W→w.heap.size≤l→Odd l W→J s (W.putObj l o))
  (hD:∀ W l o,Done W→w.heap.size≤l→Odd l W→Done (W.putObj l o))
  (hS:∀ W l o,St W→w.heap.size≤l→Odd l W→St (W.putObj l o))
  (hround:∀ l s x W,w.heap.size<l→J s W→ok s x→Odd l W →
   assign.wpIn (Fence.wide.inRound l) (n - 1 - 1) P (Exit.then (fun a₁ W₁=>KeepsOthers W W₁∧∀ o,body.wpIn (Fence.wide.inRound l) (n - 1 - 1) P (goesOr (J (st s x)) St (W₁.putObj l o)) a₁ (W₁.putObj l o)) (fun _ _ _=>False))
    { tmps:=(ps.zip (encs x)).foldl (fun t (p,v)=>t.setIfInBounds p v) a.tmps,defers:=[] } W)
  (hiter:∀ (l:Nat) (Bk Bx:World→Prop) (W1:World),Below w.heap.size w W1→(∀ W W',Bk W→KeepsOthers W W'→Bk W')→Bk W1→I0 W1 →
   (∀ s x W,Bk W→J s W→ok s x→YieldAt Fence.wide (n - 1 - 1) P l (encs x) W fun e W'=>(e = .returned (.bool true)∧Bk W'∧J (st s x) W')∨(e = .returned (.bool false)∧Bx W'∧St W')) →
   CallsIn Fence.wide (n - 1) P gf (#[.func (.yield l) #[] #[]] ++ lb) W1 fun e W'=>(∃ v,e = .returned v)∧((Bk W'∧Done W')∨(Bx W'∧St W')))
  (hdone:∀ D W,w.heap.size≤D→Done W→W.heap[D]?=some (.deferred (some []))→Q .normal { a with defers := { target := .collected D,args:=#[] } :: a.defers } W)
  (hstop:∀ D W,w.heap.size≤D→St W→W.heap[D]?=some (.deferred (some []))→Q .ret { a with defers := { target := .collected D,args:=#[] } :: a.defers } W) :
  (Code.rangeFunc g ps assign body).wpIn Fence.wide n P Q a w:=by
 refine wpIn_rangeFunc fun fn hfn=>?_
 rw[show Fence.wide.round=none from rfl]
 obtain⟨rec,hrec⟩:∃ rec:LoopState→Loop,rec=fun s => { state:=s,pending:=none,fn,tmps:=a.tmps,params:=ps,assign,body,defers:=w.heap.size }:=⟨_,rfl⟩
 obtain⟨W1,hW1⟩:∃ W1,(w.alloc (.deferred (some []))).alloc (.loop (rec .ready))=W1:=⟨_,rfl⟩
 have hL1:W1.heap[w.heap.size+1]?=some (.loop (rec .ready)):=by
  have:=World.alloc_heap_new (w.alloc (.deferred (some []))) (.loop (rec .ready))
  rwa [World.size_alloc,hW1] at this
 have hK1:W1.heap[w.heap.size]?=some (.deferred (some [])):=by
  rw[← hW1]
  exact (Below.heap_alloc _ _ _ (by simp)).trans (World.alloc_heap_new w _)
 have hB1:Below w.heap.size w W1:=hW1 ▸ ((Below.refl _ w).alloc (Nat.le_refl _) _).alloc (by simp) _
 have hI1:I0 W1:=hW1 ▸ h0 _ _
 refine⟨w.heap.size+1,[{ target := .collected w.heap.size,args:=#[] }],W1,{ target := .fn (.func gf) lb,args:=#[.func (.yield (w.heap.size+1)) #[] #[]] },W1,gf,#[.func (.yield (w.heap.size+1)) #[] #[]] ++ lb,W1,?_,?_,fun _ _=>trivial,?_,(fun h=>by cases h),?_⟩
 ·rw[← hW1,hrec]
  exact run_enterLoop_outer _ _ _ _ _
 ·simp only[resolve,hg]
  simp[go_sem]
 ·simp[invoke,go_sem,eg]
 ·refine (hiter (w.heap.size+1) (fun W=>W.heap[w.heap.size+1]?=some (.loop (rec .ready))∧W.heap[w.heap.size]?=some (.deferred (some []))) (fun W=>(∃ rx,W.heap[w.heap.size+1]?=some (.loop rx)∧rx.state = .done∧rx.pending=some .ret)∧W.heap[w.heap.size]?=some (.deferred (some []))) W1 hB1
   (fun W W' h k=>⟨k.same _ _ h.1 rfl,k.same _ _ h.2 rfl⟩) ⟨hL1,hK1⟩ hI1 ?_).mono ?_
  ·rintro s x W ⟨hl,hk⟩ hj hok
   have hlt:w.heap.size+1<W.heap.size:=(Array.getElem?_eq_some_iff.1 hl).1
   have hy:=run_yield (P:=P) (args:=encs x) hl (by rw[hrec];exact hps x)
   rw[hrec] at hy
   refine⟨fn,_,assign,body,hy,roundIn_of_wpIn hfn (wpIn_mono (hround (w.heap.size+1) s x W (Nat.lt_succ_self _) hj hok ⟨_,hl,rfl⟩) ?_)⟩
   rintro e a1 W2 hp
   cases e with
   | normal =>
    obtain⟨hk2,hb⟩:=hp
    have hl2:=hk2.same _ _ hl rfl
    have hlt2:=(Array.getElem?_eq_some_iff.1 hl2).1
    refine⟨_,run_beginRound hl2 (by rw[hrec]),wpIn_mono (hb _) ?_⟩
    rintro e3 a3 W3 hp3
    cases e3 with
    | normal =>
     obtain⟨hk3,hj3⟩:=hp3
     have hl3:=hk3.same _ _ (World.putObj_heap_same hlt2) rfl
     have hd3:=hk3.same _ _ ((World.putObj_heap_other (show w.heap.size≠w.heap.size+1 by omega)).trans (hk2.same _ _ hk rfl)) rfl
     have he:=run_endRound (P:=P) none hl3
     rw[hrec] at he ⊢
     refine⟨_,_,he,.inl ⟨rfl,⟨World.putObj_heap_same (Array.getElem?_eq_some_iff.1 hl3).1,(World.putObj_heap_other (by omega)).trans hd3⟩,hJ _ _ _ _ hj3 (by omega) ⟨_,hl3,rfl⟩⟩⟩
    | ret =>
     obtain⟨hk3,hj3⟩:=hp3
     have hl3:=hk3.same _ _ (World.putObj_heap_same hlt2) rfl
     have hd3:=hk3.same _ _ ((World.putObj_heap_other (show w.heap.size≠w.heap.size+1 by omega)).trans (hk2.same _ _ hk rfl)) rfl
     have he:=run_endRound (P:=P) (some .ret) hl3
     rw[hrec] at he ⊢
     refine⟨_,_,he,.inr ⟨rfl,⟨⟨_,World.putObj_heap_same (Array.getElem?_eq_some_iff.1 hl3).1,rfl,rfl⟩,(World.putObj_heap_other (by omega)).trans hd3⟩,hS _ _ _ hj3 (by omega) ⟨_,hl3,rfl⟩⟩⟩
    | _=>exact hp3.elim
   | _=>exact hp.elim
  ·rintro e W2 ⟨⟨v,rfl⟩,(⟨⟨hl,hk⟩,hd⟩ | ⟨⟨⟨rx,hl,hx1,hx2⟩,hk⟩,hd⟩)⟩
   ·have he:=run_endLoop (P:=P) hl (by rw[hrec];simp)
    rw[hrec] at he
    exact⟨none,_,he,hdone _ _ (Nat.le_refl _) (hD _ _ _ hd (by omega) ⟨_,hl,rfl⟩) ((World.putObj_heap_other (by omega)).trans hk)⟩
   ·have he:=run_endLoop (P:=P) hl (by rw[hx1];simp)
    rw[hx2] at he
    exact⟨_,_,he,wpIn_ret (hstop _ _ (Nat.le_refl _) (hS _ _ _ hd (by omega) ⟨_,hl,rfl⟩) ((World.putObj_heap_other (by omega)).trans hk))⟩
end Go.Proofs.YtbilamnnneddmaaGreatDoor
namespace Go.Proofs.YtbilamnnneddmaaGreatDoor
set_option linter.unusedVariables false
set_option maxRecDepth 2000
set_option linter.unusedSimpArgs false
open Go.RowKit
def sdN (F:Nat→Int) (N:Nat):Nat:=(valN F N 0 1).toNat
def needT (F:Nat→Int) (N:Nat):Nat:=1+sdN F N*sdN F N*3
def tdecE (F:Nat→Int) (N:Nat):Int:=if N<needT F N then 4 else if needT F N<N then 5 else chkT (sdN F N) (sdN F N*sdN F N) (fun j=>F (1+j))
theorem sdN_val {F:Nat→Int} {N:Nat} (hF:∀ j,j<N→inB (F j)):valN F N 0 1=(sdN F N:Int)∧sdN F N≤255:=by
 have h:=in_valN hF 0 1
 have p:=pw_vals.1
 unfold sdN
 omega
def dcS (F:Nat→Int) (N:Nat):Nat:=if tdecE F N=0 then sdN F N else 0
structure DecO (F:Nat→Int) (N:Nat) (Z:Txr):Prop where
 S:Z.S=(dcS F N:Int)
 n:Z.n=dcS F N*dcS F N
 f:∀ j,j<Z.n*3→Z.f j=F (1+j)
theorem tdec_zero {F:Nat→Int} {N:Nat} (h:tdecE F N≠0):DecO F N ⟨0,none,0,0,fun _=>0⟩ :=
 ⟨by show (0:Int)=_;rw[show dcS F N=0 from if_neg h];rfl,by show 0=_;rw[show dcS F N=0 from if_neg h],fun j hj=>absurd hj (Nat.not_lt_zero j)⟩
theorem dec_4 {F:Nat→Int} {N:Nat} (h:N<needT F N):tdecE F N=4:=if_pos h
theorem dec_5 {F:Nat→Int} {N:Nat} (h:needT F N<N):tdecE F N=5:=by unfold tdecE;rw[if_neg (by omega),if_pos h]
theorem dec_c {F:Nat→Int} {N:Nat} (h:N=needT F N):tdecE F N=chkT (sdN F N) (sdN F N*sdN F N) (fun j=>F (1+j)):=by unfold tdecE;rw[if_neg (by omega),if_neg (by omega)]
set_option maxHeartbeats 4000000 in
theorem Chunk_any (p:Option Addr) (n c:Nat) (w:World):Calls Tryz.prog 143 #[.slice p n c,.int .i64 3] w fun e w'=>∃ B1 B2,e = .returned (.func (.func 168) #[] #[.pointer (some ⟨B1,0,none⟩),.pointer (some ⟨B2,0,none⟩)])∧w.heap.size≤B1∧w.heap.size≤B2∧Own B1 [.slice p n c] w'∧Own B2 [.int .i64 3] w'∧Below w.heap.size w w':=by
 have hmf:∀ (fn:Fn) (first cap:Array Value) (w:World),(Instr.makeFunc fn first cap).run Tryz.prog w = .ok (.func fn first cap) w:=fun _ _ _ _=>rfl
 go_enter Tryz.func143,Tryz.ntmps143
 go_wp2_with (fail)
 go_ret
 exact⟨_,_,rfl,Nat.le_refl _,Nat.le_succ _,(Own.newAt rfl).alloc,Own.newAt (by simp),Below.al (Below.al (Below.refl _ _))⟩
end Go.Proofs.YtbilamnnneddmaaGreatDoor
namespace Go.Proofs.YtbilamnnneddmaaGreatDoor
set_option linter.unusedVariables false
set_option maxRecDepth 2000
set_option linter.unusedSimpArgs false
open Go.RowKit
structure DcP where
 Q:Nat
 T:Nat
 B1:Nat
 B2:Nat
 D:Nat
 RB:Nat
 S:Int
 n:Nat
 G:Nat→Int
 p:Option Addr
 c:Nat
structure DcO (w:World) (P:DcP):Prop where
 q:w.heap.size≤P.Q∧P.Q<P.RB
 t:w.heap.size≤P.T∧P.T<P.RB
 b1:P.B1<P.RB
 b2:P.B2<P.RB
 d:P.D<P.RB
 nQ:P.Q≠P.T
 n1:P.B1≠P.T
 n2:P.B2≠P.T
 nD:P.D≠P.T
 nn:P.n≤100000
 cc:P.n*3≤P.c∧P.c≤9223372036854775807
structure DcJ (w:World) (P:DcP) (k:Nat) (W:World):Prop where
 q:Own P.Q [.int .i64 0,.slice none 0 0] W
 t:∃ p c,Own P.T [.int .i64 P.S,.slice p k c] W∧W.ownsRow P.RB 37 3 (.slice p k c) k (nums .i64 P.G (k*3))
 b1:Own P.B1 [.slice P.p (P.n*3) P.c] W
 b2:Own P.B2 [.int .i64 3] W
 d:P.n=0∨(P.p=some ⟨P.D,0,none⟩∧Has P.D 0 (nums .u8 P.G (P.n*3)) W)
 z:Below w.heap.size w W
 r:P.RB≤W.heap.size
theorem DcJ.later {w:World} {P:DcP} {k:Nat} {W W':World} (h:DcJ w P k W) (hb:Below W.heap.size W W'):DcJ w P k W':=by
 obtain⟨p,c,h1,h2⟩:=h.t
 exact⟨h.q.later hb,⟨p,c,h1.later hb,row_later h2 hb⟩,h.b1.later hb,h.b2.later hb,h.d.imp id (fun x=>⟨x.1,x.2.later hb⟩),Below.go h.z hb,Nat.le_trans h.r hb.size⟩
theorem DcJ.odd {w:World} {P:DcP} {k l:Nat} {W:World} {o:Obj} (h:DcJ w P k W) (hw:w.heap.size≤l) (hl:Odd l W):DcJ w P k (W.putObj l o):=by
 obtain⟨p,c,h1,h2⟩:=h.t
 refine⟨h.q.odd hl,⟨p,c,h1.odd hl,row_odd h2 hl⟩,h.b1.odd hl,h.b2.odd hl,?_,putObj_below h.z hw,by rw[World.putObj_size];exact h.r⟩
 rcases h.d with h0 | ⟨e,hh⟩
 ·exact .inl h0
 ·rcases Nat.eq_zero_or_pos P.n with h0 | h0
  ·exact .inl h0
  ·refine .inr ⟨e,?_⟩
   obtain⟨m,hm⟩:∃ m,P.n*3=m+1:=⟨P.n*3 - 1,by omega⟩
   rw[hm] at hh ⊢
   exact hh.but But.putObj (odd_ne hl (hh.at 0 (.int .u8 (P.G 0)) (nums_at _ _ (by omega))))
theorem DcJ.body {w:World} {P:DcP} {k:Nat} {W W':World} {p:Option Addr} {c:Nat} {v':Value} (O:DcO w P) (h:DcJ w P k W)
  (hr:W.ownsRow P.RB 37 3 (.slice p k c) k (nums .i64 P.G (k*3))) (hg:W.grownBy W' (Value.slice p k c).ownBlock) (hb:Own P.T [.int .i64 P.S,.slice p k c] W)
  (hr':W'.ownsRow P.RB 37 3 v' (k+1) (nums .i64 P.G ((k+1)*3))):DcJ w P (k+1) (W'.setCells P.T 1 [v']):=by
 obtain⟨q,d,rfl,_⟩:=row_form hr'
 have nb:∀ {b:Nat},b<P.RB→(Value.slice p k c).ownBlock≠some b:=fun hb=>row_ne hr hb
 refine⟨(h.q.grown hg (nb O.q.2)).far O.nQ,⟨q,d,?_,row_far hr' (row_ne hr' O.t.2) 1 _⟩,(h.b1.grown hg (nb O.b1)).far O.n1,(h.b2.grown hg (nb O.b2)).far O.n2,h.d.imp id (fun x=>⟨x.1,(x.2.grown hg (nb O.d)).far O.nD⟩),?_,?_⟩
 ·exact (show Own P.T (over _ 1 [.slice q (k+1) d]) _ from Own.part (hb.grown hg (nb O.t.2)) (by simp))
 ·exact Below.setCells (h.z.grown hg h.z.size (fun j hj=>Nat.le_trans (by have:=O.t;omega) (row_ge hr j hj))) O.t.1 _ _
 ·rw[size_setCells];exact Nat.le_trans h.r hg.size
set_option maxHeartbeats 8000000 in
theorem chunk1_in (n:Nat) (w:World) (P:DcP) (O:DcO w P) (l:Nat) (Bk:World→Prop) (W1:World)
  (hBk:∀ W W',Bk W→KeepsOthers W W'→Bk W') (b1:Bk W1) (hI:DcJ w P 0 W1)
  (hY:∀ k x W,Bk W→DcJ w P k W→(x=k∧k<P.n)→YieldAt Fence.wide (n - 1) Tryz.prog l #[.slice (some ⟨P.D,x*3,none⟩) 3 3] W fun e W'=>e = .returned (.bool true)∧Bk W'∧DcJ w P (k+1) W') :
  CallsIn Fence.wide n Tryz.prog 168 #[.func (.yield l) #[] #[],.pointer (some ⟨P.B1,0,none⟩),.pointer (some ⟨P.B2,0,none⟩)] W1 fun e W'=>(∃ v,e = .returned v)∧Bk W'∧DcJ w P P.n W':=by
 obtain⟨Q,T,B1,B2,D,RB,S,m,G,p,c⟩:=P
 have OO:=Lib.hid O;have HK:=Lib.hid b1;have HI:=Lib.hid hI
 dsimp only at *
 clear O b1 hI
 refine callsIn_of_wp Tryz.func168 rfl trivial ?_ rfl
 simp only[Tryz.ntmps168,List.size_toArray,List.length_cons,List.length_nil,Nat.reduceAdd,Nat.reduceSub,Array.replicate_succ,Array.replicate_zero,List.push_toArray,List.append_toArray,List.nil_append,List.cons_append]
 gi_wp2
 gi_loopw [4] (fun iv wr=>∃ (k t:Nat),k≤m∧Hid (t=k*3)∧iv = .int .i64 t∧Hid (DcJ w ⟨Q,T,B1,B2,D,RB,S,m,G,p,c⟩ k wr)∧Hid (Bk wr)) (fun iv _=>(m*3 - (intOf iv).toNat))
 case atStart=>exact⟨0,0,Nat.zero_le _,Lib.hid rfl,rfl,HI,HK⟩
 case round =>
  clear HI HK
  obtain⟨k,t,hk,HT,rfl,HJ,HK⟩:=hrel
  have c0:=HJ.out.b1.at 0 _ rfl;have cl:=HJ.out.b1.lt
  have d0:=HJ.out.b2.at 0 _ rfl;have dl:=HJ.out.b2.lt
  dsimp only at c0 cl d0 dl
  by_cases hlt:k<m
  ·obtain rfl:p=some ⟨D,0,none⟩:=by
    rcases HJ.out.d with h | h
    ·exact absurd h (by show m≠0;omega)
    ·exact h.1
   have hti:(t:Int)<((m*3:Nat):Int):=by have:=HT.out;omega
   have t0:(0:Int)≤(t:Int):=by omega
   have HLT:=Lib.hid hlt
   gi_wp2
   refine wpIn_wide.2 ?_
   go_quiet (fail)
   have h3:min (3:Int) ((m*3 - t:Nat):Int)=3:=by have:=HT.out;have:=HLT.out;omega
   have hw3:IntKind.i64.wrap ((t:Int)+3)=(t:Int)+3:=by
    have:=HT.out;have:=OO.out.nn;dsimp only at this
    rw[IntKind.wrap_i64]
    omega
   rw[h3]
   clear h3
   have J2:=Lib.hid (HJ.out.later (below_drewN (Below.refl wr.heap.size wr) nq))
   have K2:=Lib.hid (hBk _ _ HK.out (⟨Nat.le_refl _,fun i o hi _=>hi⟩:KeepsOthers wr (wr.drewN nq)))
   clear HJ HK c0 cl d0 dl
   generalize wr.drewN nq=wq at *
   have c0:=J2.out.b1.at 0 _ rfl;have cl:=J2.out.b1.lt
   have d0:=J2.out.b2.at 0 _ rfl;have dl:=J2.out.b2.lt
   dsimp only at c0 cl d0 dl
   obtain⟨fn,tmps,assign,body,hy,hR⟩:=hY k k wq K2.out J2.out ⟨rfl,hlt⟩
   rw[← HT.out] at hy
   have hb:(t:Int)+3≤(c:Int):=by have:=HT.out;have:=OO.out.cc;dsimp only at this;omega
   gi_wp2
   refine⟨(fun h=>by cases h),hR.mono ?_⟩
   rintro e W3 ⟨rfl,hb3,hj3⟩
   have B3:=Lib.hid hb3;have J3:=Lib.hid hj3
   clear hb3 hj3 hR hy c0 cl d0 dl J2 K2 hb
   have d0:=J3.out.b2.at 0 _ rfl;have dl:=J3.out.b2.lt
   dsimp only at d0 dl
   gi_wp2
   go_roundw
   case rel=>exact⟨k+1,t+3,HLT.out,Lib.hid (by have:=HT.out;omega),by simp,J3,B3⟩
   case measure=>simp[intOf];have:=HT.out;have:=HLT.out;omega
  ·obtain rfl:k=m:=by omega
   have hd:decide ((t:Int)<(k:Int)*3)=false:=decide_eq_false (by have:=HT.out;omega)
   gi_wp2
   go_end0
   exact⟨⟨_,rfl⟩,HK.out,HJ.out⟩
end Go.Proofs.YtbilamnnneddmaaGreatDoor
namespace Go.Proofs.YtbilamnnneddmaaGreatDoor
set_option linter.unusedVariables false
set_option maxRecDepth 2000
set_option linter.unusedSimpArgs false
open Go.RowKit
theorem dec_three (s:Nat):(3*(s:Int)*(s:Int))=((s*s*3:Nat):Int):=by
 rw[Int.mul_assoc,Int.mul_comm,Int.natCast_mul,Int.natCast_mul]
 rfl
theorem dec_ss {s:Nat} (h:s≤255):s*s≤65025:=Nat.mul_le_mul h h
theorem dec_short {s N:Nat} (h:N<1+s*s*3):nxE N 1 (erN N 1) (3*(s:Int)*(s:Int)) 0 9223372036854775807=4∨255<s:=by
 rcases Nat.lt_or_ge 255 s with h2 | h2
 ·exact .inr h2
 refine .inl ?_
 have:=dec_ss h2
 rw[dec_three]
 unfold nxE erN
 by_cases h1:1≤N
 ·rw[if_pos h1,if_neg (by omega),if_neg (by omega),if_pos (by omega)]
 ·rw[if_neg h1,if_pos (by decide)]
theorem dec_long {s N:Nat} (h:1+s*s*3≤N) (h2:s≤255):nxE N 1 (erN N 1) (3*(s:Int)*(s:Int)) 0 9223372036854775807=0:=by
 have:=dec_ss h2
 rw[dec_three]
 unfold nxE erN
 rw[if_pos (show 1≤N by omega),if_neg (by omega),if_neg (by omega),if_neg (by omega)]
theorem tdec_end {F:Nat→Int} {N s:Nat} (es:sdN F N=s) (h2:s≤255):∃ E L A,nxE N 1 (erN N 1) (3*(s:Int)*(s:Int)) 0 9223372036854775807=E∧nxL (3*(s:Int)*(s:Int)) E=L∧nxA 1 (3*(s:Int)*(s:Int)) E=A∧L≤200000 ∧
  ((endE N A E≠0∧tdecE F N=endE N A E)∨(endE N A E=0∧L=s*s*3∧N=1+s*s*3∧tdecE F N=chkT s (s*s) (fun j=>F (1+j)))):=by
 have hs:=dec_ss h2
 have hn:needT F N=1+s*s*3:=by unfold needT;rw[es]
 rcases Nat.lt_or_ge N (1+s*s*3) with h | h
 ·have e4:=(dec_short h).resolve_right (by omega)
  refine⟨4,0,1,e4,by simp[nxL],by simp[nxA],by omega,.inl ?_⟩
  rw[dec_4 (by omega)]
  simp[endE]
 ·have e0:=dec_long h h2
  refine⟨0,s*s*3,1+s*s*3,e0,?_,?_,by omega,?_⟩
  ·rw[dec_three];simp[nxL];omega
  ·rw[dec_three];simp[nxA];omega
  ·rcases Nat.lt_or_ge (1+s*s*3) N with h3 | h3
   ·refine .inl ?_
    rw[dec_5 (by omega)]
    simp[endE,h3]
   ·refine .inr ⟨by simp[endE];omega,rfl,by omega,?_⟩
    rw[dec_c (by omega),es]
def S3 (D x:Nat) (G:Nat→Int) (w:World):Prop:=(w.cell? ⟨D,x*3,none⟩=some (.int .u8 (G (x*3)))∧w.cell? ⟨D,x*3+1,none⟩=some (.int .u8 (G (x*3+1))))∧w.cell? ⟨D,x*3+2,none⟩=some (.int .u8 (G (x*3+2)))∧D<w.heap.size
theorem s3_of {D n x:Nat} {G:Nat→Int} {w:World} (h:Has D 0 (nums .u8 G (n*3)) w) (hx:x<n):S3 D x G w:=by
 have c:=fun j hj=>h.cell j _ (nums_at .u8 G (n:=n*3) (i:=j) hj)
 simp only[Nat.zero_add] at c
 exact⟨⟨c _ (by omega),c _ (by omega)⟩,c _ (by omega),h.lt⟩
set_option maxHeartbeats 16000000 in
theorem tDecode_any (q:Option Addr) (N c:Nat) (F:Nat→Int) (hF:∀ j,j<N→inB (F j)) (hN:N≤100000) (w:World) (hq:Byt w q N F) :
  Calls Tryz.prog 117 #[.slice q N c] w fun e w'=>∃ Z:Txr,e = .returned (.tuple #[.agg #[.int .i64 Z.S,.slice Z.q Z.n Z.c],.int .i64 (tdecE F N)])∧(TxAt Z w'∧DecO F N Z∧FrQ w.heap.size Z.n Z.q)∧Below w.heap.size w w':=by
 have HQ0:=Lib.hid hq
 have NW:=Lib.hid (fun w hq=>New_any q N c F (by omega) w hq)
 have c0:=sdN_val hF
 have S0:=Lib.hid (fun K D w h=>Num_next (K:=K) (D:=D) (N:=N) (t:=0) (F:=F) (w:=w) 1 1 1 rfl rfl (by decide) (by decide) hF h)
 rw[c0.1] at S0
 obtain⟨s,es⟩:∃ s,sdN F N=s:=⟨_,rfl⟩
 have h255:s≤255:=by rw[← es];exact c0.2
 rw[es] at S0
 have hss:=dec_ss h255
 have TK:=Lib.hid (fun K D w h=>Take_any (K:=K) (D:=D) (N:=N) (at_:=1) (er:=erN N 1) (F:=F) (w:=w) (3*(s:Int)*(s:Int)) (by omega) h)
 obtain⟨E,L,A,eE,eL,eA,hL,hcase⟩:=tdec_end es h255
 rw[eE,eL,eA] at TK
 have ED:=Lib.hid (fun K D w h=>End_any (K:=K) (D:=D) (N:=N) (at_:=A) (er:=E) (F:=F) (w:=w) h)
 have HC:=Lib.hid hcase
 have HE:=Lib.hid es;have HL:=Lib.hid hL;have H255:=Lib.hid h255;have HSS:=Lib.hid hss
 have HFB:=Lib.hid hF
 obtain⟨er,eer⟩:∃ er,er=endE N A E:=⟨_,rfl⟩
 rw[← eer] at ED HC
 have ws:IntKind.i64.wrap (s:Int)=(s:Int):=IntWalk.i64_in _ (by omega)
 have w1:IntKind.i64.wrap (3*(s:Int))=3*(s:Int):=IntWalk.i64_in _ (by omega)
 have w2:IntKind.i64.wrap (3*(s:Int)*(s:Int))=3*(s:Int)*(s:Int):=by rw[dec_three];exact IntWalk.i64_in _ (by omega)
 clear hq hN c0 es h255 hss eE eL eA hL hcase hF eer
 refine callsIn_wide.1 (callsIn_of_wp_marks (F:=Fence.wide) (n:=6) Tryz.func117 rfl trivial (wpIn_wide.2 ?_) rfl)
 simp only[Tryz.ntmps117,List.size_toArray,List.length_cons,List.length_nil,Nat.reduceAdd,Nat.reduceSub,Array.replicate_succ,Array.replicate_zero,List.push_toArray,List.append_toArray,List.nil_append,List.cons_append]
 go_upto_region 1 with fail
 obtain⟨W0,hW⟩:∃ W0,W0=(w.alloc (.cells #[.int .i64 0,.slice none 0 0] 36)):=⟨_,rfl⟩
 have hB0:Below w.heap.size w W0:=hW ▸ (Below.al (Below.refl _ _))
 have HQ:Hid (Own w.heap.size [.int .i64 0,.slice none 0 0] W0):=Lib.hid (hW ▸ (Own.newAt (by simp)))
 rw[← hW]
 clear hW
 obtain⟨Q,eQ⟩:∃ X,X=w.heap.size:=⟨_,rfl⟩
 rw[← eQ] at HQ ⊢
 have QW:=Lib.hid (show w.heap.size≤Q by omega)
 clear eQ
 have hq0:=HQ0.out.later hB0
 go_wp2_with (fail)
 go_at_call 69
 refine (NW.out _ hq0).mono ?_
 rintro e v1 ⟨K,D,rfl,hK,hD,hDl,hR,hb⟩
 have HQ1:=Lib.hid (HQ.out.later hb)
 have HB1:=Lib.hid (Below.go hB0 hb)
 have nKQ:K≠Q:=by have:=HQ.out.lt;omega
 have nDQ:D≠Q:=by have:=HQ.out.lt;omega
 have KW:=Lib.hid (show w.heap.size≤K by have:=hB0.size;omega)
 have HR1:=Lib.hid (show Rd v1 K D F N 0 (erN N 0) by rw[show erN N 0=0 from if_pos (Nat.zero_le _)];exact hR)
 have HDl:=Lib.hid hDl
 clear hb hR hDl hK hD hB0 hq0 HQ HQ0 NW
 go_wp2_with (fail)
 go_at_call 108
 refine (S0.out _ _ _ HR1.out).mono ?_
 rintro e v2 ⟨rfl,hR,hb⟩
 have HQ2:=Lib.hid (HQ1.out.but hb nKQ.symm)
 have HB2:=Lib.hid (HB1.out.trans (hb.below.mono KW.out))
 have HR2:=Lib.hid hR
 have HDl2:=Lib.hid (Nat.lt_of_lt_of_le HDl.out hb.below.size)
 clear hb hR HQ1 HB1 HR1 S0 HDl
 go_upto_region 3 with fail
 obtain⟨v3,hW⟩:∃ W,W=v2.alloc (.cells #[.int .i64 (s:Int),.slice none 0 0] 36):=⟨_,rfl⟩
 have hb3:Below v2.heap.size v2 v3:=hW ▸ Below.al (Below.refl _ _)
 have HT3:Hid (Own v2.heap.size [.int .i64 (s:Int),.slice none 0 0] v3):=Lib.hid (hW ▸ Own.newAt (by simp))
 have HQ3:=Lib.hid (HQ2.out.later hb3);have HB3:=Lib.hid (Below.go HB2.out hb3);have HR3:=Lib.hid (HR2.out.later hb3)
 have TQ:=Lib.hid (show Q<v2.heap.size from HQ2.out.lt)
 have TK3:Hid (K<v2.heap.size∧D<v2.heap.size):=Lib.hid ⟨HR2.out.lt,HDl2.out⟩
 have TW:Hid (w.heap.size≤v2.heap.size):=Lib.hid HB2.out.size
 rw[← hW]
 clear hW hb3 HQ2 HB2 HR2
 obtain⟨T,eT⟩:∃ X,X=v2.heap.size:=⟨_,rfl⟩
 rw[← eT] at HT3 TQ TK3 TW ⊢
 clear eT
 have t0:=HT3.out.at 0 _ rfl;have tl:=HT3.out.lt
 go_wp2_with (fail)
 go_at_call 75
 refine (TK.out _ _ _ HR3.out).mono ?_
 rintro e v4 ⟨v,rfl,hrow,hR,hb⟩
 have nQK:Q≠K:=nKQ.symm
 have nTK:T≠K:=by have:=TK3.out;omega
 obtain⟨g,d,rfl,_⟩:=row_form hrow
 have HQ4:=Lib.hid (HQ3.out.but hb nQK);have HT4:=Lib.hid (HT3.out.but hb nTK)
 have HB4:=Lib.hid (HB3.out.trans (hb.below.mono KW.out))
 have HR4:=Lib.hid hR;have ROW4:=Lib.hid hrow
 have VS:Hid (v3.heap.size≤v4.heap.size∧T<v3.heap.size):=Lib.hid ⟨hb.below.size,HT3.out.lt⟩
 clear hb hR hrow HQ3 HB3 HR3 HT3 t0 tl TK
 go_wp2_with (fail)
 go_at_call 71
 refine (ED.out _ _ _ HR4.out).mono ?_
 rintro e v5 ⟨rfl,rfl⟩
 clear HR4 ED
 rcases HC.out with ⟨hne,hde⟩ | ⟨rfl,hLs,hNs,hde⟩
 ·have hd:(er != 0)=true:=by simpa using hne
  have q0:=HQ4.out.at 0 _ rfl;have qf0:=HQ4.out.ok 0 (by simp);have q1:=HQ4.out.at 1 _ rfl;have qf1:=HQ4.out.ok 1 (by simp);have ql:=HQ4.out.lt
  go_wp2_with (fail)
  clear q0 qf0 q1 qf1 ql
  rw[show ((v5.setCell ⟨Q,0,none⟩ (.int .i64 0)).setCell ⟨Q,1,none⟩ (.slice none 0 0))=v5.setCells Q 0 [.int .i64 0,.slice none 0 0] from rfl]
  have HQ5:Hid (Own Q [.int .i64 0,.slice none 0 0] (v5.setCells Q 0 [.int .i64 0,.slice none 0 0])):=Lib.hid (Own.store HQ4.out rfl)
  have HB5:Below w.heap.size w (v5.setCells Q 0 [.int .i64 0,.slice none 0 0]):=Below.setCells HB4.out QW.out _ _
  generalize v5.setCells Q 0 [.int .i64 0,.slice none 0 0]=W5 at *
  have hL:=run_loadVar_mid (P:=Tryz.prog) _ Q 0 36 [.int .i64 0,.slice none 0 0] _ HQ5.out.cell Tryz.underlying36 rfl (by kernel_rfl)
  refine⟨.tuple #[.agg ([.int .i64 0,.slice none 0 0]:List Value).toArray,.int .i64 er],res_two Tryz.results117 rfl hL rfl,⟨0,none,0,0,fun _=>0⟩,?_,⟨⟨.inl rfl,Nat.le_refl _,by decide⟩,tdec_zero (by rw[hde];exact hne),.inl rfl⟩,HB5⟩
  rw[hde]
 ·clear HC
  subst hLs
  go_wp2_with (fail)
  go_at_call 143
  refine (Chunk_any g (s*s*3) d v5).mono ?_
  rintro e v6 ⟨B1,B2,rfl,hB1,hB2,o1,o2,hb⟩
  have HQ6:=Lib.hid (HQ4.out.later hb);have HT6:=Lib.hid (HT4.out.later hb);have ROW6:=Lib.hid (row_later ROW4.out hb)
  have HB6:=Lib.hid (Below.go HB4.out hb)
  have cap:=row_cap_ ROW6.out
  obtain⟨D',hD',hDQ,hDT⟩:∃ D':Nat,((s*s=0∨(g=some ⟨D',0,none⟩∧Has D' 0 (nums .u8 (fun j=>F (1+j)) (s*s*3)) v6))∧D'<v6.heap.size)∧D'≠T∧True:=by
   rcases ROW6.out.2 with ⟨_,h0⟩ | ⟨g',cap',cur,hv,_⟩
   ·refine⟨Q,⟨.inl (by omega),HQ6.out.lt⟩,?_,trivial⟩
    exact Nat.ne_of_lt TQ.out
   ·have e:g=some ⟨g',0,none⟩:=by injection hv
    subst e
    have hh:=(row_has' ROW6.out).1
    refine⟨g',⟨.inr ⟨rfl,hh⟩,hh.lt⟩,?_,trivial⟩
    intro e
    exact row_ne ROW6.out VS.out.2 (by rw[← e];rfl)
  have GB:Hid (∀ j,j<s*s*3→inB (F (1+j))):=Lib.hid fun j hj=>HFB.out _ (by omega)
  have HDE:Hid (tdecE F N=chkT s (s*s) (fun j=>F (1+j))):=Lib.hid hde
  obtain⟨G,eG⟩:∃ G,G=(fun j=>F (1+j)):=⟨_,rfl⟩
  have GG:Hid (∀ j,G j=F (1+j)):=Lib.hid fun j=>by rw[eG]
  simp only[← GG.out] at hD' GB ROW6 HDE
  have HNS:=Lib.hid hNs
  obtain⟨n,en⟩:∃ n,n=s*s:=⟨_,rfl⟩
  have EN:=Lib.hid en
  simp only[← en] at hD' GB ROW6 HDE HSS o1 cap HNS ⊢
  have OO:Hid (DcO w ⟨Q,T,B1,B2,D',v6.heap.size,s,n,G,g,d⟩):=Lib.hid ⟨⟨QW.out,HQ6.out.lt⟩,⟨TW.out,HT6.out.lt⟩,o1.lt,o2.lt,hD'.2,Nat.ne_of_lt TQ.out,(show B1≠T by have:=VS.out;omega),(show B2≠T by have:=VS.out;omega),hDQ,(by have:=HSS.out;show n≤100000;omega),cap⟩
  have JJ:Hid (DcJ w ⟨Q,T,B1,B2,D',v6.heap.size,s,n,G,g,d⟩ 0 v6):=Lib.hid ⟨HQ6.out,⟨none,0,HT6.out,World.ownsRow_nil _ _ _ _⟩,o1,o2,hD'.1,HB6.out,Nat.le_refl _⟩
  clear en
  clear hb hB1 hB2 o1 o2 HQ6 HT6 ROW6 HB6 cap hD' hDQ hDT hde eG HQ4 HT4 ROW4 HB4 VS TQ TK3 HDl2
  go_wp2_with (fail)
  have W6:Hid (w.heap.size≤v6.heap.size):=Lib.hid JJ.out.z.size
  obtain⟨i0,hi,hz0,hz1,hz2⟩:=infoX_parts
  refine wpIn_wide.1 (range_book (n:=6) (gf:=168) (lb:=#[.pointer (some ⟨B1,0,none⟩),.pointer (some ⟨B2,0,none⟩)]) rfl (fun _ _=>rfl) (encs:=fun x:Nat=>#[.slice (some ⟨D',x*3,none⟩) 3 3]) (fun _=>rfl)
   (DcJ w ⟨Q,T,B1,B2,D',v6.heap.size,s,n,G,g,d⟩ 0) (DcJ w ⟨Q,T,B1,B2,D',v6.heap.size,s,n,G,g,d⟩) (fun k x=>x=k∧k<n) (fun k _=>k+1) (DcJ w ⟨Q,T,B1,B2,D',v6.heap.size,s,n,G,g,d⟩ n) ?h0 ?hJ ?hD ?hround ?hiter ?hdone)
  case h0=>exact fun o o'=>(JJ.out.later (Below.al (Below.refl _ _))).later (Below.al (Below.refl _ _))
  case hJ=>exact fun k W l o h hl ho=>h.odd (Nat.le_trans W6.out hl) ho
  case hD=>exact fun W l o h hl ho=>h.odd (Nat.le_trans W6.out hl) ho
  case hiter=>exact fun l Bk W1 _ hBk b1 hI hY=>chunk1_in 5 w _ OO.out l Bk W1 hBk b1 hI hY
  case hround =>
   clear JJ
   rintro l k x W hl hj ⟨hx,hk⟩ hodd
   subst hx
   have OD:=Lib.hid hodd;have HJ:=Lib.hid hj;have HK:=Lib.hid hk
   have lW:w.heap.size≤l:=by have:=W6.out;omega
   clear hk hj hl hodd
   refine region_round then_lets rfl ?_
   go_wp2_with (fail)
   refine⟨⟨Nat.le_refl _,fun i o hi _=>hi⟩,fun o=>?_⟩
   have J2:=Lib.hid (HJ.out.odd (o:=o) lW OD.out)
   clear OD HJ lW
   generalize W.putObj l o=W2 at *
   have J3:=Lib.hid (J2.out.later (Below.refl _ _).drew)
   have KO:Hid (KeepsOthers W2 W2.drew):=Lib.hid ⟨Nat.le_refl _,fun i o hi _=>hi⟩
   refine wpIn_block (held_round (S:=S3 D' x G) (by kernel_rfl) block_lets (by kernel_rfl) ?_)
   clear J2
   generalize W2.drew=z0 at *
   obtain⟨rfl,HH⟩:g=some ⟨D',0,none⟩∧Has D' 0 (nums .u8 G (n*3)) z0:=J3.out.d.resolve_left (by have:=HK.out;show n≠0;omega)
   have HS:=s3_of HH HK.out
   have BB:Hid (∀ j,j<3→inB (G (x*3+j))):=Lib.hid fun j hj=>GB.out _ (by have:=HK.out;omega)
   have b0:IntKind.i64.wrap (G (x*3))=G (x*3):=IntWalk.i64_in _ (by have h:inB (G (x*3)):=BB.out 0 (by decide);unfold inB at h;omega)
   have b1:IntKind.i64.wrap (G (x*3+1))=G (x*3+1):=IntWalk.i64_in _ (by have h:inB (G (x*3+1)):=BB.out 1 (by decide);unfold inB at h;omega)
   have b2:IntKind.i64.wrap (G (x*3+2))=G (x*3+2):=IntWalk.i64_in _ (by have h:inB (G (x*3+2)):=BB.out 2 (by decide);unfold inB at h;omega)
   refine wpAnyH_take (i:=0) (v := .pointer (some ⟨T,1,none⟩)) rfl (by kernel_rfl) (by kernel_rfl) (by kernel_rfl) (fun _ _ _ h=>h) (Or.inl ⟨by rfl,fun w hSw=>?_⟩) (by assumption) ?_
   ·obtain⟨⟨s0,s1⟩,s2,sl⟩:=hSw;go_simp
   try simp only[Act.put,List.getElem_toArray,List.getElem_cons_zero,List.getElem_cons_succ,List.setIfInBounds_toArray,List.set_cons_zero,List.set_cons_succ]
   refine wpAnyH_take (i:=2) (v:=(.slice (some ⟨D',x*3,none⟩) 3 3)) rfl (by kernel_rfl) (by kernel_rfl) (by kernel_rfl) (fun _ _ _ h=>h) (Or.inl ⟨by rfl,fun w hSw=>?_⟩) (by assumption) ?_
   ·obtain⟨⟨s0,s1⟩,s2,sl⟩:=hSw;go_simp
   try simp only[Act.put,List.getElem_toArray,List.getElem_cons_zero,List.getElem_cons_succ,List.setIfInBounds_toArray,List.set_cons_zero,List.set_cons_succ]
   refine wpAnyH_take (i:=3) (v := .pointer (some ⟨D',x*3,none⟩)) rfl (by kernel_rfl) (by kernel_rfl) (by kernel_rfl) (fun _ _ _ h=>h) (Or.inl ⟨by rfl,fun w hSw=>?_⟩) (by assumption) ?_
   ·obtain⟨⟨s0,s1⟩,s2,sl⟩:=hSw;go_simp
   try simp only[Act.put,List.getElem_toArray,List.getElem_cons_zero,List.getElem_cons_succ,List.setIfInBounds_toArray,List.set_cons_zero,List.set_cons_succ]
   refine wpAnyH_take (i:=4) (v := .int .u8 (G (x*3))) rfl (by kernel_rfl) (by kernel_rfl) (by kernel_rfl) (fun _ _ _ h=>h) (Or.inl ⟨by rfl,fun w hSw=>?_⟩) (by assumption) ?_
   ·obtain⟨⟨s0,s1⟩,s2,sl⟩:=hSw;go_simp
   try simp only[Act.put,List.getElem_toArray,List.getElem_cons_zero,List.getElem_cons_succ,List.setIfInBounds_toArray,List.set_cons_zero,List.set_cons_succ]
   refine wpAnyH_take (i:=5) (v := .int .i64 (G (x*3))) rfl (by kernel_rfl) (by kernel_rfl) (by kernel_rfl) (fun _ _ _ h=>h) (Or.inl ⟨by rfl,fun w hSw=>?_⟩) (by assumption) ?_
   ·obtain⟨⟨s0,s1⟩,s2,sl⟩:=hSw;go_simp
   try simp only[Act.put,List.getElem_toArray,List.getElem_cons_zero,List.getElem_cons_succ,List.setIfInBounds_toArray,List.set_cons_zero,List.set_cons_succ]
   refine wpAnyH_take (i:=6) (v:=(.slice (some ⟨D',x*3,none⟩) 3 3)) rfl (by kernel_rfl) (by kernel_rfl) (by kernel_rfl) (fun _ _ _ h=>h) (Or.inl ⟨by rfl,fun w hSw=>?_⟩) (by assumption) ?_
   ·obtain⟨⟨s0,s1⟩,s2,sl⟩:=hSw;go_simp
   try simp only[Act.put,List.getElem_toArray,List.getElem_cons_zero,List.getElem_cons_succ,List.setIfInBounds_toArray,List.set_cons_zero,List.set_cons_succ]
   refine wpAnyH_take (i:=7) (v := .pointer (some ⟨D',x*3+1,none⟩)) rfl (by kernel_rfl) (by kernel_rfl) (by kernel_rfl) (fun _ _ _ h=>h) (Or.inl ⟨by rfl,fun w hSw=>?_⟩) (by assumption) ?_
   ·obtain⟨⟨s0,s1⟩,s2,sl⟩:=hSw;go_simp
   try simp only[Act.put,List.getElem_toArray,List.getElem_cons_zero,List.getElem_cons_succ,List.setIfInBounds_toArray,List.set_cons_zero,List.set_cons_succ]
   refine wpAnyH_take (i:=8) (v := .int .u8 (G (x*3+1))) rfl (by kernel_rfl) (by kernel_rfl) (by kernel_rfl) (fun _ _ _ h=>h) (Or.inl ⟨by rfl,fun w hSw=>?_⟩) (by assumption) ?_
   ·obtain⟨⟨s0,s1⟩,s2,sl⟩:=hSw;go_simp
   try simp only[Act.put,List.getElem_toArray,List.getElem_cons_zero,List.getElem_cons_succ,List.setIfInBounds_toArray,List.set_cons_zero,List.set_cons_succ]
   refine wpAnyH_take (i:=9) (v := .int .i64 (G (x*3+1))) rfl (by kernel_rfl) (by kernel_rfl) (by kernel_rfl) (fun _ _ _ h=>h) (Or.inl ⟨by rfl,fun w hSw=>?_⟩) (by assumption) ?_
   ·obtain⟨⟨s0,s1⟩,s2,sl⟩:=hSw;go_simp
   try simp only[Act.put,List.getElem_toArray,List.getElem_cons_zero,List.getElem_cons_succ,List.setIfInBounds_toArray,List.set_cons_zero,List.set_cons_succ]
   refine wpAnyH_take (i:=10) (v:=(.slice (some ⟨D',x*3,none⟩) 3 3)) rfl (by kernel_rfl) (by kernel_rfl) (by kernel_rfl) (fun _ _ _ h=>h) (Or.inl ⟨by rfl,fun w hSw=>?_⟩) (by assumption) ?_
   ·obtain⟨⟨s0,s1⟩,s2,sl⟩:=hSw;go_simp
   try simp only[Act.put,List.getElem_toArray,List.getElem_cons_zero,List.getElem_cons_succ,List.setIfInBounds_toArray,List.set_cons_zero,List.set_cons_succ]
   refine wpAnyH_take (i:=11) (v := .pointer (some ⟨D',x*3+2,none⟩)) rfl (by kernel_rfl) (by kernel_rfl) (by kernel_rfl) (fun _ _ _ h=>h) (Or.inl ⟨by rfl,fun w hSw=>?_⟩) (by assumption) ?_
   ·obtain⟨⟨s0,s1⟩,s2,sl⟩:=hSw;go_simp
   try simp only[Act.put,List.getElem_toArray,List.getElem_cons_zero,List.getElem_cons_succ,List.setIfInBounds_toArray,List.set_cons_zero,List.set_cons_succ]
   refine wpAnyH_take (i:=12) (v := .int .u8 (G (x*3+2))) rfl (by kernel_rfl) (by kernel_rfl) (by kernel_rfl) (fun _ _ _ h=>h) (Or.inl ⟨by rfl,fun w hSw=>?_⟩) (by assumption) ?_
   ·obtain⟨⟨s0,s1⟩,s2,sl⟩:=hSw;go_simp
   try simp only[Act.put,List.getElem_toArray,List.getElem_cons_zero,List.getElem_cons_succ,List.setIfInBounds_toArray,List.set_cons_zero,List.set_cons_succ]
   refine wpAnyH_take (i:=13) (v := .int .i64 (G (x*3+2))) rfl (by kernel_rfl) (by kernel_rfl) (by kernel_rfl) (fun _ _ _ h=>h) (Or.inl ⟨by rfl,fun w hSw=>?_⟩) (by assumption) ?_
   ·obtain⟨⟨s0,s1⟩,s2,sl⟩:=hSw;go_simp
   try simp only[Act.put,List.getElem_toArray,List.getElem_cons_zero,List.getElem_cons_succ,List.setIfInBounds_toArray,List.set_cons_zero,List.set_cons_succ]
   refine wpAnyH_take (i:=14) (v := .agg #[.int .i64 (G (x*3)),.int .i64 (G (x*3+1)),.int .i64 (G (x*3+2))]) rfl (by kernel_rfl) (by kernel_rfl) (by kernel_rfl) (fun _ _ _ h=>h) (Or.inl ⟨by rfl,fun w hSw=>?_⟩) (by assumption) ?_
   ·obtain⟨⟨s0,s1⟩,s2,sl⟩:=hSw;go_simp
   try simp only[Act.put,List.getElem_toArray,List.getElem_cons_zero,List.getElem_cons_succ,List.setIfInBounds_toArray,List.set_cons_zero,List.set_cons_succ]
   clear b0 b1 b2 BB
   have XS:Hid (nums .i64 G (x*3) ++ [.int .i64 (G (x*3)),.int .i64 (G (x*3+1)),.int .i64 (G (x*3+2))]=nums .i64 G ((x+1)*3)):=Lib.hid (by
    rw[show (x+1)*3=x*3+3 by omega]
    refine nums_append .i64 G (fun j=>[G (x*3),G (x*3+1),G (x*3+2)].getD j 0) (x*3) 3 (fun j hj=>?_)
    match j,hj with
    | 0,_=>rfl
    | 1,_=>rfl
    | 2,_=>rfl)
   have N63:=Lib.hid (show x+1≤maxLen by have:=HK.out;have:=HSS.out;unfold maxLen;omega)
   have NBY:=Lib.hid (show (x+1)*24≤140737488355328 by have:=HK.out;have:=HSS.out;omega)
   obtain⟨p1,c1,hO1,hR1⟩:=J3.out.t
   dsimp only at hO1 hR1
   obtain⟨x0,e0⟩:∃ z,z=G (x*3):=⟨_,rfl⟩
   obtain⟨x1,e1⟩:∃ z,z=G (x*3+1):=⟨_,rfl⟩
   obtain⟨x2,e2⟩:∃ z,z=G (x*3+2):=⟨_,rfl⟩
   rw[← e0,← e1,← e2] at XS ⊢
   clear e0 e1 e2
   have HO:=Lib.hid hO1;have HR:=Lib.hid hR1
   clear hO1 hR1
   refine wpAnyH_ready (rs:=[1,15]) (by kernel_rfl) (by simp) ?_
   refine (AllReadyH.cons rfl (fun K_ hK=>?_) (AllReadyH.cons rfl (fun K_ hK=>?_) AllReadyH.nil))
   ·have t1:=HO.out.at 1 _ rfl
    have tl:=HO.out.lt
    go_simp
    clear t1 tl
    refine hK.out _ _ HS (fun _=>?_)
    clear hK K_
    try simp only[Act.put,List.getElem_toArray,List.getElem_cons_zero,List.getElem_cons_succ,List.setIfInBounds_toArray,List.set_cons_zero,List.set_cons_succ]
    refine wpAnyH_ready (rs:=[15]) (by kernel_rfl) (by simp) ?_
    refine AllReadyH.cons rfl (fun K_ hK=>?_) AllReadyH.nil
    go_simp
    have hal:=Below.al (o := .cells #[.int .i64 x0,.int .i64 x1,.int .i64 x2] 37) (Below.refl z0.heap.size z0)
    have HN:Own z0.heap.size [.int .i64 x0,.int .i64 x1,.int .i64 x2] (z0.alloc (.cells #[.int .i64 x0,.int .i64 x1,.int .i64 x2] 37)):=Own.newAt rfl
    have J4:=Lib.hid (J3.out.later hal);have HO4:=Lib.hid (HO.out.later hal);have HR4:=Lib.hid (row_later HR.out hal);have HH4:=HH.later hal;have HS4:=s3_of HH4 HK.out
    have KO4:Hid (KeepsOthers W2 (z0.alloc (.cells #[.int .i64 x0,.int .i64 x1,.int .i64 x2] 37))):=Lib.hid (KO.out.trans (KeepsOthers.alloc _ _))
    clear hal HS HH HO HR J3 KO
    generalize (z0.alloc (.cells #[.int .i64 x0,.int .i64 x1,.int .i64 x2] 37))=z4 at *
    obtain⟨Z,eZ⟩:∃ Z,Z=z0.heap.size:=⟨_,rfl⟩
    rw[← eZ] at HN ⊢
    clear eZ
    refine hK.out _ _ HS4 (fun _=>?_)
    clear hK K_
    try simp only[Act.put,List.getElem_toArray,List.getElem_cons_zero,List.getElem_cons_succ,List.setIfInBounds_toArray,List.set_cons_zero,List.set_cons_succ]
    refine wpAnyH_ready (rs:=[16]) (by kernel_rfl) (by simp) ?_
    refine AllReadyH.cons rfl (fun K_ hK=>?_) AllReadyH.nil
    refine step_append_to rfl _ _ 32 rfl 37 i0 (.agg #[.int .i64 0,.int .i64 0,.int .i64 0]) 3 24 Tryz.underlying32 hi hz0 hz1 hz2 rfl (by decide) v6.heap.size _ x _ rfl HR4.out ⟨Z,0,none⟩ 1 1 [.int .i64 x0,.int .i64 x1,.int .i64 x2] rfl rfl HN.news (by simp[Value.oneCell']) N63.out NBY.out J4.out.r ?_
    intro v' z6 hrow hgr
    rw[XS.out] at hrow
    obtain⟨p2,c2,rfl,_⟩:=row_form hrow
    have nb:∀ {b:Nat},b<v6.heap.size→(Value.slice p1 x c1).ownBlock≠some b:=fun hb=>row_ne HR4.out hb
    have HH6:Has D' 0 (nums .u8 G (n*3)) z6:=HH4.grown hgr (nb OO.out.d)
    have HO6:=Lib.hid (HO4.out.grown hgr (nb OO.out.t.2))
    have J6:=Lib.hid (J4.out.body OO.out HR4.out hgr HO4.out hrow)
    have KO6:=Lib.hid ((KO4.out.trans (KeepsOthers.of_grownBy hgr (row_cells HR4.out))).trans (KeepsOthers.setCell z6 ⟨T,1,none⟩ (.slice p2 (x+1) c2)))
    dsimp only at J6
    have HS6:=s3_of HH6 HK.out
    clear hrow hgr nb HO4 HR4 J4 KO4 HS4 HH4 HN XS N63 NBY HH6
    refine hK.out _ _ HS6 (fun _=>?_)
    clear hK K_
    try simp only[Act.put,List.getElem_toArray,List.getElem_cons_zero,List.getElem_cons_succ,List.setIfInBounds_toArray,List.set_cons_zero,List.set_cons_succ]
    refine wpAnyH_take (i:=17) (v := .pointer (some ⟨T,1,none⟩)) rfl (by kernel_rfl) (by kernel_rfl) (by kernel_rfl) (fun _ _ _ h=>h) (Or.inl ⟨by rfl,fun w hSw=>?_⟩) (by assumption) ?_
    ·obtain⟨⟨s0,s1⟩,s2,sl⟩:=hSw;go_simp
    try simp only[Act.put,List.getElem_toArray,List.getElem_cons_zero,List.getElem_cons_succ,List.setIfInBounds_toArray,List.set_cons_zero,List.set_cons_succ]
    refine wpAnyH_ready (rs:=[18]) (by kernel_rfl) (by simp) ?_
    refine AllReadyH.cons rfl (fun K_ hK=>?_) AllReadyH.nil
    have t1:=HO6.out.at 1 _ rfl
    have tf:=HO6.out.ok 1 (by simp)
    have tl:=HO6.out.lt
    go_simp
    clear t1 tf tl
    rw[show z6.setCell ⟨T,1,none⟩ (.slice p2 (x+1) c2)=z6.setCells T 1 [.slice p2 (x+1) c2] from rfl] at KO6 ⊢
    refine hK.out _ _ (s3_of (J6.out.d.resolve_left (by have:=HK.out;show n≠0;omega)).2 HK.out) (fun _=>?_)
    clear hK K_
    try simp only[Act.put,List.getElem_toArray,List.getElem_cons_zero,List.getElem_cons_succ,List.setIfInBounds_toArray,List.set_cons_zero,List.set_cons_succ]
    refine wpAnyH_done (by kernel_rfl) ?_ _
    exact⟨KO6.out,J6.out⟩
   ·go_simp
    have hal:=Below.al (o := .cells #[.int .i64 x0,.int .i64 x1,.int .i64 x2] 37) (Below.refl z0.heap.size z0)
    have HN:Own z0.heap.size [.int .i64 x0,.int .i64 x1,.int .i64 x2] (z0.alloc (.cells #[.int .i64 x0,.int .i64 x1,.int .i64 x2] 37)):=Own.newAt rfl
    have J4:=Lib.hid (J3.out.later hal);have HO4:=Lib.hid (HO.out.later hal);have HR4:=Lib.hid (row_later HR.out hal);have HH4:=HH.later hal;have HS4:=s3_of HH4 HK.out
    have KO4:Hid (KeepsOthers W2 (z0.alloc (.cells #[.int .i64 x0,.int .i64 x1,.int .i64 x2] 37))):=Lib.hid (KO.out.trans (KeepsOthers.alloc _ _))
    clear hal HS HH HO HR J3 KO
    generalize (z0.alloc (.cells #[.int .i64 x0,.int .i64 x1,.int .i64 x2] 37))=z4 at *
    obtain⟨Z,eZ⟩:∃ Z,Z=z0.heap.size:=⟨_,rfl⟩
    rw[← eZ] at HN ⊢
    clear eZ
    refine hK.out _ _ HS4 (fun _=>?_)
    clear hK K_
    try simp only[Act.put,List.getElem_toArray,List.getElem_cons_zero,List.getElem_cons_succ,List.setIfInBounds_toArray,List.set_cons_zero,List.set_cons_succ]
    refine wpAnyH_ready (rs:=[1]) (by kernel_rfl) (by simp) ?_
    refine AllReadyH.cons rfl (fun K_ hK=>?_) AllReadyH.nil
    have t1:=HO4.out.at 1 _ rfl
    have tl:=HO4.out.lt
    go_simp
    clear t1 tl
    refine hK.out _ _ HS4 (fun _=>?_)
    clear hK K_
    try simp only[Act.put,List.getElem_toArray,List.getElem_cons_zero,List.getElem_cons_succ,List.setIfInBounds_toArray,List.set_cons_zero,List.set_cons_succ]
    refine wpAnyH_ready (rs:=[16]) (by kernel_rfl) (by simp) ?_
    refine AllReadyH.cons rfl (fun K_ hK=>?_) AllReadyH.nil
    refine step_append_to rfl _ _ 32 rfl 37 i0 (.agg #[.int .i64 0,.int .i64 0,.int .i64 0]) 3 24 Tryz.underlying32 hi hz0 hz1 hz2 rfl (by decide) v6.heap.size _ x _ rfl HR4.out ⟨Z,0,none⟩ 1 1 [.int .i64 x0,.int .i64 x1,.int .i64 x2] rfl rfl HN.news (by simp[Value.oneCell']) N63.out NBY.out J4.out.r ?_
    intro v' z6 hrow hgr
    rw[XS.out] at hrow
    obtain⟨p2,c2,rfl,_⟩:=row_form hrow
    have nb:∀ {b:Nat},b<v6.heap.size→(Value.slice p1 x c1).ownBlock≠some b:=fun hb=>row_ne HR4.out hb
    have HH6:Has D' 0 (nums .u8 G (n*3)) z6:=HH4.grown hgr (nb OO.out.d)
    have HO6:=Lib.hid (HO4.out.grown hgr (nb OO.out.t.2))
    have J6:=Lib.hid (J4.out.body OO.out HR4.out hgr HO4.out hrow)
    have KO6:=Lib.hid ((KO4.out.trans (KeepsOthers.of_grownBy hgr (row_cells HR4.out))).trans (KeepsOthers.setCell z6 ⟨T,1,none⟩ (.slice p2 (x+1) c2)))
    dsimp only at J6
    have HS6:=s3_of HH6 HK.out
    clear hrow hgr nb HO4 HR4 J4 KO4 HS4 HH4 HN XS N63 NBY HH6
    refine hK.out _ _ HS6 (fun _=>?_)
    clear hK K_
    try simp only[Act.put,List.getElem_toArray,List.getElem_cons_zero,List.getElem_cons_succ,List.setIfInBounds_toArray,List.set_cons_zero,List.set_cons_succ]
    refine wpAnyH_take (i:=17) (v := .pointer (some ⟨T,1,none⟩)) rfl (by kernel_rfl) (by kernel_rfl) (by kernel_rfl) (fun _ _ _ h=>h) (Or.inl ⟨by rfl,fun w hSw=>?_⟩) (by assumption) ?_
    ·obtain⟨⟨s0,s1⟩,s2,sl⟩:=hSw;go_simp
    try simp only[Act.put,List.getElem_toArray,List.getElem_cons_zero,List.getElem_cons_succ,List.setIfInBounds_toArray,List.set_cons_zero,List.set_cons_succ]
    refine wpAnyH_ready (rs:=[18]) (by kernel_rfl) (by simp) ?_
    refine AllReadyH.cons rfl (fun K_ hK=>?_) AllReadyH.nil
    have t1:=HO6.out.at 1 _ rfl
    have tf:=HO6.out.ok 1 (by simp)
    have tl:=HO6.out.lt
    go_simp
    clear t1 tf tl
    rw[show z6.setCell ⟨T,1,none⟩ (.slice p2 (x+1) c2)=z6.setCells T 1 [.slice p2 (x+1) c2] from rfl] at KO6 ⊢
    refine hK.out _ _ (s3_of (J6.out.d.resolve_left (by have:=HK.out;show n≠0;omega)).2 HK.out) (fun _=>?_)
    clear hK K_
    try simp only[Act.put,List.getElem_toArray,List.getElem_cons_zero,List.getElem_cons_succ,List.setIfInBounds_toArray,List.set_cons_zero,List.set_cons_succ]
    refine wpAnyH_done (by kernel_rfl) ?_ _
    exact⟨KO6.out,J6.out⟩
  case hdone =>
   clear JJ
   rintro DD W hD hd hK
   have HJ:=Lib.hid hd;have DW:=Lib.hid hD;have KD:=Lib.hid hK
   clear hd hD hK
   obtain⟨p1,c1,hO1,hR1⟩:=HJ.out.t
   dsimp only at hO1 hR1
   have cap:=row_cap_ hR1
   have TA:TxAt ⟨s,p1,n,c1,G⟩ W:=by
    rcases Nat.eq_zero_or_pos n with h0 | h0
    ·exact⟨.inl h0,cap.1,cap.2⟩
    ·exact (show RowT ⟨s,p1,n,c1,G⟩ W from ⟨h0,_,hR1⟩).at
   have HTA:=Lib.hid TA;have HO:=Lib.hid hO1;have HQ:=Lib.hid HJ.out.q;have HB:=Lib.hid HJ.out.z
   dsimp only at HQ
   have HRW:=Lib.hid hR1
   clear TA cap hR1 HJ
   have t0:=hO1.at 0 _ rfl;have t1:=hO1.at 1 _ rfl;have tl:=hO1.lt
   clear hO1
   go_wp2_with (fail)
   go_at_call 123
   refine (tCheck_any ⟨s,p1,n,c1,G⟩ W HTA.out).mono ?_
   rintro e W2 ⟨rfl,hb⟩
   have HQ2:=Lib.hid (HQ.out.later hb);have HO2:=Lib.hid (HO.out.later hb);have HB2:=Lib.hid (Below.go HB.out hb);have HTA2:=HTA.out.later hb
   have KD2:Hid (W2.heap[DD]?=some (.deferred (some []))):=Lib.hid ((hb.block _ (Array.getElem?_eq_some_iff.1 KD.out).1).trans KD.out)
   have RB2:Hid (Q<v6.heap.size):=Lib.hid OO.out.q.2
   have HRW2:=Lib.hid (row_later HRW.out hb)
   clear hb t0 t1 tl HQ HO HB HTA KD HRW HTA2
   have q0:=HQ2.out.at 0 _ rfl;have qf0:=HQ2.out.ok 0 (by simp);have q1:=HQ2.out.at 1 _ rfl;have qf1:=HQ2.out.ok 1 (by simp);have ql:=HQ2.out.lt
   dsimp only
   obtain⟨z,ez⟩:∃ z,z=chkT (s:Int) n G:=⟨_,rfl⟩
   rw[← ez] at HDE ⊢
   by_cases h0:z=0
   ·subst h0
    have t0:=HO2.out.at 0 _ rfl;have t1:=HO2.out.at 1 _ rfl;have tl:=HO2.out.lt
    go_wp2_with (fail)
    clear q0 qf0 q1 qf1 ql t0 t1 tl
    rw[show ((W2.setCell ⟨Q,0,none⟩ (.int .i64 (s:Int))).setCell ⟨Q,1,none⟩ (.slice p1 n c1))=W2.setCells Q 0 [.int .i64 (s:Int),.slice p1 n c1] from rfl]
    have nDQ2:DD≠Q:=by
     intro e
     have o:=HQ2.out.at 0 _ rfl
     rw[← e] at o
     exact odd_ne ⟨_,KD2.out,rfl⟩ o rfl
    have HQ5:=(show Own Q [.int .i64 (s:Int),.slice p1 n c1] (W2.setCells Q 0 [.int .i64 (s:Int),.slice p1 n c1]) from Own.store HQ2.out rfl)
    have hbt:But Q W2 (W2.setCells Q 0 [.int .i64 (s:Int),.slice p1 n c1]):=But.store
    have KD5:(W2.setCells Q 0 [.int .i64 (s:Int),.slice p1 n c1]).heap[DD]?=some (.deferred (some [])):=(hbt.2 DD (Array.getElem?_eq_some_iff.1 KD2.out).1 nDQ2).trans KD2.out
    have HB5:Below w.heap.size w (W2.setCells Q 0 [.int .i64 (s:Int),.slice p1 n c1]):=Below.setCells HB2.out QW.out _ _
    have HR5:=row_but HRW2.out hbt (row_ne HRW2.out RB2.out)
    clear hbt
    generalize W2.setCells Q 0 [.int .i64 (s:Int),.slice p1 n c1]=W5 at *
    have od:Odd DD W5:=⟨_,KD5,rfl⟩
    refine⟨by simp,.inl ⟨_,_,rfl,run_takeDeferred KD5,?_⟩⟩
    have HQ6:=HQ5.odd (o := .deferred none) od
    have HR6:=row_odd (o := .deferred none) HR5 od
    have HB6:=putObj_below (o := .deferred none) HB5 (show w.heap.size≤DD by have:=W6.out;have:=DW.out;omega)
    clear HQ5 HR5 HB5 od KD5
    generalize W5.putObj DD (.deferred none)=W7 at *
    have hL:=run_loadVar_mid (P:=Tryz.prog) _ Q 0 36 [.int .i64 (s:Int),.slice p1 n c1] _ HQ6.cell Tryz.underlying36 rfl (by kernel_rfl)
    refine⟨.tuple #[.agg ([.int .i64 (s:Int),.slice p1 n c1]:List Value).toArray,.int .i64 0],res_two Tryz.results117 rfl hL rfl,?_⟩
    have cap:=row_cap_ HR6
    have TA:TxAt ⟨s,p1,n,c1,G⟩ W7:=by
     rcases Nat.eq_zero_or_pos n with h0 | h0
     ·exact⟨.inl h0,cap.1,cap.2⟩
     ·exact (show RowT ⟨s,p1,n,c1,G⟩ W7 from ⟨h0,_,HR6⟩).at
    have e1:dcS F N=s:=by unfold dcS;rw[HDE.out,if_pos rfl,HE.out]
    refine⟨⟨s,p1,n,c1,G⟩,by rw[HDE.out],⟨TA,⟨by rw[e1],by rw[e1];exact EN.out,fun j _=>GG.out j⟩,FrQ.row HR6 W6.out⟩,HB6⟩
   ·have hd:(z != 0)=true:=by simpa using h0
    go_wp2_with (fail)
    clear q0 qf0 q1 qf1 ql
    rw[show ((W2.setCell ⟨Q,0,none⟩ (.int .i64 0)).setCell ⟨Q,1,none⟩ (.slice none 0 0))=W2.setCells Q 0 [.int .i64 0,.slice none 0 0] from rfl]
    have nDQ2:DD≠Q:=by
     intro e
     have o:=HQ2.out.at 0 _ rfl
     rw[← e] at o
     exact odd_ne ⟨_,KD2.out,rfl⟩ o rfl
    have HQ5:=(show Own Q [.int .i64 0,.slice none 0 0] (W2.setCells Q 0 [.int .i64 0,.slice none 0 0]) from Own.store HQ2.out rfl)
    have hbt:But Q W2 (W2.setCells Q 0 [.int .i64 0,.slice none 0 0]):=But.store
    have KD5:(W2.setCells Q 0 [.int .i64 0,.slice none 0 0]).heap[DD]?=some (.deferred (some [])):=(hbt.2 DD (Array.getElem?_eq_some_iff.1 KD2.out).1 nDQ2).trans KD2.out
    have HB5:Below w.heap.size w (W2.setCells Q 0 [.int .i64 0,.slice none 0 0]):=Below.setCells HB2.out QW.out _ _
    have HR5:=row_but HRW2.out hbt (row_ne HRW2.out RB2.out)
    clear hbt
    generalize W2.setCells Q 0 [.int .i64 0,.slice none 0 0]=W5 at *
    have od:Odd DD W5:=⟨_,KD5,rfl⟩
    refine⟨by simp,.inl ⟨_,_,rfl,run_takeDeferred KD5,?_⟩⟩
    have HQ6:=HQ5.odd (o := .deferred none) od
    have HR6:=row_odd (o := .deferred none) HR5 od
    have HB6:=putObj_below (o := .deferred none) HB5 (show w.heap.size≤DD by have:=W6.out;have:=DW.out;omega)
    clear HQ5 HR5 HB5 od KD5
    generalize W5.putObj DD (.deferred none)=W7 at *
    have hL:=run_loadVar_mid (P:=Tryz.prog) _ Q 0 36 [.int .i64 0,.slice none 0 0] _ HQ6.cell Tryz.underlying36 rfl (by kernel_rfl)
    refine⟨.tuple #[.agg ([.int .i64 0,.slice none 0 0]:List Value).toArray,.int .i64 z],res_two Tryz.results117 rfl hL rfl,?_⟩
    exact⟨⟨0,none,0,0,fun _=>0⟩,by rw[HDE.out],⟨⟨.inl rfl,Nat.le_refl _,by decide⟩,tdec_zero (by rw[HDE.out];exact h0),.inl rfl⟩,HB6⟩
end Go.Proofs.YtbilamnnneddmaaGreatDoor
namespace Go.Proofs.YtbilamnnneddmaaGreatDoor
set_option linter.unusedVariables false
set_option maxRecDepth 2000
set_option linter.unusedSimpArgs false
open Go.RowKit
theorem leN_w1 (f:Nat→Int):leN f 1=f 0:=by unfold leN leN;rw[pw_zero];omega
end Go.Proofs.YtbilamnnneddmaaGreatDoor
namespace Go.Proofs.YtbilamnnneddmaaGreatDoor
set_option linter.unusedVariables false
set_option maxRecDepth 2000
set_option linter.unusedSimpArgs false
open Go.RowKit
theorem dec_n {F:Nat→Int} {N:Nat} {Z:Txr} (h:DecO F N Z):Z.n*3≤N:=by
 rw[h.n]
 unfold dcS
 split
 ·rename_i h0
  rcases Nat.lt_or_ge N (needT F N) with h1 | h1
  ·rw[dec_4 h1] at h0;cases h0
  ·unfold needT at h1;omega
 ·omega
attribute [local go_sem ↓ high] sliced_head
end Go.Proofs.YtbilamnnneddmaaGreatDoor
