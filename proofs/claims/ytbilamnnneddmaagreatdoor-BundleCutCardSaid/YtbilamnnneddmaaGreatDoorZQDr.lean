import Derived.Test.YtbilamnnneddmaaGreatDoorRows
import Derived.Test.YtbilamnnneddmaaGreatDoorZPCx
import Derived.Test.YtbilamnnneddmaaGreatDoorZCHx
import Derived.Test.YtbilamnnneddmaaGreatDoorZGU
import Derived.WalkKit
import Derived.ProofKit
import Derived.OpenShut
import Derived.ChangeSame
import Derived.LaidMore
import Derived.LaidLaws
import Derived.LaidHandle
import Derived.MakeChecks
import Derived.Lib.LaidTab
namespace Go.Proofs.YtbilamnnneddmaaGreatDoor
set_option linter.unusedVariables false
set_option maxRecDepth 2000
set_option linter.unusedSimpArgs false
open Go.ChangeShapes Go.WideShapes Go.ChangeAt Go.RowKit Go.Joins Go.Deep
def laidL:List (String×DataW Unit):=[("umbra/chacha.groups",Rows.laid_umbra_chacha_groups),("umbra/manifest.caps",Rows.laid_umbra_manifest_caps)]
theorem gGroups:Tryz.prog.globalNamed "umbra/chacha.groups"=some 1:=by kernel_rfl
theorem tGroups:(Tryz.prog.globals[1]?).map (·.type)=some 235:=by kernel_rfl
theorem gCaps:Tryz.prog.globalNamed "umbra/manifest.caps"=some 0:=by kernel_rfl
theorem tCaps:(Tryz.prog.globals[0]?).map (·.type)=some 141:=by kernel_rfl
set_option maxRecDepth 100000 in
theorem door_met (os:Os) (args:Array Value):laidMetH Tryz.prog laidL ((World.doorLaid Tryz.prog 400 os).forCall (fun _ _=>0) ⟨#[],args,[]⟩).memory :=
 laidMetH_of_parts3 (fuel:=8) (laidMet_of_run' 8 (by kernel_rfl) (by kernel_rfl)) (by kernel_rfl) (by kernel_rfl)
theorem has_var {W:World} {name:String} {g:Nat} {cs:Array Value} {l:List Value} (hg:Tryz.prog.globalNamed name=some g) (hv:W.var? Tryz.prog name=some cs) (hc:cs.toList=l):Has g 0 l W:=by
 have hcell:∀ j v,l[j]?=some v→W.cell? ⟨g,0+j,none⟩=some v:=fun j v hj=>by
  rw[Nat.zero_add,World.var?_cell hg hv j,← hj,← hc]
  simp
 refine⟨?_,hcell⟩
 have hv2:=hv
 simp only[World.var?,hg,Option.bind_some] at hv2
 split at hv2
 ·rename_i hq
  exact (Array.getElem?_eq_some_iff.1 hq).1
 ·cases hv2
theorem split8 (l:List Value) (h:l.length=32):l=(l.drop 0).take 4 ++ ((l.drop 4).take 4 ++ ((l.drop 8).take 4 ++ ((l.drop 12).take 4 ++ ((l.drop 16).take 4 ++ ((l.drop 20).take 4 ++ ((l.drop 24).take 4 ++ (l.drop 28).take 4)))))):=by
 apply List.ext_getElem?
 intro j
 simp only[List.getElem?_append,List.getElem?_take,List.getElem?_drop,List.length_take,List.length_drop,h]
 repeat' split
 all_goals first | rfl | (congr 1;omega) | (exfalso;omega) | (rw[List.getElem?_eq_none (by omega)])
theorem of_laid {W:World} (h:laidMetH Tryz.prog laidL W):Has 1 0 GL W∧Has 0 0 CapL W:=by
 rw[MakeChecks.laidMetH_plain _ _ _ (by kernel_rfl)] at h
 obtain⟨ps,⟨gG,tG,csG,fG,pG,qG,hgG,htG,hvG,hdG,⟨gC,tC,csC,fC,pC,qC,hgC,htC,hvC,hdC,_,_⟩,_⟩,_,_⟩:=h
 obtain rfl:=Option.some.inj (gGroups.symm.trans hgG)
 obtain rfl:=Option.some.inj (tGroups.symm.trans htG)
 obtain rfl:=Option.some.inj (gCaps.symm.trans hgC)
 obtain rfl:=Option.some.inj (tCaps.symm.trans htC)
 have k1:Tryz.prog.cellsOf 3=1:=by kernel_rfl
 have k5:Tryz.prog.cellsOf 141=5:=by kernel_rfl
 have eC:=Lib.cells_of_tab (zs:=[0,2048,1024,64,64]) Tryz.underlying141 Tryz.underlying3 k1 k5 (p:=pC) (by rw[hdC];rfl)
 refine⟨?_,has_var gCaps hvC (eC.trans (by kernel_rfl))⟩
 obtain⟨xs,m,rfl,hx,hlen,hn,hel⟩:=DataW.trod_array Tryz.underlying235 hdG
 have c4:Tryz.prog.cellsOf 230=4:=by kernel_rfl
 have c1:Tryz.prog.cellsOf 3=1:=by kernel_rfl
 have c32:Tryz.prog.cellsOf 235=32:=by kernel_rfl
 rw[c32] at hlen
 rw[c4] at hel
 simp only[Prod.mk.injEq] at hx
 have hx1:=hx.1
 match xs,hn,hx1,hel with
 | [x0,x1,x2,x3,x4,x5,x6,x7],_,hx1,hel =>
  simp only[Rows.laid_umbra_chacha_groups,DataW.agg.injEq,List.map_cons,List.map_nil,List.cons.injEq] at hx1
  obtain⟨y0,y1,y2,y3,y4,y5,y6,y7,_⟩:=hx1
  have z0:=Lib.cells_of_tab (zs:=[0,4,8,12]) Tryz.underlying230 Tryz.underlying3 c1 c4 (by rw[hel 0 (by decide)];show some x0=_;rw[show x0=(Lib.tabData .i64 [0,4,8,12],x0.2) from Prod.ext y0.symm rfl])
  have z1:=Lib.cells_of_tab (zs:=[1,5,9,13]) Tryz.underlying230 Tryz.underlying3 c1 c4 (by rw[hel 1 (by decide)];show some x1=_;rw[show x1=(Lib.tabData .i64 [1,5,9,13],x1.2) from Prod.ext y1.symm rfl])
  have z2:=Lib.cells_of_tab (zs:=[2,6,10,14]) Tryz.underlying230 Tryz.underlying3 c1 c4 (by rw[hel 2 (by decide)];show some x2=_;rw[show x2=(Lib.tabData .i64 [2,6,10,14],x2.2) from Prod.ext y2.symm rfl])
  have z3:=Lib.cells_of_tab (zs:=[3,7,11,15]) Tryz.underlying230 Tryz.underlying3 c1 c4 (by rw[hel 3 (by decide)];show some x3=_;rw[show x3=(Lib.tabData .i64 [3,7,11,15],x3.2) from Prod.ext y3.symm rfl])
  have z4:=Lib.cells_of_tab (zs:=[0,5,10,15]) Tryz.underlying230 Tryz.underlying3 c1 c4 (by rw[hel 4 (by decide)];show some x4=_;rw[show x4=(Lib.tabData .i64 [0,5,10,15],x4.2) from Prod.ext y4.symm rfl])
  have z5:=Lib.cells_of_tab (zs:=[1,6,11,12]) Tryz.underlying230 Tryz.underlying3 c1 c4 (by rw[hel 5 (by decide)];show some x5=_;rw[show x5=(Lib.tabData .i64 [1,6,11,12],x5.2) from Prod.ext y5.symm rfl])
  have z6:=Lib.cells_of_tab (zs:=[2,7,8,13]) Tryz.underlying230 Tryz.underlying3 c1 c4 (by rw[hel 6 (by decide)];show some x6=_;rw[show x6=(Lib.tabData .i64 [2,7,8,13],x6.2) from Prod.ext y6.symm rfl])
  have z7:=Lib.cells_of_tab (zs:=[3,4,9,14]) Tryz.underlying230 Tryz.underlying3 c1 c4 (by rw[hel 7 (by decide)];show some x7=_;rw[show x7=(Lib.tabData .i64 [3,4,9,14],x7.2) from Prod.ext y7.symm rfl])
  have e:csG.toList=GL:=by
   rw[split8 csG.toList hlen]
   simp only[Nat.zero_mul,Nat.one_mul,Nat.reduceMul] at z0 z1 z2 z3 z4 z5 z6 z7
   rw[z0,z1,z2,z3,z4,z5,z6,z7]
   rfl
  exact has_var gGroups hvG e
end Go.Proofs.YtbilamnnneddmaaGreatDoor
