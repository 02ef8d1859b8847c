import Derived.Test.YtbilamnnneddmaaGreatDoorZKA
import Derived.Test.YtbilamnnneddmaaGreatDoorZCBx
import Derived.Lib.Hide
import Derived.LoopN
import Derived.LoopTactic
import Derived.Deep.Onto
import Derived.Deep.QuietTactic
import Derived.BigQuiet
namespace Go.Proofs.YtbilamnnneddmaaGreatDoor
set_option linter.unusedVariables false
set_option maxRecDepth 2000
set_option linter.unusedSimpArgs false
open Go.RowKit
def capF (k:Int):Int:=if k=1 then 2048 else if k=2 then 1024 else if k=3∨k=4 then 64 else 0
def chunkF (n:Int):Int:=if n<1 then 0 else (n - 1)/256+1
abbrev CapL:List Value:=[.int .i64 0,.int .i64 2048,.int .i64 1024,.int .i64 64,.int .i64 64]
theorem capF_no (k:Int) (h:k<1∨4<k):capF k=0:=by
 unfold capF
 rw[if_neg (by omega),if_neg (by omega),if_neg (by omega)]
theorem capF_le (k:Int):0≤capF k∧capF k≤2048:=by
 unfold capF
 split
 ·omega
 ·split
  ·omega
  ·split<;>omega
theorem cap_kind {k:Int} (h:capF k≠0):1≤k∧k≤4:=by
 unfold capF at h
 split at h
 ·omega
 ·split at h
  ·omega
  ·split at h<;>omega
theorem Cap_any (k:Int) (w:World) (hg:Has 0 0 CapL w):Calls Tryz.prog 50 #[.int .i64 k] w fun e w'=>e = .returned (.int .i64 (capF k))∧w'=w:=by
 have c0:=hg.at 0 _ rfl;have c1:=hg.at 1 _ rfl;have c2:=hg.at 2 _ rfl;have c3:=hg.at 3 _ rfl;have c4:=hg.at 4 _ rfl
 have gl:=hg.lt
 rw[Nat.zero_add] at c0 c1 c2 c3 c4
 clear hg
 by_cases h1:k<0
 ·have e1:decide (k<0)=true:=decide_eq_true h1
  rw[capF_no k (by omega)]
  go_enter Tryz.func50,Tryz.ntmps50
  go_wp2_with (fail)
  go_ret
  exact⟨rfl,rfl⟩
 ·have e1:decide (k<0)=false:=decide_eq_false h1
  by_cases h2:5≤k
  ·have e2:decide (5≤k)=true:=decide_eq_true h2
   rw[capF_no k (by omega)]
   go_enter Tryz.func50,Tryz.ntmps50
   go_wp2_with (fail)
   go_ret
   exact⟨rfl,rfl⟩
  ·obtain rfl | rfl | rfl | rfl | rfl:k=0∨k=1∨k=2∨k=3∨k=4:=by omega
   all_goals
    clear h1 h2 e1
    go_enter Tryz.func50,Tryz.ntmps50
    go_wp2_with (fail)
    go_ret
    exact⟨rfl,rfl⟩
theorem chunkF_no {n:Int} (h:n<1):chunkF n=0:=if_pos h
theorem chunkF_yes {n:Int} (h:¬n<1):chunkF n=(n - 1)/256+1:=if_neg h
theorem Chunks_any (n:Int) (hn : -9223372036854775808≤n∧n≤9223372036854775807) (w:World):Calls Tryz.prog 22 #[.int .i64 n] w fun e w'=>e = .returned (.int .i64 (chunkF n))∧w'=w:=by
 by_cases h1:n<1
 ·have e1:decide (n<1)=true:=decide_eq_true h1
  rw[chunkF_no h1]
  go_enter Tryz.func22,Tryz.ntmps22
  go_wp2_with (fail)
  go_ret
  exact⟨rfl,rfl⟩
 ·have e1:decide (n<1)=false:=decide_eq_false h1
  rw[chunkF_yes h1]
  have t:(n - 1).tdiv 256=(n - 1)/256:=Int.tdiv_eq_ediv_of_nonneg (by omega)
  have r1:IntKind.i64.wrap (n - 1)=n - 1:=IntWalk.i64_in _ (by omega)
  have r2:IntKind.i64.wrap ((n - 1)/256)=(n - 1)/256:=IntWalk.i64_in _ (by omega)
  have r3:IntKind.i64.wrap ((n - 1)/256+1)=(n - 1)/256+1:=IntWalk.i64_in _ (by omega)
  go_enter Tryz.func22,Tryz.ntmps22
  go_wp2_with (fail)
  go_ret
  first | exact⟨rfl,rfl⟩ | exact⟨by simp only[t,r1,r2,r3],rfl⟩
end Go.Proofs.YtbilamnnneddmaaGreatDoor
