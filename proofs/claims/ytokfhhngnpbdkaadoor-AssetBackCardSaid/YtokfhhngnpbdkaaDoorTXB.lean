/- YA YB YC ZA ZB ZC ZD MUB, in one text. -/
import Derived.Test.YtokfhhngnpbdkaaDoorMB0
import Derived.RangeFuncCalls
import Derived.RangeFuncOwn
import Derived.RangeFuncLeaves
import Derived.OrdersIn
import Derived.OrdersHeld
import Derived.Lib.Hide
import Derived.Test.YtokfhhngnpbdkaaDoorMS1
import Derived.Test.YtokfhhngnpbdkaaDoorTXA
import Derived.Lib.SliceRun
import Derived.TacticsInMore
import Derived.OwnWalkIn
import Derived.LoopNIn
import Derived.LoopIn
import Derived.Great.BuildSlice
/- YA -/
namespace Go.Proofs.YtokfhhngnpbdkaaDoor
set_option linter.unusedVariables false
set_option maxRecDepth 2000
set_option linter.unusedSimpArgs false
open Go.RowKit
/-! what is walked plainly, within a round -/
theorem rows_in {n : Nat} {P : Program} {row : String} {args : Array Value} {w : World} {R : Value → World → Prop} (h : Rows P row args w R) : RowsIn Fence.wide n P row args w R :=
  fun c cs _ => let ⟨v, w', r, s⟩ := h c cs; ⟨v, w', r, stepsIn_wide.2 s⟩
def nodf (o : Oper) : Bool := match o.op with | .defer _ => false | _ => true
theorem nodf_ne {o : Oper} (h : nodf o = true) (c : Call) : o.op ≠ .defer c := fun e => by
  unfold nodf at h
  rw [e] at h
  cases h
theorem op_round {l n : Nat} {P : Program} {o : Oper} {a : Act} {w : World} {K : Act → World → Prop} {Q : Exit → Act → World → Prop} (hd : nodf o = true) (h : o.wp P a w K Q) : o.wpIn (Fence.wide.inRound l) n P a w K Q := by
  refine ⟨fun _ _ => trivial, ?_⟩
  rw [show (Fence.wide.inRound l).round = some l from rfl, Oper.semAt_some l _ _ (nodf_ne hd)]
  unfold Oper.wp at h
  generalize (execOp a.eval o).run P w = r at *
  cases r with
  | ok nx w' =>
    cases nx with
    | value v => exact h
    | skip => exact h
    | defer d => exact h
    | enter f args => exact ⟨(fun hh => by cases hh), CallsIn.inRound l (callsIn_wide.2 h)⟩
    | row row args => exact ⟨(fun hh => by cases hh), rows_in h⟩
    | _ => exact h.elim
  | halt x w' =>
    cases x with
    | panic v => exact h
    | _ => exact h.elim
theorem list_round {l n : Nat} {P : Program} {ops : Array Oper} {Q : Exit → Act → World → Prop} (hQ : ¬LetsOut Q) : ∀ (rest : List Oper) (a : Act) (w : World), (∀ o ∈ rest, nodf o = true) → wpList P ops Q rest a w → wpListIn (Fence.wide.inRound l) n P ops Q rest a w
  | [], _, _, _, h => h
  | o :: rest, a, w, hd, h => by
    have ih := fun (a : Act) (w : World) (h : wpList P ops Q rest a w) => list_round (l := l) (n := n) hQ rest a w (fun o ho => hd o (List.mem_cons_of_mem _ ho)) h
    unfold wpList at h
    unfold wpListIn
    split
    · rename_i hw
      rw [if_pos hw] at h
      rcases h with h | ⟨_, h⟩
      · exact op_round (hd o List.mem_cons_self) (Oper.wp_mono ih h)
      · exact absurd h hQ
    · rename_i hw
      rw [if_neg hw] at h
      exact ⟨fun _ _ => trivial, ih _ _ h⟩
theorem any_round {l n : Nat} {P : Program} {md : Region.Mode} {ops : Array Oper} {Q : Exit → Act → World → Prop} (hQ : ¬LetsOut Q) (hd : ∀ (i : Nat) (o : Oper), ops[i]? = some o → nodf o = true) : ∀ (fuel : Nat) (listed : Array Bool) (a : Act) (w : World), wpAny P md ops Q fuel listed a w → wpAnyIn (Fence.wide.inRound l) n P md ops Q fuel listed a w
  | 0, _, _, _, h => h
  | fuel + 1, listed, a, w, h => by
    refine ⟨h.1, fun i hi => ?_⟩
    have h1 := h.2 i hi
    unfold wpOp at h1
    unfold wpOpIn
    split
    · rename_i ho
      rw [ho] at h1
      exact any_round hQ hd fuel _ a w h1
    · rename_i o ho
      rw [ho] at h1
      dsimp only at h1
      split
      · rename_i hw
        rw [if_pos hw] at h1
        rcases h1 with h1 | ⟨_, h1⟩
        · exact op_round (hd i o ho) (Oper.wp_mono (fun a w h => any_round hQ hd fuel _ a w h) h1)
        · exact absurd h1 hQ
      · rename_i hw
        rw [if_neg hw] at h1
        exact ⟨fun _ _ => trivial, any_round hQ hd fuel _ _ _ h1⟩
/-- a region that is not drawn, in a round -/
theorem region_round {l n : Nat} {P : Program} {id : Nat} {ops : List Oper} {Q : Exit → Act → World → Prop} {a : Act} {w : World} (hQ : ¬LetsOut Q) (hd : ops.all nodf = true) (h : wpList P ops.toArray Q ops a w) : (Code.region id ops.toArray false).wpIn (Fence.wide.inRound l) n P Q a w :=
  wpIn_region_lit (list_round hQ _ _ _ (fun o ho => List.all_eq_true.1 hd o ho) h)
/-- a region that draws its order, in a round: some cells held -/
theorem held_round {l n : Nat} {P : Program} {id : Nat} {ops : Array Oper} {Q : Exit → Act → World → Prop} {S : World → Prop} {a : Act} {w : World} (hm : P.follows .mixedOrders = true) (hQ : ¬LetsOut Q) (hd : ops.all nodf = true)
    (h : wpAnyH P .any ops Q S ops.size (Array.replicate ops.size false) a w.drew) : (Code.region id ops true).wpIn (Fence.wide.inRound l) n P Q a w :=
  wpIn_region_any hm (any_round hQ (fun i o ho => by
    obtain ⟨hi, rfl⟩ := Array.getElem?_eq_some_iff.1 ho
    exact Array.all_eq_true.1 hd i hi) _ _ _ _ (wpAny_of_held _ _ _ _ h))
end Go.Proofs.YtokfhhngnpbdkaaDoor

/- YB -/
namespace Go.Proofs.YtokfhhngnpbdkaaDoor
set_option linter.unusedVariables false
set_option maxRecDepth 2000
set_option linter.unusedSimpArgs false
set_option linter.unusedVariables false
open Go.RowKit
/-- how a round's body is left: it goes on -/
def goesOn (J : World → Prop) (W0 : World) : Exit → Act → World → Prop
  | .normal, _, W' => KeepsOthers W0 W' ∧ J W'
  | _, _, _ => False
/-- a block that is no cells -/
def Odd (l : Nat) (W : World) : Prop := ∃ o, W.heap[l]? = some o ∧ o.isCells = false
theorem range_book {α σ : Type} {n : Nat} {P : Program} {g : Operand} {ps : Array Tmp} {assign body : Code} {Q : Exit → Act → World → Prop} {a : Act} {w : World}
    {gf : Nat} {lb : Array Value} (hg : a.eval g = .func (.func gf) #[] lb) (eg : ∀ args w, (callFunc gf args).run P w = .ok (.enter gf args) w)
    {encs : α → Array Value} (hps : ∀ x, (encs x).size = ps.size)
    (I0 : World → Prop) (J : σ → World → Prop) (ok : σ → α → Prop) (st : σ → α → σ) (Done : World → Prop)
    (h0 : ∀ o o', I0 ((w.alloc o).alloc o'))
    (hJ : ∀ s W l o, J s W → w.heap.size ≤ l → Odd l W → J s (W.putObj l o))
    (hD : ∀ W l o, Done W → w.heap.size ≤ l → Odd l W → Done (W.putObj l o))
    (hround : ∀ l s x W, w.heap.size < l → J s W → ok s x → Odd l W →
      assign.wpIn (Fence.wide.inRound l) (n - 1 - 1) P (Exit.then (fun a₁ W₁ => KeepsOthers W W₁ ∧ ∀ o, body.wpIn (Fence.wide.inRound l) (n - 1 - 1) P (goesOn (J (st s x)) (W₁.putObj l o)) a₁ (W₁.putObj l o)) (fun _ _ _ => False))
        { tmps := (ps.zip (encs x)).foldl (fun t (p, v) => t.setIfInBounds p v) a.tmps, defers := [] } W)
    (hiter : ∀ (l : Nat) (Bk : World → Prop) (W1 : World), Below w.heap.size w W1 → (∀ W W', Bk W → KeepsOthers W W' → Bk W') → Bk W1 → I0 W1 →
      (∀ s x W, Bk W → J s W → ok s x → YieldAt Fence.wide (n - 1 - 1) P l (encs x) W fun e W' => e = .returned (.bool true) ∧ Bk W' ∧ J (st s x) W') →
      CallsIn Fence.wide (n - 1) P gf (#[.func (.yield l) #[] #[]] ++ lb) W1 fun e W' => (∃ v, e = .returned v) ∧ Bk W' ∧ Done W')
    (hdone : ∀ D W, w.heap.size ≤ D → Done W → W.heap[D]? = some (.deferred (some [])) → Q .normal { a with defers := { target := .collected D, args := #[] } :: a.defers } W) :
    (Code.rangeFunc g ps assign body).wpIn Fence.wide n P Q a w := by
  refine wpIn_rangeFunc fun fn hfn => ?_
  rw [show Fence.wide.round = none from rfl]
  obtain ⟨rec, hrec⟩ : ∃ rec : LoopState → Loop, rec = fun s => { state := s, pending := none, fn, tmps := a.tmps, params := ps, assign, body, defers := w.heap.size } := ⟨_, rfl⟩
  obtain ⟨W1, hW1⟩ : ∃ W1, (w.alloc (.deferred (some []))).alloc (.loop (rec .ready)) = W1 := ⟨_, rfl⟩
  have hL1 : W1.heap[w.heap.size + 1]? = some (.loop (rec .ready)) := by
    have := World.alloc_heap_new (w.alloc (.deferred (some []))) (.loop (rec .ready))
    rwa [World.size_alloc, hW1] at this
  have hK1 : W1.heap[w.heap.size]? = some (.deferred (some [])) := by
    rw [← hW1]
    exact (Below.heap_alloc _ _ _ (by simp)).trans (World.alloc_heap_new w _)
  have hB1 : Below w.heap.size w W1 := hW1 ▸ ((Below.refl _ w).alloc (Nat.le_refl _) _).alloc (by simp) _
  have hI1 : I0 W1 := hW1 ▸ h0 _ _
  refine ⟨w.heap.size + 1, [{ target := .collected w.heap.size, args := #[] }], W1, { target := .fn (.func gf) lb, args := #[.func (.yield (w.heap.size + 1)) #[] #[]] }, W1, gf, #[.func (.yield (w.heap.size + 1)) #[] #[]] ++ lb, W1, ?_, ?_, fun _ _ => trivial, ?_, (fun h => by cases h), ?_⟩
  · rw [← hW1, hrec]
    exact run_enterLoop_outer _ _ _ _ _
  · simp only [resolve, hg]
    simp [go_sem]
  · simp [invoke, go_sem, eg]
  · refine (hiter (w.heap.size + 1) (fun W => W.heap[w.heap.size + 1]? = some (.loop (rec .ready)) ∧ W.heap[w.heap.size]? = some (.deferred (some []))) W1 hB1
      (fun W W' h k => ⟨k.same _ _ h.1 rfl, k.same _ _ h.2 rfl⟩) ⟨hL1, hK1⟩ hI1 ?_).mono ?_
    · rintro s x W ⟨hl, hk⟩ hj hok
      have hlt : w.heap.size + 1 < W.heap.size := (Array.getElem?_eq_some_iff.1 hl).1
      have hy := run_yield (P := P) (args := encs x) hl (by rw [hrec]; exact hps x)
      rw [hrec] at hy
      refine ⟨fn, _, assign, body, hy, roundIn_of_wpIn hfn (wpIn_mono (hround (w.heap.size + 1) s x W (Nat.lt_succ_self _) hj hok ⟨_, hl, rfl⟩) ?_)⟩
      rintro e a1 W2 hp
      cases e with
      | normal =>
        obtain ⟨hk2, hb⟩ := hp
        have hl2 := hk2.same _ _ hl rfl
        have hlt2 := (Array.getElem?_eq_some_iff.1 hl2).1
        refine ⟨_, run_beginRound hl2 (by rw [hrec]), wpIn_mono (hb _) ?_⟩
        rintro e3 a3 W3 hp3
        cases e3 with
        | normal =>
          obtain ⟨hk3, hj3⟩ := hp3
          have hl3 := hk3.same _ _ (World.putObj_heap_same hlt2) rfl
          have hd3 := hk3.same _ _ ((World.putObj_heap_other (show w.heap.size ≠ w.heap.size + 1 by omega)).trans (hk2.same _ _ hk rfl)) rfl
          have he := run_endRound (P := P) none hl3
          rw [hrec] at he ⊢
          refine ⟨_, _, he, rfl, ⟨World.putObj_heap_same (Array.getElem?_eq_some_iff.1 hl3).1, (World.putObj_heap_other (by omega)).trans hd3⟩, hJ _ _ _ _ hj3 (by omega) ⟨_, hl3, rfl⟩⟩
        | _ => exact hp3.elim
      | _ => exact hp.elim
    · rintro e W2 ⟨⟨v, rfl⟩, ⟨hl, hk⟩, hd⟩
      have he := run_endLoop (P := P) hl (by rw [hrec]; simp)
      rw [hrec] at he
      exact ⟨none, _, he, hdone _ _ (Nat.le_refl _) (hD _ _ _ hd (by omega) ⟨_, hl, rfl⟩) ((World.putObj_heap_other (by omega)).trans hk)⟩
end Go.Proofs.YtokfhhngnpbdkaaDoor

/- YC -/
namespace Go.Proofs.YtokfhhngnpbdkaaDoor
set_option linter.unusedVariables false
set_option maxRecDepth 2000
set_option linter.unusedSimpArgs false
open Go.RowKit
theorem odd_ne {l b o : Nat} {v : Value} {W : World} (h : Odd l W) (hc : W.cell? ⟨b, o, none⟩ = some v) : b ≠ l := fun e => by
  subst e
  obtain ⟨ob, h1, h2⟩ := h
  obtain ⟨o2, h3, h4⟩ := cells_of_cell hc
  rw [h1] at h3
  injection h3 with h3
  rw [h3, h4] at h2
  cases h2
theorem Odd.lt {l : Nat} {W : World} (h : Odd l W) : l < W.heap.size := by
  obtain ⟨o, h1, _⟩ := h
  exact (Array.getElem?_eq_some_iff.1 h1).1
theorem putObj_below {B l : Nat} {w W : World} {o : Obj} (h : Below B w W) (hl : B ≤ l) : Below B w (W.putObj l o) :=
  h.trans ⟨rfl, rfl, rfl, by rw [World.putObj_size]; exact Nat.le_refl _, fun i hi => World.putObj_heap_other (by omega)⟩
theorem But.putObj {l : Nat} {W : World} {o : Obj} : But l W (W.putObj l o) := ⟨putObj_below (Below.refl _ _) (Nat.le_refl _), fun i _ hn => World.putObj_heap_other hn⟩
theorem Own.odd {b l : Nat} {v : Value} {cs : List Value} {W : World} {o : Obj} (h : Own b (v :: cs) W) (hl : Odd l W) : Own b (v :: cs) (W.putObj l o) :=
  h.but But.putObj (odd_ne hl (h.at 0 v rfl))
theorem row_odd {W : World} {base size n l : Nat} {e : TypeId} {v : Value} {xs : List Value} {o : Obj} (h : W.ownsRow base e size v n xs) (hl : Odd l W) : (W.putObj l o).ownsRow base e size v n xs := by
  refine row_but h But.putObj ?_
  rcases h.2 with ⟨rfl, _⟩ | ⟨g, cap, cur, rfl, _, hg, _⟩
  · simp [Value.ownBlock]
  · simp only [Value.ownBlock, ne_eq, Option.some.injEq]
    rintro rfl
    obtain ⟨ob, h1, h2⟩ := hl
    rw [hg] at h1
    injection h1 with h1
    rw [← h1] at h2
    cases h2
theorem Has.odd {b i l : Nat} {v : Value} {cs : List Value} {W : World} {o : Obj} (h : Has b i (v :: cs) W) (hl : Odd l W) : Has b i (v :: cs) (W.putObj l o) :=
  h.but But.putObj (odd_ne hl (h.at 0 v rfl))
theorem NmS.odd {W : World} {s n l : Nat} {q : Option Addr} {f : Nat → Int} {o : Obj} (h : NmS W s q n f) (hl : Odd l W) : NmS (W.putObj l o) s q n f := by
  rcases h with h | ⟨b, off, h1, h2⟩
  · exact .inl h
  · by_cases h0 : n * s = 0
    · refine .inr ⟨b, off, h1, ⟨by rw [World.putObj_size]; exact h2.lt, fun j v hv => ?_⟩⟩
      rw [h0] at hv
      cases hv
    · obtain ⟨k, hk⟩ : ∃ k, n * s = k + 1 := ⟨n * s - 1, by omega⟩
      refine .inr ⟨b, off, h1, ?_⟩
      rw [hk] at h2 ⊢
      exact h2.but But.putObj (odd_ne hl (h2.at 0 (.int .i64 (f 0)) (nums_at _ _ (by omega))))
end Go.Proofs.YtokfhhngnpbdkaaDoor

/- ZA -/
namespace Go.Proofs.YtokfhhngnpbdkaaDoor
set_option linter.unusedVariables false
set_option maxRecDepth 2000
set_option linter.unusedSimpArgs false
open Go.RowKit
/-- the side of a level -/
def sdF (s : Nat) : Nat → Nat
  | 0 => s
  | k + 1 => sdF s k / 2
/-- the numbers of a level -/
def lvF (f : Nat → Int) (s : Nat) : Nat → Nat → Int
  | 0 => f
  | k + 1 => hlfF (lvF f s k) (sdF s k) (sdF s (k + 1))
/-- the count of the levels -/
def LastK (s K : Nat) : Prop := 1 ≤ K ∧ sdF s (K - 1) = 1 ∧ ∀ j, j + 1 < K → 2 ≤ sdF s j
/-- a level -/
structure LvOk (f : Nat → Int) (s j : Nat) (M : Txr) : Prop where
  S : M.S = (sdF s j : Int)
  n : M.n = sdF s j * sdF s j
  f : M.f = lvF f s j
def cellsX (X : Nat → Txr) : Nat → List Value
  | 0 => []
  | k + 1 => cellsX X k ++ [.int .i64 (X k).S, .slice (X k).q (X k).n (X k).c]
theorem cellsX_congr {X Y : Nat → Txr} : ∀ {k : Nat}, (∀ j, j < k → X j = Y j) → cellsX X k = cellsX Y k
  | 0, _ => rfl
  | k + 1, h => by
    show cellsX X k ++ _ = cellsX Y k ++ _
    rw [cellsX_congr (k := k) (fun j hj => h j (by omega)), h k (by omega)]
/-- X with M in place k -/
def updX (X : Nat → Txr) (k : Nat) (M : Txr) (j : Nat) : Txr := if j = k then M else X j
theorem updX_same (X : Nat → Txr) (k : Nat) (M : Txr) : updX X k M k = M := if_pos rfl
theorem updX_other {X : Nat → Txr} {k j : Nat} {M : Txr} (h : j ≠ k) : updX X k M j = X j := if_neg h
theorem cellsX_upd (X : Nat → Txr) (k : Nat) (M : Txr) : cellsX X k ++ [.int .i64 M.S, .slice M.q M.n M.c] = cellsX (updX X k M) (k + 1) := by
  show _ = cellsX (updX X k M) k ++ [.int .i64 (updX X k M k).S, .slice (updX X k M k).q (updX X k M k).n (updX X k M k).c]
  rw [updX_same, cellsX_congr (k := k) (fun j hj => (updX_other (Nat.ne_of_lt hj)).symm)]
/-- the levels, told -/
structure LvOut (f : Nat → Int) (s : Nat) (v : Value) (K : Nat) (X : Nat → Txr) (W : World) : Prop where
  r : ∃ g c, v = .slice (some ⟨g, 0, none⟩) K c ∧ K ≤ c ∧ c ≤ 9223372036854775807 ∧ Has g 0 (cellsX X K) W
  k : LastK s K
  x : ∀ j, j < K → TxAt (X j) W ∧ LvOk f s j (X j)
theorem LvOut.later {f : Nat → Int} {s K : Nat} {v : Value} {X : Nat → Txr} {W W' : World} (h : LvOut f s v K X W) (hb : Below W.heap.size W W') : LvOut f s v K X W' := by
  obtain ⟨g, c, h1, h2, h3, h4⟩ := h.r
  exact ⟨⟨g, c, h1, h2, h3, h4.later hb⟩, h.k, fun j hj => ⟨(h.x j hj).1.later hb, (h.x j hj).2⟩⟩
end Go.Proofs.YtokfhhngnpbdkaaDoor

/- ZB -/
namespace Go.Proofs.YtokfhhngnpbdkaaDoor
set_option linter.unusedVariables false
set_option maxRecDepth 2000
set_option linter.unusedSimpArgs false
open Go.RowKit
end Go.Proofs.YtokfhhngnpbdkaaDoor

/- ZC -/
namespace Go.Proofs.YtokfhhngnpbdkaaDoor
set_option linter.unusedVariables false
set_option maxRecDepth 2000
set_option linter.unusedSimpArgs false
open Go.RowKit
/-- a texture whose texels are an own row -/
structure RowT (M : Txr) (W : World) : Prop where
  n : 1 ≤ M.n
  r : ∃ base, W.ownsRow base 29 3 (.slice M.q M.n M.c) M.n (nums .i64 M.f (M.n * 3))
theorem RowT.later {M : Txr} {W W' : World} (h : RowT M W) (hb : Below W.heap.size W W') : RowT M W' := by
  obtain ⟨b, hr⟩ := h.r
  exact ⟨h.n, b, row_later hr hb⟩
theorem RowT.odd {M : Txr} {l : Nat} {W : World} {o : Obj} (h : RowT M W) (hl : Odd l W) : RowT M (W.putObj l o) := by
  obtain ⟨b, hr⟩ := h.r
  exact ⟨h.n, b, row_odd hr hl⟩
theorem RowT.at {M : Txr} {W : World} (h : RowT M W) : TxAt M W := by
  obtain ⟨b, hr⟩ := h.r
  have hc := row_cap_ hr
  have hn := h.n
  obtain ⟨S, q, n, c, f⟩ := M
  dsimp only at *
  rcases hr.2 with ⟨_, h0⟩ | ⟨g, cap, _, hv, _⟩
  · omega
  · have e : q = some ⟨g, 0, none⟩ := by injection hv
    subst e
    exact ⟨.inr ⟨g, 0, rfl, (row_has' hr).1⟩, hc.1, hc.2⟩
theorem RowT.grown {M : Txr} {W W' : World} {row : Option Nat} {base' n' s' : Nat} {e' : TypeId} {v' : Value} {xs' : List Value} (h : RowT M W) (hg : W.grownBy W' row) (hv : row = v'.ownBlock) (hr' : W.ownsRow base' e' s' v' n' xs') (he : 29 ≠ e') : RowT M W' := by
  obtain ⟨b, hr⟩ := h.r
  subst hv
  exact ⟨h.n, b, hr.kept hg (rows_ne hr hr' he)⟩
/-- its texels do not lie in block L -/
def Away (L : Nat) (M : Txr) : Prop := (Value.slice M.q M.n M.c).ownBlock ≠ some L
theorem RowT.far {M : Txr} {L : Nat} {W : World} {vs : List Value} (h : RowT M W) (ha : Away L M) : RowT M (W.setCells L 0 vs) := by
  obtain ⟨b, hr⟩ := h.r
  exact ⟨h.n, b, row_far hr ha 0 vs⟩
/-- the state of the loop over the levels: the iterator's block, how many have come, which, and what the block holds -/
structure LvS where
  L : Nat
  k : Nat
  X : Nat → Txr
  M : Txr
def LvS.next (σ : LvS) (x : Txr) : LvS := ⟨σ.L, σ.k + 1, updX σ.X σ.k x, σ.M⟩
structure LvJ (w : World) (B : Nat) (f : Nat → Int) (s : Nat) (σ : LvS) (W : World) : Prop where
  b : ∃ p c, Own B [.slice p σ.k c] W ∧ W.ownsRow (σ.L + 1) 28 2 (.slice p σ.k c) σ.k (cellsX σ.X σ.k)
  x : ∀ j, j < σ.k → RowT (σ.X j) W ∧ LvOk f s j (σ.X j)
  y : ∀ j, j < σ.k → Away σ.L (σ.X j) ∧ Away B (σ.X j)
  ma : Away σ.L σ.M ∧ Away B σ.M
  l : Own σ.L [.int .i64 σ.M.S, .slice σ.M.q σ.M.n σ.M.c] W
  m : RowT σ.M W
  o : B < σ.L
  h : w.heap.size ≤ B
  z : Below w.heap.size w W
theorem LvJ.later {w : World} {B s : Nat} {f : Nat → Int} {σ : LvS} {W W' : World} (h : LvJ w B f s σ W) (hb : Below W.heap.size W W') : LvJ w B f s σ W' := by
  obtain ⟨p, c, h1, h2⟩ := h.b
  exact ⟨⟨p, c, h1.later hb, row_later h2 hb⟩, fun j hj => ⟨(h.x j hj).1.later hb, (h.x j hj).2⟩, h.y, h.ma, h.l.later hb, h.m.later hb, h.o, h.h, Below.go h.z hb⟩
theorem LvJ.odd {w : World} {B s l : Nat} {f : Nat → Int} {σ : LvS} {W : World} {o : Obj} (h : LvJ w B f s σ W) (hw : w.heap.size ≤ l) (hl : Odd l W) : LvJ w B f s σ (W.putObj l o) := by
  obtain ⟨p, c, h1, h2⟩ := h.b
  exact ⟨⟨p, c, h1.odd hl, row_odd h2 hl⟩, fun j hj => ⟨(h.x j hj).1.odd hl, (h.x j hj).2⟩, h.y, h.ma, h.l.odd hl, h.m.odd hl, h.o, h.h, putObj_below h.z hw⟩
/-- the iterator's store of the next level -/
theorem LvJ.step {w : World} {B s : Nat} {f : Nat → Int} {σ : LvS} {W : World} {M : Txr} (h : LvJ w B f s σ W) (hm : RowT M W) (hM : Away σ.L M ∧ Away B M) :
    LvJ w B f s ⟨σ.L, σ.k, σ.X, M⟩ (W.setCells σ.L 0 [.int .i64 M.S, .slice M.q M.n M.c]) := by
  obtain ⟨p, c, h1, h2⟩ := h.b
  exact ⟨⟨p, c, h1.far (Nat.ne_of_lt h.o), row_far h2 (row_ne h2 (Nat.lt_succ_self _)) 0 _⟩, fun j hj => ⟨(h.x j hj).1.far (h.y j hj).1, (h.x j hj).2⟩, h.y, hM, Own.store h.l rfl, hm.far hM.1, h.o, h.h, Below.setCells h.z (Nat.le_trans h.h (Nat.le_of_lt h.o)) _ _⟩
/-- before the iterator begins -/
structure LvI (w : World) (B A : Nat) (T : Txr) (W : World) : Prop where
  b : Own B [.slice none 0 0] W
  a : Own A [.int .i64 T.S, .slice T.q T.n T.c] W
  t : RowT T W
  tb : Away B T
  h : w.heap.size ≤ B
  z : Below w.heap.size w W
theorem LvI.later {w : World} {B A : Nat} {T : Txr} {W W' : World} (h : LvI w B A T W) (hb : Below W.heap.size W W') : LvI w B A T W' := ⟨h.b.later hb, h.a.later hb, h.t.later hb, h.tb, h.h, Below.go h.z hb⟩
/-- when the iterator has ended -/
def LvD (w : World) (B : Nat) (f : Nat → Int) (s : Nat) (W : World) : Prop := ∃ σ, LvJ w B f s σ W ∧ LastK s σ.k
end Go.Proofs.YtokfhhngnpbdkaaDoor

/- ZD -/
namespace Go.Proofs.YtokfhhngnpbdkaaDoor
set_option linter.unusedVariables false
set_option maxRecDepth 2000
set_option linter.unusedSimpArgs false
open Go.RowKit
theorem Odd.later {l : Nat} {W W' : World} (h : Odd l W) (hb : Below W.heap.size W W') : Odd l W' := by
  obtain ⟨o, h1, h2⟩ := h
  exact ⟨o, (hb.block l (Array.getElem?_eq_some_iff.1 h1).1).trans h1, h2⟩
theorem row_cells {W : World} {base n size : Nat} {e : TypeId} {v : Value} {xs : List Value} (h : W.ownsRow base e size v n xs) : ∀ (j : Nat) (o : Obj), v.ownBlock = some j → W.heap[j]? = some o → o.isCells = true := fun j o hj ho => by
  rcases h.2 with ⟨rfl, _⟩ | ⟨g, cap, cur, rfl, _, hg, _⟩
  · cases hj
  · simp only [Value.ownBlock, Option.some.injEq] at hj
    subst hj
    rw [hg] at ho
    injection ho with ho
    rw [← ho]
    rfl
/-- the body's append and store -/
theorem LvJ.body {w : World} {B s : Nat} {f : Nat → Int} {σ : LvS} {W W' : World} {x : Txr} {p : Option Addr} {c : Nat} {v' : Value} (h : LvJ w B f s σ W) (e : x = σ.M) (hx : LvOk f s σ.k x)
    (hr : W.ownsRow (σ.L + 1) 28 2 (.slice p σ.k c) σ.k (cellsX σ.X σ.k)) (hg : W.grownBy W' (Value.slice p σ.k c).ownBlock) (hb : Own B [.slice p σ.k c] W)
    (hr' : W'.ownsRow (σ.L + 1) 28 2 v' (σ.k + 1) (cellsX σ.X σ.k ++ [.int .i64 x.S, .slice x.q x.n x.c])) : LvJ w B f s (σ.next x) (W'.setCells B 0 [v']) := by
  subst e
  obtain ⟨q, d, rfl, _⟩ := row_form hr'
  have nb : ∀ {b : Nat}, b < σ.L + 1 → (Value.slice p σ.k c).ownBlock ≠ some b := fun hb => row_ne hr hb
  have rt : ∀ {Y : Txr}, RowT Y W → Away B Y → RowT Y (W'.setCells B 0 [.slice q (σ.k + 1) d]) := fun {Y} hY ha => (hY.grown hg rfl hr (by decide)).far ha
  refine ⟨⟨q, d, Own.store (hb.grown hg (nb (by have := h.o; omega))) rfl, ?_⟩, ?_, ?_, h.ma, (h.l.grown hg (nb (Nat.lt_succ_self _))).far (Nat.ne_of_gt h.o), rt h.m h.ma.2, h.o, h.h, ?_⟩
  · have := row_far hr' (row_ne hr' (show B < σ.L + 1 by have := h.o; omega)) 0 [.slice q (σ.k + 1) d]
    rw [cellsX_upd] at this
    exact this
  · intro j hj
    show RowT (updX σ.X σ.k σ.M j) _ ∧ LvOk f s j (updX σ.X σ.k σ.M j)
    by_cases hjk : j = σ.k
    · subst hjk
      rw [updX_same]
      exact ⟨rt h.m h.ma.2, hx⟩
    · rw [updX_other hjk]
      have hj2 : j < σ.k := by have : j < σ.k + 1 := hj; omega
      exact ⟨rt (h.x j hj2).1 (h.y j hj2).2, (h.x j hj2).2⟩
  · intro j hj
    show Away σ.L (updX σ.X σ.k σ.M j) ∧ Away B (updX σ.X σ.k σ.M j)
    by_cases hjk : j = σ.k
    · rw [hjk, updX_same]; exact h.ma
    · rw [updX_other hjk]
      exact h.y j (by have : j < σ.k + 1 := hj; omega)
  · exact Below.setCells (h.z.grown hg (by have := h.z.size; omega) (fun k hk => Nat.le_trans (by have := h.o; have := h.h; omega) (row_ge hr k hk))) h.h _ _
theorem then_lets {K : Act → World → Prop} : ¬LetsOut (Exit.then K (fun _ _ _ => False)) := fun ⟨_, _, h⟩ => h
theorem block_lets {id : Nat} {J : World → Prop} {W0 : World} : ¬LetsOut (Exit.inBlock id (goesOn J W0)) := fun ⟨_, _, h⟩ => h
end Go.Proofs.YtokfhhngnpbdkaaDoor

