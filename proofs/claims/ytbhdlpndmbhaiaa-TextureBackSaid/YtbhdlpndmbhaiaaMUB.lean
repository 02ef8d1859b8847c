/- YA YB YC ZA ZB ZC ZD, in one text. -/
import Derived.Test.YtbhdlpndmbhaiaaKA
import Derived.RangeFuncCalls
import Derived.RangeFuncOwn
import Derived.RangeFuncLeaves
import Derived.OrdersIn
import Derived.OrdersHeld
import Derived.Lib.Hide
import Derived.Test.YtbhdlpndmbhaiaaSA
import Derived.Test.YtbhdlpndmbhaiaaMUA
import Derived.Lib.SliceRun
import Derived.Test.YtbhdlpndmbhaiaaCW
import Derived.TacticsInMore
import Derived.OwnWalkIn
import Derived.LoopNIn
import Derived.LoopIn
import Derived.Great.BuildSlice
/- YA -/
namespace Go.Proofs.Ytbhdlpndmbhaiaa
set_option linter.unusedVariables false
set_option maxRecDepth 2000
set_option linter.unusedSimpArgs false
open Go.RowKit
/-! what is walked plainly, within a round -/
theorem rows_in {n : Nat} {P : Program} {row : String} {args : Array Value} {w : World} {R : Value → World → Prop} (h : Rows P row args w R) : RowsIn Fence.wide n P row args w R :=
  fun c cs _ => let ⟨v, w', r, s⟩ := h c cs; ⟨v, w', r, stepsIn_wide.2 s⟩
def nodf (o : Oper) : Bool := match o.op with | .defer _ => false | _ => true
theorem nodf_ne {o : Oper} (h : nodf o = true) (c : Call) : o.op ≠ .defer c := fun e => by
  unfold nodf at h
  rw [e] at h
  cases h
theorem op_round {l n : Nat} {P : Program} {o : Oper} {a : Act} {w : World} {K : Act → World → Prop} {Q : Exit → Act → World → Prop} (hd : nodf o = true) (h : o.wp P a w K Q) : o.wpIn (Fence.wide.inRound l) n P a w K Q := by
  refine ⟨fun _ _ => trivial, ?_⟩
  rw [show (Fence.wide.inRound l).round = some l from rfl, Oper.semAt_some l _ _ (nodf_ne hd)]
  unfold Oper.wp at h
  generalize (execOp a.eval o).run P w = r at *
  cases r with
  | ok nx w' =>
    cases nx with
    | value v => exact h
    | skip => exact h
    | defer d => exact h
    | enter f args => exact ⟨(fun hh => by cases hh), CallsIn.inRound l (callsIn_wide.2 h)⟩
    | row row args => exact ⟨(fun hh => by cases hh), rows_in h⟩
    | _ => exact h.elim
  | halt x w' =>
    cases x with
    | panic v => exact h
    | _ => exact h.elim
theorem list_round {l n : Nat} {P : Program} {ops : Array Oper} {Q : Exit → Act → World → Prop} (hQ : ¬LetsOut Q) : ∀ (rest : List Oper) (a : Act) (w : World), (∀ o ∈ rest, nodf o = true) → wpList P ops Q rest a w → wpListIn (Fence.wide.inRound l) n P ops Q rest a w
  | [], _, _, _, h => h
  | o :: rest, a, w, hd, h => by
    have ih := fun (a : Act) (w : World) (h : wpList P ops Q rest a w) => list_round (l := l) (n := n) hQ rest a w (fun o ho => hd o (List.mem_cons_of_mem _ ho)) h
    unfold wpList at h
    unfold wpListIn
    split
    · rename_i hw
      rw [if_pos hw] at h
      rcases h with h | ⟨_, h⟩
      · exact op_round (hd o List.mem_cons_self) (Oper.wp_mono ih h)
      · exact absurd h hQ
    · rename_i hw
      rw [if_neg hw] at h
      exact ⟨fun _ _ => trivial, ih _ _ h⟩
theorem any_round {l n : Nat} {P : Program} {md : Region.Mode} {ops : Array Oper} {Q : Exit → Act → World → Prop} (hQ : ¬LetsOut Q) (hd : ∀ (i : Nat) (o : Oper), ops[i]? = some o → nodf o = true) : ∀ (fuel : Nat) (listed : Array Bool) (a : Act) (w : World), wpAny P md ops Q fuel listed a w → wpAnyIn (Fence.wide.inRound l) n P md ops Q fuel listed a w
  | 0, _, _, _, h => h
  | fuel + 1, listed, a, w, h => by
    refine ⟨h.1, fun i hi => ?_⟩
    have h1 := h.2 i hi
    unfold wpOp at h1
    unfold wpOpIn
    split
    · rename_i ho
      rw [ho] at h1
      exact any_round hQ hd fuel _ a w h1
    · rename_i o ho
      rw [ho] at h1
      dsimp only at h1
      split
      · rename_i hw
        rw [if_pos hw] at h1
        rcases h1 with h1 | ⟨_, h1⟩
        · exact op_round (hd i o ho) (Oper.wp_mono (fun a w h => any_round hQ hd fuel _ a w h) h1)
        · exact absurd h1 hQ
      · rename_i hw
        rw [if_neg hw] at h1
        exact ⟨fun _ _ => trivial, any_round hQ hd fuel _ _ _ h1⟩
/-- a region that is not drawn, in a round -/
theorem region_round {l n : Nat} {P : Program} {id : Nat} {ops : List Oper} {Q : Exit → Act → World → Prop} {a : Act} {w : World} (hQ : ¬LetsOut Q) (hd : ops.all nodf = true) (h : wpList P ops.toArray Q ops a w) : (Code.region id ops.toArray false).wpIn (Fence.wide.inRound l) n P Q a w :=
  wpIn_region_lit (list_round hQ _ _ _ (fun o ho => List.all_eq_true.1 hd o ho) h)
/-- a region that draws its order, in a round: some cells held -/
theorem held_round {l n : Nat} {P : Program} {id : Nat} {ops : Array Oper} {Q : Exit → Act → World → Prop} {S : World → Prop} {a : Act} {w : World} (hm : P.follows .mixedOrders = true) (hQ : ¬LetsOut Q) (hd : ops.all nodf = true)
    (h : wpAnyH P .any ops Q S ops.size (Array.replicate ops.size false) a w.drew) : (Code.region id ops true).wpIn (Fence.wide.inRound l) n P Q a w :=
  wpIn_region_any hm (any_round hQ (fun i o ho => by
    obtain ⟨hi, rfl⟩ := Array.getElem?_eq_some_iff.1 ho
    exact Array.all_eq_true.1 hd i hi) _ _ _ _ (wpAny_of_held _ _ _ _ h))
end Go.Proofs.Ytbhdlpndmbhaiaa

/- YB -/
namespace Go.Proofs.Ytbhdlpndmbhaiaa
set_option linter.unusedVariables false
set_option maxRecDepth 2000
set_option linter.unusedSimpArgs false
set_option linter.unusedVariables false
open Go.RowKit
/-- how a round's body is left: it goes on -/
def goesOn (J : World → Prop) (W0 : World) : Exit → Act → World → Prop
  | .normal, _, W' => KeepsOthers W0 W' ∧ J W'
  | _, _, _ => False
theorem goesOn_lets {J : World → Prop} {W0 : World} : ¬LetsOut (goesOn J W0) := fun ⟨_, _, h⟩ => h
/-- a block that is no cells -/
def Odd (l : Nat) (W : World) : Prop := ∃ o, W.heap[l]? = some o ∧ o.isCells = false
theorem range_book {α σ : Type} {n : Nat} {P : Program} {g : Operand} {ps : Array Tmp} {assign body : Code} {Q : Exit → Act → World → Prop} {a : Act} {w : World}
    {gf : Nat} {lb : Array Value} (hg : a.eval g = .func (.func gf) #[] lb) (eg : ∀ args w, (callFunc gf args).run P w = .ok (.enter gf args) w)
    {encs : α → Array Value} (hps : ∀ x, (encs x).size = ps.size)
    (I0 : World → Prop) (J : σ → World → Prop) (ok : σ → α → Prop) (st : σ → α → σ) (Done : World → Prop)
    (h0 : ∀ o o', I0 ((w.alloc o).alloc o'))
    (hJ : ∀ s W l o, J s W → w.heap.size ≤ l → Odd l W → J s (W.putObj l o))
    (hD : ∀ W l o, Done W → w.heap.size ≤ l → Odd l W → Done (W.putObj l o))
    (hround : ∀ l s x W, w.heap.size < l → J s W → ok s x → Odd l W →
      assign.wpIn (Fence.wide.inRound l) (n - 1 - 1) P (Exit.then (fun a₁ W₁ => KeepsOthers W W₁ ∧ ∀ o, body.wpIn (Fence.wide.inRound l) (n - 1 - 1) P (goesOn (J (st s x)) (W₁.putObj l o)) a₁ (W₁.putObj l o)) (fun _ _ _ => False))
        { tmps := (ps.zip (encs x)).foldl (fun t (p, v) => t.setIfInBounds p v) a.tmps, defers := [] } W)
    (hiter : ∀ (l : Nat) (Bk : World → Prop) (W1 : World), Below w.heap.size w W1 → (∀ W W', Bk W → KeepsOthers W W' → Bk W') → Bk W1 → I0 W1 →
      (∀ s x W, Bk W → J s W → ok s x → YieldAt Fence.wide (n - 1 - 1) P l (encs x) W fun e W' => e = .returned (.bool true) ∧ Bk W' ∧ J (st s x) W') →
      CallsIn Fence.wide (n - 1) P gf (#[.func (.yield l) #[] #[]] ++ lb) W1 fun e W' => (∃ v, e = .returned v) ∧ Bk W' ∧ Done W')
    (hdone : ∀ D W, w.heap.size ≤ D → Done W → W.heap[D]? = some (.deferred (some [])) → Q .normal { a with defers := { target := .collected D, args := #[] } :: a.defers } W) :
    (Code.rangeFunc g ps assign body).wpIn Fence.wide n P Q a w := by
  refine wpIn_rangeFunc fun fn hfn => ?_
  rw [show Fence.wide.round = none from rfl]
  obtain ⟨rec, hrec⟩ : ∃ rec : LoopState → Loop, rec = fun s => { state := s, pending := none, fn, tmps := a.tmps, params := ps, assign, body, defers := w.heap.size } := ⟨_, rfl⟩
  obtain ⟨W1, hW1⟩ : ∃ W1, (w.alloc (.deferred (some []))).alloc (.loop (rec .ready)) = W1 := ⟨_, rfl⟩
  have hL1 : W1.heap[w.heap.size + 1]? = some (.loop (rec .ready)) := by
    have := World.alloc_heap_new (w.alloc (.deferred (some []))) (.loop (rec .ready))
    rwa [World.size_alloc, hW1] at this
  have hK1 : W1.heap[w.heap.size]? = some (.deferred (some [])) := by
    rw [← hW1]
    exact (Below.heap_alloc _ _ _ (by simp)).trans (World.alloc_heap_new w _)
  have hB1 : Below w.heap.size w W1 := hW1 ▸ ((Below.refl _ w).alloc (Nat.le_refl _) _).alloc (by simp) _
  have hI1 : I0 W1 := hW1 ▸ h0 _ _
  refine ⟨w.heap.size + 1, [{ target := .collected w.heap.size, args := #[] }], W1, { target := .fn (.func gf) lb, args := #[.func (.yield (w.heap.size + 1)) #[] #[]] }, W1, gf, #[.func (.yield (w.heap.size + 1)) #[] #[]] ++ lb, W1, ?_, ?_, fun _ _ => trivial, ?_, (fun h => by cases h), ?_⟩
  · rw [← hW1, hrec]
    exact run_enterLoop_outer _ _ _ _ _
  · simp only [resolve, hg]
    simp [go_sem]
  · simp [invoke, go_sem, eg]
  · refine (hiter (w.heap.size + 1) (fun W => W.heap[w.heap.size + 1]? = some (.loop (rec .ready)) ∧ W.heap[w.heap.size]? = some (.deferred (some []))) W1 hB1
      (fun W W' h k => ⟨k.same _ _ h.1 rfl, k.same _ _ h.2 rfl⟩) ⟨hL1, hK1⟩ hI1 ?_).mono ?_
    · rintro s x W ⟨hl, hk⟩ hj hok
      have hlt : w.heap.size + 1 < W.heap.size := (Array.getElem?_eq_some_iff.1 hl).1
      have hy := run_yield (P := P) (args := encs x) hl (by rw [hrec]; exact hps x)
      rw [hrec] at hy
      refine ⟨fn, _, assign, body, hy, roundIn_of_wpIn hfn (wpIn_mono (hround (w.heap.size + 1) s x W (Nat.lt_succ_self _) hj hok ⟨_, hl, rfl⟩) ?_)⟩
      rintro e a1 W2 hp
      cases e with
      | normal =>
        obtain ⟨hk2, hb⟩ := hp
        have hl2 := hk2.same _ _ hl rfl
        have hlt2 := (Array.getElem?_eq_some_iff.1 hl2).1
        refine ⟨_, run_beginRound hl2 (by rw [hrec]), wpIn_mono (hb _) ?_⟩
        rintro e3 a3 W3 hp3
        cases e3 with
        | normal =>
          obtain ⟨hk3, hj3⟩ := hp3
          have hl3 := hk3.same _ _ (World.putObj_heap_same hlt2) rfl
          have hd3 := hk3.same _ _ ((World.putObj_heap_other (show w.heap.size ≠ w.heap.size + 1 by omega)).trans (hk2.same _ _ hk rfl)) rfl
          have he := run_endRound (P := P) none hl3
          rw [hrec] at he ⊢
          refine ⟨_, _, he, rfl, ⟨World.putObj_heap_same (Array.getElem?_eq_some_iff.1 hl3).1, (World.putObj_heap_other (by omega)).trans hd3⟩, hJ _ _ _ _ hj3 (by omega) ⟨_, hl3, rfl⟩⟩
        | _ => exact hp3.elim
      | _ => exact hp.elim
    · rintro e W2 ⟨⟨v, rfl⟩, ⟨hl, hk⟩, hd⟩
      have he := run_endLoop (P := P) hl (by rw [hrec]; simp)
      rw [hrec] at he
      exact ⟨none, _, he, hdone _ _ (Nat.le_refl _) (hD _ _ _ hd (by omega) ⟨_, hl, rfl⟩) ((World.putObj_heap_other (by omega)).trans hk)⟩
end Go.Proofs.Ytbhdlpndmbhaiaa

/- YC -/
namespace Go.Proofs.Ytbhdlpndmbhaiaa
set_option linter.unusedVariables false
set_option maxRecDepth 2000
set_option linter.unusedSimpArgs false
open Go.RowKit
theorem odd_ne {l b o : Nat} {v : Value} {W : World} (h : Odd l W) (hc : W.cell? ⟨b, o, none⟩ = some v) : b ≠ l := fun e => by
  subst e
  obtain ⟨ob, h1, h2⟩ := h
  obtain ⟨o2, h3, h4⟩ := cells_of_cell hc
  rw [h1] at h3
  injection h3 with h3
  rw [h3, h4] at h2
  cases h2
theorem Odd.lt {l : Nat} {W : World} (h : Odd l W) : l < W.heap.size := by
  obtain ⟨o, h1, _⟩ := h
  exact (Array.getElem?_eq_some_iff.1 h1).1
theorem putObj_below {B l : Nat} {w W : World} {o : Obj} (h : Below B w W) (hl : B ≤ l) : Below B w (W.putObj l o) :=
  h.trans ⟨rfl, rfl, rfl, by rw [World.putObj_size]; exact Nat.le_refl _, fun i hi => World.putObj_heap_other (by omega)⟩
theorem But.putObj {l : Nat} {W : World} {o : Obj} : But l W (W.putObj l o) := ⟨putObj_below (Below.refl _ _) (Nat.le_refl _), fun i _ hn => World.putObj_heap_other hn⟩
theorem Own.odd {b l : Nat} {v : Value} {cs : List Value} {W : World} {o : Obj} (h : Own b (v :: cs) W) (hl : Odd l W) : Own b (v :: cs) (W.putObj l o) :=
  h.but But.putObj (odd_ne hl (h.at 0 v rfl))
theorem row_odd {W : World} {base size n l : Nat} {e : TypeId} {v : Value} {xs : List Value} {o : Obj} (h : W.ownsRow base e size v n xs) (hl : Odd l W) : (W.putObj l o).ownsRow base e size v n xs := by
  refine row_but h But.putObj ?_
  rcases h.2 with ⟨rfl, _⟩ | ⟨g, cap, cur, rfl, _, hg, _⟩
  · simp [Value.ownBlock]
  · simp only [Value.ownBlock, ne_eq, Option.some.injEq]
    rintro rfl
    obtain ⟨ob, h1, h2⟩ := hl
    rw [hg] at h1
    injection h1 with h1
    rw [← h1] at h2
    cases h2
theorem Has.odd {b i l : Nat} {v : Value} {cs : List Value} {W : World} {o : Obj} (h : Has b i (v :: cs) W) (hl : Odd l W) : Has b i (v :: cs) (W.putObj l o) :=
  h.but But.putObj (odd_ne hl (h.at 0 v rfl))
theorem NmS.odd {W : World} {s n l : Nat} {q : Option Addr} {f : Nat → Int} {o : Obj} (h : NmS W s q n f) (hl : Odd l W) : NmS (W.putObj l o) s q n f := by
  rcases h with h | ⟨b, off, h1, h2⟩
  · exact .inl h
  · by_cases h0 : n * s = 0
    · refine .inr ⟨b, off, h1, ⟨by rw [World.putObj_size]; exact h2.lt, fun j v hv => ?_⟩⟩
      rw [h0] at hv
      cases hv
    · obtain ⟨k, hk⟩ : ∃ k, n * s = k + 1 := ⟨n * s - 1, by omega⟩
      refine .inr ⟨b, off, h1, ?_⟩
      rw [hk] at h2 ⊢
      exact h2.but But.putObj (odd_ne hl (h2.at 0 (.int .i64 (f 0)) (nums_at _ _ (by omega))))
end Go.Proofs.Ytbhdlpndmbhaiaa

/- ZA -/
namespace Go.Proofs.Ytbhdlpndmbhaiaa
set_option linter.unusedVariables false
set_option maxRecDepth 2000
set_option linter.unusedSimpArgs false
open Go.RowKit
/-- the side of a level -/
def sdF (s : Nat) : Nat → Nat
  | 0 => s
  | k + 1 => sdF s k / 2
/-- the numbers of a level -/
def lvF (f : Nat → Int) (s : Nat) : Nat → Nat → Int
  | 0 => f
  | k + 1 => hlfF (lvF f s k) (sdF s k) (sdF s (k + 1))
/-- the count of the levels -/
def LastK (s K : Nat) : Prop := 1 ≤ K ∧ sdF s (K - 1) = 1 ∧ ∀ j, j + 1 < K → 2 ≤ sdF s j
theorem LastK.uniq {s K K' : Nat} (h : LastK s K) (h' : LastK s K') : K = K' := by
  obtain ⟨a1, a2, a3⟩ := h
  obtain ⟨b1, b2, b3⟩ := h'
  rcases Nat.lt_trichotomy K K' with h | h | h
  · have := b3 (K - 1) (by omega); omega
  · exact h
  · have := a3 (K' - 1) (by omega); omega
theorem hlf_good {s h : Nat} {f : Nat → Int} (g : GoodT (s : Int) (s * s) f) (e : s = 2 * h) : GoodT (h : Int) (h * h) (hlfF f s h) := by
  have hs := g.s
  have h0 : 1 ≤ h := by omega
  refine ⟨by omega, Int.natCast_mul _ _, fun j hj => ?_⟩
  unfold hlfF hlfT
  have hx : j / 3 % h < h := Nat.mod_lt _ h0
  have hy : j / 3 / h < h := Nat.div_lt_of_lt_mul (by omega)
  have V : ∀ a b, a ≤ 1 → b ≤ 1 → 0 ≤ txl f s (2 * (j / 3 % h) + a) (2 * (j / 3 / h) + b) (j % 3) ∧ txl f s (2 * (j / 3 % h) + a) (2 * (j / 3 / h) + b) (j % 3) ≤ 255 := fun a b ha hb => by
    have hi := ix2_lt e hx hy a b ha hb
    exact g.v _ (by omega)
  exact mean_in (V 0 0 (by decide) (by decide)) (V 1 0 (by decide) (by decide)) (V 0 1 (by decide) (by decide)) (V 1 1 (by decide) (by decide))
theorem lv_good {s : Nat} {f : Nat → Int} (g : GoodT (s : Int) (s * s) f) : ∀ k, (∀ j, j < k → 2 ≤ sdF s j) → GoodT (sdF s k : Int) (sdF s k * sdF s k) (lvF f s k)
  | 0, _ => g
  | k + 1, h => by
    have ih := lv_good g k (fun j hj => h j (by omega))
    have hk := h k (by omega)
    have hs := ih.s
    have e : sdF s k = 2 * sdF s (k + 1) := by
      show sdF s k = 2 * (sdF s k / 2)
      omega
    exact hlf_good ih e
theorem sd_two {s : Nat} {f : Nat → Int} {k : Nat} (g : GoodT (sdF s k : Int) (sdF s k * sdF s k) f) (h : 2 ≤ sdF s k) : sdF s k = 2 * sdF s (k + 1) ∧ 1 ≤ sdF s (k + 1) ∧ sdF s (k + 1) ≤ 8 := by
  have hs := g.s
  have e : sdF s (k + 1) = sdF s k / 2 := rfl
  omega
theorem sd_pow (s : Nat) (hs : s ≤ 16) : ∀ k, sdF s k * 2 ^ k ≤ 16
  | 0 => by show s * 1 ≤ 16; omega
  | k + 1 => by
    have ih := sd_pow s hs k
    have e : sdF s (k + 1) = sdF s k / 2 := rfl
    have h2 : sdF s (k + 1) * 2 ^ (k + 1) ≤ sdF s k * 2 ^ k := by
      rw [e, Nat.pow_succ, Nat.mul_comm (2 ^ k) 2, ← Nat.mul_assoc]
      exact Nat.mul_le_mul_right _ (Nat.div_mul_le_self _ _)
    omega
/-- how many levels there are at most -/
theorem few_lv {s k : Nat} (hs : s ≤ 16) (h : 1 ≤ sdF s k) : k ≤ 4 := by
  have h1 := sd_pow s hs k
  have h2 : 2 ^ k ≤ 16 := Nat.le_trans (Nat.le_mul_of_pos_left _ h) h1
  rcases Nat.lt_or_ge 4 k with h3 | h3
  · have h4 : 2 ^ 5 ≤ 2 ^ k := Nat.pow_le_pow_right (by decide) h3
    have h5 : (2 : Nat) ^ 5 = 32 := rfl
    omega
  · exact h3
/-- a level -/
structure LvOk (f : Nat → Int) (s j : Nat) (M : Txr) : Prop where
  S : M.S = (sdF s j : Int)
  n : M.n = sdF s j * sdF s j
  f : M.f = lvF f s j
def cellsX (X : Nat → Txr) : Nat → List Value
  | 0 => []
  | k + 1 => cellsX X k ++ [.int .i64 (X k).S, .slice (X k).q (X k).n (X k).c]
theorem cellsX_congr {X Y : Nat → Txr} : ∀ {k : Nat}, (∀ j, j < k → X j = Y j) → cellsX X k = cellsX Y k
  | 0, _ => rfl
  | k + 1, h => by
    show cellsX X k ++ _ = cellsX Y k ++ _
    rw [cellsX_congr (k := k) (fun j hj => h j (by omega)), h k (by omega)]
theorem cellsX_len (X : Nat → Txr) : ∀ k, (cellsX X k).length = k * 2
  | 0 => rfl
  | k + 1 => by
    show (cellsX X k ++ _).length = _
    rw [List.length_append, cellsX_len X k, List.length_cons, List.length_cons, List.length_nil]
    omega
theorem cellsX_at (X : Nat → Txr) : ∀ {k i : Nat}, i < k → (cellsX X k)[i * 2]? = some (.int .i64 (X i).S) ∧ (cellsX X k)[i * 2 + 1]? = some (.slice (X i).q (X i).n (X i).c)
  | k + 1, i, h => by
    show (cellsX X k ++ _)[i * 2]? = _ ∧ (cellsX X k ++ _)[i * 2 + 1]? = _
    by_cases hk : i < k
    · rw [List.getElem?_append_left (by rw [cellsX_len]; omega), List.getElem?_append_left (by rw [cellsX_len]; omega)]
      exact cellsX_at X hk
    · obtain rfl : i = k := by omega
      rw [List.getElem?_append_right (by rw [cellsX_len]; omega), List.getElem?_append_right (by rw [cellsX_len]; omega), cellsX_len, Nat.sub_self, Nat.add_sub_cancel_left]
      exact ⟨rfl, rfl⟩
/-- X with M in place k -/
def updX (X : Nat → Txr) (k : Nat) (M : Txr) (j : Nat) : Txr := if j = k then M else X j
theorem updX_same (X : Nat → Txr) (k : Nat) (M : Txr) : updX X k M k = M := if_pos rfl
theorem updX_other {X : Nat → Txr} {k j : Nat} {M : Txr} (h : j ≠ k) : updX X k M j = X j := if_neg h
theorem cellsX_upd (X : Nat → Txr) (k : Nat) (M : Txr) : cellsX X k ++ [.int .i64 M.S, .slice M.q M.n M.c] = cellsX (updX X k M) (k + 1) := by
  show _ = cellsX (updX X k M) k ++ [.int .i64 (updX X k M k).S, .slice (updX X k M k).q (updX X k M k).n (updX X k M k).c]
  rw [updX_same, cellsX_congr (k := k) (fun j hj => (updX_other (Nat.ne_of_lt hj)).symm)]
/-- the levels, told -/
structure LvOut (f : Nat → Int) (s : Nat) (v : Value) (K : Nat) (X : Nat → Txr) (W : World) : Prop where
  r : ∃ g c, v = .slice (some ⟨g, 0, none⟩) K c ∧ K ≤ c ∧ c ≤ 9223372036854775807 ∧ Has g 0 (cellsX X K) W
  k : LastK s K
  x : ∀ j, j < K → TxAt (X j) W ∧ LvOk f s j (X j)
theorem LvOut.later {f : Nat → Int} {s K : Nat} {v : Value} {X : Nat → Txr} {W W' : World} (h : LvOut f s v K X W) (hb : Below W.heap.size W W') : LvOut f s v K X W' := by
  obtain ⟨g, c, h1, h2, h3, h4⟩ := h.r
  exact ⟨⟨g, c, h1, h2, h3, h4.later hb⟩, h.k, fun j hj => ⟨(h.x j hj).1.later hb, (h.x j hj).2⟩⟩
end Go.Proofs.Ytbhdlpndmbhaiaa

/- ZB -/
namespace Go.Proofs.Ytbhdlpndmbhaiaa
set_option linter.unusedVariables false
set_option maxRecDepth 2000
set_option linter.unusedSimpArgs false
open Go.RowKit
set_option maxHeartbeats 4000000 in
theorem Clone_yes (q : Option Addr) (n c : Nat) (f : Nat → Int) (h1 : 1 ≤ n) (hn : n ≤ 1000) (w : World) (hM : NmS w 3 q n f) :
    Calls Try.prog 36 #[.slice q n c] w fun e w' => ∃ p d, e = .returned (.slice p n d) ∧ w'.ownsRow w.heap.size 50 3 (.slice p n d) n (nums .i64 f (n * 3)) ∧ Below w.heap.size w w' := by
  obtain ⟨D, o, rfl, hh⟩ := hM.resolve_left (by omega)
  obtain ⟨i0, hi, hz0, hz1, hz2⟩ := infoX_parts
  have HH := Lib.hid hh
  have N63 := Lib.hid (show 0 + n ≤ maxLen by unfold maxLen; omega)
  have NBY := Lib.hid (show (0 + n) * 24 ≤ 140737488355328 by omega)
  have HD : ∀ j u, (nums .i64 f (n * 3))[j]? = some u → (w.alloc (.cells #[] 50)).cell? ((⟨D, o, none⟩ : Addr).add j) = some u := fun j u hj => by rw [Addr.add_mid]; exact (HH.out.later (Below.al (Below.refl _ _))).at j u hj
  have HDD := Lib.hid HD
  have H1 : Hid (∀ u ∈ nums .i64 f (n * 3), u.oneCell' = true) := Lib.hid (nums_one .i64 f (n * 3))
  have HSz : Hid (w.heap.size ≤ (w.alloc (.cells #[] 50)).heap.size) := Lib.hid (by simp)
  have hcv := Lib.run_eql_slice_nil (P := Try.prog) w 22 50 (some ⟨D, o, none⟩) n c 0 0 Try.underlying22
  clear hM hh HD h1 hn
  go_enter Try.func36, Try.ntmps36
  go_wp2_with (at_builtin; refine wpList_append_own _ rfl _ _ 22 rfl w.heap.size 50 i0 (.agg #[.int .i64 0, .int .i64 0, .int .i64 0]) 3 24 Try.underlying22 hi hz0 hz1 hz2 rfl (by decide) _ 0 [] rfl (World.ownsRow_lit w #[] 0 (Nat.le_refl _) (by decide) rfl) ⟨D, o, none⟩ n c (nums .i64 f (n * 3)) rfl (nums_length _ _ _) HDD.out H1.out N63.out NBY.out HSz.out ?_; intro v' w6 hrow hgr _; obtain ⟨p', c', rfl, _⟩ := row_form hrow; rw [Nat.zero_add, List.nil_append] at hrow; have o4 := Lib.hid ((Below.al (o := (.cells #[] 50)) (Below.refl w.heap.size w)).grown hgr (by simp) (fun q hq => by cases hq; exact Nat.le_refl _)); have o6 := Lib.hid hrow; clear hrow hgr)
  go_ret
  exact ⟨p', c', rfl, o6.out, o4.out⟩
set_option maxHeartbeats 4000000 in
theorem levels_any (M : Txr) (w : World) : Calls Try.prog 37 #[.agg #[.int .i64 M.S, .slice M.q M.n M.c]] w fun e w' => ∃ A, e = .returned (.func (.func 52) #[] #[.pointer (some ⟨A, 0, none⟩)]) ∧ w.heap.size ≤ A ∧ Own A [.int .i64 M.S, .slice M.q M.n M.c] w' ∧ Below w.heap.size w w' := by
  obtain ⟨S, q, n, c, f⟩ := M
  have hmf : ∀ (fn : Fn) (first cap : Array Value) (w : World), (Instr.makeFunc fn first cap).run Try.prog w = .ok (.func fn first cap) w := fun _ _ _ _ => rfl
  go_enter Try.func37, Try.ntmps37
  go_wp2_with (fail)
  go_ret
  exact ⟨_, rfl, Nat.le_refl _, Own.newAt rfl, Below.al (Below.refl _ _)⟩
end Go.Proofs.Ytbhdlpndmbhaiaa

/- ZC -/
namespace Go.Proofs.Ytbhdlpndmbhaiaa
set_option linter.unusedVariables false
set_option maxRecDepth 2000
set_option linter.unusedSimpArgs false
open Go.RowKit
/-- a texture whose texels are an own row -/
structure RowT (M : Txr) (W : World) : Prop where
  n : 1 ≤ M.n
  r : ∃ base, W.ownsRow base 50 3 (.slice M.q M.n M.c) M.n (nums .i64 M.f (M.n * 3))
theorem RowT.later {M : Txr} {W W' : World} (h : RowT M W) (hb : Below W.heap.size W W') : RowT M W' := by
  obtain ⟨b, hr⟩ := h.r
  exact ⟨h.n, b, row_later hr hb⟩
theorem RowT.odd {M : Txr} {l : Nat} {W : World} {o : Obj} (h : RowT M W) (hl : Odd l W) : RowT M (W.putObj l o) := by
  obtain ⟨b, hr⟩ := h.r
  exact ⟨h.n, b, row_odd hr hl⟩
theorem RowT.at {M : Txr} {W : World} (h : RowT M W) : TxAt M W := by
  obtain ⟨b, hr⟩ := h.r
  have hc := row_cap_ hr
  have hn := h.n
  obtain ⟨S, q, n, c, f⟩ := M
  dsimp only at *
  rcases hr.2 with ⟨_, h0⟩ | ⟨g, cap, _, hv, _⟩
  · omega
  · have e : q = some ⟨g, 0, none⟩ := by injection hv
    subst e
    exact ⟨.inr ⟨g, 0, rfl, (row_has' hr).1⟩, hc.1, hc.2⟩
theorem RowT.grown {M : Txr} {W W' : World} {row : Option Nat} {base' n' s' : Nat} {e' : TypeId} {v' : Value} {xs' : List Value} (h : RowT M W) (hg : W.grownBy W' row) (hv : row = v'.ownBlock) (hr' : W.ownsRow base' e' s' v' n' xs') (he : 50 ≠ e') : RowT M W' := by
  obtain ⟨b, hr⟩ := h.r
  subst hv
  exact ⟨h.n, b, hr.kept hg (rows_ne hr hr' he)⟩
/-- its texels do not lie in block L -/
def Away (L : Nat) (M : Txr) : Prop := (Value.slice M.q M.n M.c).ownBlock ≠ some L
theorem RowT.far {M : Txr} {L : Nat} {W : World} {vs : List Value} (h : RowT M W) (ha : Away L M) : RowT M (W.setCells L 0 vs) := by
  obtain ⟨b, hr⟩ := h.r
  exact ⟨h.n, b, row_far hr ha 0 vs⟩
theorem RowT.away {M : Txr} {W : World} (h : RowT M W) : Away W.heap.size M := by
  obtain ⟨b, hr⟩ := h.r
  exact row_new hr (Nat.le_refl _)
/-- the state of the loop over the levels: the iterator's block, how many have come, which, and what the block holds -/
structure LvS where
  L : Nat
  k : Nat
  X : Nat → Txr
  M : Txr
def LvS.next (σ : LvS) (x : Txr) : LvS := ⟨σ.L, σ.k + 1, updX σ.X σ.k x, σ.M⟩
structure LvJ (w : World) (B : Nat) (f : Nat → Int) (s : Nat) (σ : LvS) (W : World) : Prop where
  b : ∃ p c, Own B [.slice p σ.k c] W ∧ W.ownsRow (σ.L + 1) 24 2 (.slice p σ.k c) σ.k (cellsX σ.X σ.k)
  x : ∀ j, j < σ.k → RowT (σ.X j) W ∧ LvOk f s j (σ.X j)
  y : ∀ j, j < σ.k → Away σ.L (σ.X j) ∧ Away B (σ.X j)
  ma : Away σ.L σ.M ∧ Away B σ.M
  l : Own σ.L [.int .i64 σ.M.S, .slice σ.M.q σ.M.n σ.M.c] W
  m : RowT σ.M W
  o : B < σ.L
  h : w.heap.size ≤ B
  z : Below w.heap.size w W
theorem LvJ.later {w : World} {B s : Nat} {f : Nat → Int} {σ : LvS} {W W' : World} (h : LvJ w B f s σ W) (hb : Below W.heap.size W W') : LvJ w B f s σ W' := by
  obtain ⟨p, c, h1, h2⟩ := h.b
  exact ⟨⟨p, c, h1.later hb, row_later h2 hb⟩, fun j hj => ⟨(h.x j hj).1.later hb, (h.x j hj).2⟩, h.y, h.ma, h.l.later hb, h.m.later hb, h.o, h.h, Below.go h.z hb⟩
theorem LvJ.odd {w : World} {B s l : Nat} {f : Nat → Int} {σ : LvS} {W : World} {o : Obj} (h : LvJ w B f s σ W) (hw : w.heap.size ≤ l) (hl : Odd l W) : LvJ w B f s σ (W.putObj l o) := by
  obtain ⟨p, c, h1, h2⟩ := h.b
  exact ⟨⟨p, c, h1.odd hl, row_odd h2 hl⟩, fun j hj => ⟨(h.x j hj).1.odd hl, (h.x j hj).2⟩, h.y, h.ma, h.l.odd hl, h.m.odd hl, h.o, h.h, putObj_below h.z hw⟩
/-- the iterator's store of the next level -/
theorem LvJ.step {w : World} {B s : Nat} {f : Nat → Int} {σ : LvS} {W : World} {M : Txr} (h : LvJ w B f s σ W) (hm : RowT M W) (hM : Away σ.L M ∧ Away B M) :
    LvJ w B f s ⟨σ.L, σ.k, σ.X, M⟩ (W.setCells σ.L 0 [.int .i64 M.S, .slice M.q M.n M.c]) := by
  obtain ⟨p, c, h1, h2⟩ := h.b
  exact ⟨⟨p, c, h1.far (Nat.ne_of_lt h.o), row_far h2 (row_ne h2 (Nat.lt_succ_self _)) 0 _⟩, fun j hj => ⟨(h.x j hj).1.far (h.y j hj).1, (h.x j hj).2⟩, h.y, hM, Own.store h.l rfl, hm.far hM.1, h.o, h.h, Below.setCells h.z (Nat.le_trans h.h (Nat.le_of_lt h.o)) _ _⟩
/-- before the iterator begins -/
structure LvI (w : World) (B A : Nat) (T : Txr) (W : World) : Prop where
  b : Own B [.slice none 0 0] W
  a : Own A [.int .i64 T.S, .slice T.q T.n T.c] W
  t : RowT T W
  tb : Away B T
  h : w.heap.size ≤ B
  z : Below w.heap.size w W
theorem LvI.later {w : World} {B A : Nat} {T : Txr} {W W' : World} (h : LvI w B A T W) (hb : Below W.heap.size W W') : LvI w B A T W' := ⟨h.b.later hb, h.a.later hb, h.t.later hb, h.tb, h.h, Below.go h.z hb⟩
/-- when the iterator has ended -/
def LvD (w : World) (B : Nat) (f : Nat → Int) (s : Nat) (W : World) : Prop := ∃ σ, LvJ w B f s σ W ∧ LastK s σ.k
set_option maxHeartbeats 8000000 in
theorem levels1_in (n : Nat) (w : World) (A B s : Nat) (T : Txr) (f : Nat → Int) (hs : s ≤ 16) (GT : GoodT (s : Int) (s * s) f) (T0 : LvOk f s 0 T) (l : Nat) (Bk : World → Prop) (W1 : World)
    (hBk : ∀ W W', Bk W → KeepsOthers W W' → Bk W') (b1 : Bk W1) (hI : LvI w B A T W1)
    (hY : ∀ σ x W, Bk W → LvJ w B f s σ W → (x = σ.M ∧ LvOk f s σ.k x ∧ σ.k ≤ 4) → YieldAt Fence.wide (n - 1) Try.prog l #[.agg #[.int .i64 x.S, .slice x.q x.n x.c]] W fun e W' => e = .returned (.bool true) ∧ Bk W' ∧ LvJ w B f s (σ.next x) W') :
    CallsIn Fence.wide n Try.prog 52 #[.func (.yield l) #[] #[], .pointer (some ⟨A, 0, none⟩)] W1 fun e W' => (∃ v, e = .returned v) ∧ Bk W' ∧ LvD w B f s W' := by
  have HI := Lib.hid hI; have HK := Lib.hid b1
  have a0 := hI.a.at 0 _ rfl; have a1 := hI.a.at 1 _ rfl; have al := hI.a.lt
  clear hI b1
  refine callsIn_of_wp Try.func52 rfl trivial ?_ rfl
  simp only [Try.ntmps52, List.size_toArray, List.length_cons, List.length_nil, Nat.reduceAdd, Nat.reduceSub, Array.replicate_succ, Array.replicate_zero, List.push_toArray, List.append_toArray, List.nil_append, List.cons_append]
  gi_wp2
  obtain ⟨W0, hW⟩ : ∃ W0, W0 = (W1.alloc (.cells #[.int .i64 T.S, .slice T.q T.n T.c] 24)) := ⟨_, rfl⟩
  have hb0 : Below W1.heap.size W1 W0 := hW ▸ Below.al (Below.refl _ _)
  have J0 : Hid (LvJ w B f s ⟨W1.heap.size, 0, fun _ => T, T⟩ W0) := Lib.hid ⟨⟨none, 0, HI.out.b.later hb0, World.ownsRow_nil _ _ _ _⟩, fun j hj => absurd hj (Nat.not_lt_zero j), fun j hj => absurd hj (Nat.not_lt_zero j), ⟨HI.out.t.away, HI.out.tb⟩, hW ▸ Own.newAt rfl, HI.out.t.later hb0, HI.out.b.lt, HI.out.h, Below.go HI.out.z hb0⟩
  have K0 : Hid (Bk W0) := Lib.hid (hBk _ _ HK.out (hW ▸ KeepsOthers.alloc _ _))
  rw [← hW]
  clear hW hb0 a0 a1 al
  obtain ⟨L, eL⟩ : ∃ L, L = W1.heap.size := ⟨_, rfl⟩
  rw [← eL] at J0 ⊢
  clear eL HI HK
  gi_loopw [5] (fun _ wr => ∃ (k : Nat) (X : Nat → Txr) (M : Txr), Hid (LvJ w B f s ⟨L, k, X, M⟩ wr) ∧ Hid (LvOk f s k M) ∧ Hid (Bk wr) ∧ Hid (∀ j, j < k → 2 ≤ sdF s j)) (fun _ wr => (intOf ((wr.cell? ⟨L, 0, none⟩).getD undef)).toNat)
  case atStart => exact ⟨0, _, T, J0, Lib.hid T0, K0, Lib.hid (fun j hj => absurd hj (Nat.not_lt_zero j))⟩
  case round =>
    clear J0 K0
    obtain ⟨k, X, M, HJ, HO, HK, HS⟩ := hrel
    obtain ⟨fn, tmps, assign, body, hy, hR⟩ := hY ⟨L, k, X, M⟩ M wr HK.out HJ.out ⟨rfl, HO.out, few_lv (k := k) hs (by have := (lv_good GT k HS.out).s; omega)⟩
    have c0 := HJ.out.l.at 0 _ rfl; have c1 := HJ.out.l.at 1 _ rfl; have cl := HJ.out.l.lt
    dsimp only at c0 c1 cl
    have C0 := Lib.hid c0
    gi_wp2
    refine ⟨(fun h => by cases h), hR.mono ?_⟩
    rintro e W3 ⟨rfl, hb3, hj3⟩
    have B3 := Lib.hid hb3
    have J3 : Hid (LvJ w B f s ⟨L, k + 1, updX X k M, M⟩ W3) := Lib.hid hj3
    clear hb3 hj3 hR hy c0 c1 cl HJ HK
    have d0 := J3.out.l.at 0 _ rfl; have d1 := J3.out.l.at 1 _ rfl; have dl := J3.out.l.lt
    dsimp only at d0 d1 dl
    have G := lv_good GT k HS.out
    have eS := HO.out.S
    by_cases h2 : 2 ≤ sdF s k
    · have hc : (1 : Int) < M.S := by omega
      have two := sd_two G h2
      have HM := Lib.hid (fun W hm => half_any M.S M.q M.n M.c (sdF s k) (sdF s (k + 1)) M.f eS two.1 two.2.1 two.2.2 HO.out.n (by rw [HO.out.f, HO.out.n]; exact G.v) J3.out.m.at.m W hm)
      have TW := Lib.hid two; have H2 := Lib.hid h2
      clear G eS h2 two
      gi_wp2
      refine ⟨trivial, (fun h => by cases h), (callsIn_wide.2 (HM.out _ J3.out.m.at.t)).mono ?_⟩
      rintro e W4 ⟨p, d, rfl, hr, hb⟩
      have J4 := Lib.hid (J3.out.later hb)
      have B4 := Lib.hid (hBk _ _ B3.out ⟨hb.size, fun i o hi _ => (hb.block i (Array.getElem?_eq_some_iff.1 hi).1).trans hi⟩)
      have h1 : 1 ≤ sdF s (k + 1) * sdF s (k + 1) := Nat.mul_le_mul TW.out.2.1 TW.out.2.1
      have RT : Hid (RowT ⟨sdF s (k + 1), p, sdF s (k + 1) * sdF s (k + 1), d, hlfF M.f (sdF s k) (sdF s (k + 1))⟩ W4) := Lib.hid ⟨h1, _, hr⟩
      have RA : Hid (Away L ⟨sdF s (k + 1), p, sdF s (k + 1) * sdF s (k + 1), d, hlfF M.f (sdF s k) (sdF s (k + 1))⟩ ∧ Away B ⟨sdF s (k + 1), p, sdF s (k + 1) * sdF s (k + 1), d, hlfF M.f (sdF s k) (sdF s (k + 1))⟩) := Lib.hid ⟨row_ne hr J3.out.l.lt, row_ne hr (Nat.lt_trans J3.out.o J3.out.l.lt)⟩
      have e0 := J4.out.l.at 0 _ rfl; have ef0 := J4.out.l.ok 0 (by simp); have e1 := J4.out.l.at 1 _ rfl; have ef1 := J4.out.l.ok 1 (by simp); have el := J4.out.l.lt
      dsimp only at e0 ef0 e1 ef1 el
      have HO2 : Hid (LvOk f s (k + 1) ⟨sdF s (k + 1), p, sdF s (k + 1) * sdF s (k + 1), d, hlfF M.f (sdF s k) (sdF s (k + 1))⟩) := Lib.hid ⟨rfl, rfl, by show hlfF M.f _ _ = hlfF (lvF f s k) _ _; rw [HO.out.f]⟩
      clear hr hb h1 d0 d1 dl B3 HM
      generalize sdF s (k + 1) * sdF s (k + 1) = m at *
      gi_wp2
      rw [show (W4.setCell ⟨L, 0, none⟩ (.int .i64 (sdF s (k + 1)))).setCell ⟨L, 1, none⟩ (.slice p m d) = W4.setCells L 0 [.int .i64 (sdF s (k + 1)), .slice p m d] from rfl]
      have B5 := Lib.hid (hBk _ _ B4.out ((KeepsOthers.setCell W4 ⟨L, 0, none⟩ (.int .i64 (sdF s (k + 1)))).trans (KeepsOthers.setCell _ ⟨L, 1, none⟩ (.slice p m d))))
      have B6 : Hid (Bk (W4.setCells L 0 [.int .i64 (sdF s (k + 1)), .slice p m d])) := B5
      have J6 := Lib.hid (J4.out.step (M := ⟨sdF s (k + 1), p, m, d, hlfF M.f (sdF s k) (sdF s (k + 1))⟩) RT.out RA.out)
      dsimp only at J6
      have e6 : ((W4.setCells L 0 [.int .i64 (sdF s (k + 1)), .slice p m d]).cell? ⟨L, 0, none⟩) = some (.int .i64 (sdF s (k + 1))) := J6.out.l.at 0 _ rfl
      clear B5 B4 J4 J3 e0 ef0 e1 ef1 el
      generalize W4.setCells L 0 [.int .i64 (sdF s (k + 1)), .slice p m d] = W6 at *
      go_roundw
      case rel => exact ⟨k + 1, _, _, J6, HO2, B6, Lib.hid (fun j hj => by
        rcases Nat.lt_or_ge j k with h | h
        · exact HS.out j h
        · obtain rfl : j = k := by omega
          exact H2.out)⟩
      case measure =>
        rw [e6, C0.out]
        have := HO.out.S; have := TW.out.1; have := TW.out.2.1
        simp [intOf]
        omega
    · have hc : decide ((1 : Int) < M.S) = false := decide_eq_false (by omega)
      have h1 : sdF s k = 1 := by have := G.s; omega
      have HL : Hid (LastK s (k + 1)) := Lib.hid ⟨by omega, h1, fun j hj => HS.out j (by omega)⟩
      clear G eS h2 h1
      gi_wp2
      go_end0
      exact ⟨⟨_, rfl⟩, B3.out, _, J3.out, HL.out⟩
end Go.Proofs.Ytbhdlpndmbhaiaa

/- ZD -/
namespace Go.Proofs.Ytbhdlpndmbhaiaa
set_option linter.unusedVariables false
set_option maxRecDepth 2000
set_option linter.unusedSimpArgs false
open Go.RowKit
theorem Odd.later {l : Nat} {W W' : World} (h : Odd l W) (hb : Below W.heap.size W W') : Odd l W' := by
  obtain ⟨o, h1, h2⟩ := h
  exact ⟨o, (hb.block l (Array.getElem?_eq_some_iff.1 h1).1).trans h1, h2⟩
theorem infoT : (Try.prog.info? 24).map (fun i => (i.zero, i.size, i.bytes)) = some (some (.agg #[.int .i64 0, .slice none 0 0]), 2, 32) := by kernel_rfl
theorem infoT_parts : ∃ i, Try.prog.info? 24 = some i ∧ i.zero = some (.agg #[.int .i64 0, .slice none 0 0]) ∧ i.size = 2 ∧ i.bytes = 32 := by
  obtain ⟨i, hi, h⟩ := Option.map_eq_some_iff.1 infoT
  simp only [Prod.mk.injEq] at h
  exact ⟨i, hi, h.1, h.2.1, h.2.2⟩
theorem row_cells {W : World} {base n size : Nat} {e : TypeId} {v : Value} {xs : List Value} (h : W.ownsRow base e size v n xs) : ∀ (j : Nat) (o : Obj), v.ownBlock = some j → W.heap[j]? = some o → o.isCells = true := fun j o hj ho => by
  rcases h.2 with ⟨rfl, _⟩ | ⟨g, cap, cur, rfl, _, hg, _⟩
  · cases hj
  · simp only [Value.ownBlock, Option.some.injEq] at hj
    subst hj
    rw [hg] at ho
    injection ho with ho
    rw [← ho]
    rfl
/-- the body's append and store -/
theorem LvJ.body {w : World} {B s : Nat} {f : Nat → Int} {σ : LvS} {W W' : World} {x : Txr} {p : Option Addr} {c : Nat} {v' : Value} (h : LvJ w B f s σ W) (e : x = σ.M) (hx : LvOk f s σ.k x)
    (hr : W.ownsRow (σ.L + 1) 24 2 (.slice p σ.k c) σ.k (cellsX σ.X σ.k)) (hg : W.grownBy W' (Value.slice p σ.k c).ownBlock) (hb : Own B [.slice p σ.k c] W)
    (hr' : W'.ownsRow (σ.L + 1) 24 2 v' (σ.k + 1) (cellsX σ.X σ.k ++ [.int .i64 x.S, .slice x.q x.n x.c])) : LvJ w B f s (σ.next x) (W'.setCells B 0 [v']) := by
  subst e
  obtain ⟨q, d, rfl, _⟩ := row_form hr'
  have nb : ∀ {b : Nat}, b < σ.L + 1 → (Value.slice p σ.k c).ownBlock ≠ some b := fun hb => row_ne hr hb
  have rt : ∀ {Y : Txr}, RowT Y W → Away B Y → RowT Y (W'.setCells B 0 [.slice q (σ.k + 1) d]) := fun {Y} hY ha => (hY.grown hg rfl hr (by decide)).far ha
  refine ⟨⟨q, d, Own.store (hb.grown hg (nb (by have := h.o; omega))) rfl, ?_⟩, ?_, ?_, h.ma, (h.l.grown hg (nb (Nat.lt_succ_self _))).far (Nat.ne_of_gt h.o), rt h.m h.ma.2, h.o, h.h, ?_⟩
  · have := row_far hr' (row_ne hr' (show B < σ.L + 1 by have := h.o; omega)) 0 [.slice q (σ.k + 1) d]
    rw [cellsX_upd] at this
    exact this
  · intro j hj
    show RowT (updX σ.X σ.k σ.M j) _ ∧ LvOk f s j (updX σ.X σ.k σ.M j)
    by_cases hjk : j = σ.k
    · subst hjk
      rw [updX_same]
      exact ⟨rt h.m h.ma.2, hx⟩
    · rw [updX_other hjk]
      have hj2 : j < σ.k := by have : j < σ.k + 1 := hj; omega
      exact ⟨rt (h.x j hj2).1 (h.y j hj2).2, (h.x j hj2).2⟩
  · intro j hj
    show Away σ.L (updX σ.X σ.k σ.M j) ∧ Away B (updX σ.X σ.k σ.M j)
    by_cases hjk : j = σ.k
    · rw [hjk, updX_same]; exact h.ma
    · rw [updX_other hjk]
      exact h.y j (by have : j < σ.k + 1 := hj; omega)
  · exact Below.setCells (h.z.grown hg (by have := h.z.size; omega) (fun k hk => Nat.le_trans (by have := h.o; have := h.h; omega) (row_ge hr k hk))) h.h _ _
theorem then_lets {K : Act → World → Prop} : ¬LetsOut (Exit.then K (fun _ _ _ => False)) := fun ⟨_, _, h⟩ => h
theorem block_lets {id : Nat} {J : World → Prop} {W0 : World} : ¬LetsOut (Exit.inBlock id (goesOn J W0)) := fun ⟨_, _, h⟩ => h
set_option maxHeartbeats 16000000 in
theorem Levels_yes (M : Txr) (s : Nat) (w : World) (hM : TxAt M w) (hz : chkT M.S M.n M.f = 0) (eS : M.S = (s : Int)) (h1 : 1 ≤ s) (h16 : s ≤ 16) (hn : M.n = s * s) :
    Calls Try.prog 20 #[.agg #[.int .i64 M.S, .slice M.q M.n M.c]] w fun e w' => (∃ v K X, e = .returned (.tuple #[v, .int .i64 0]) ∧ LvOut M.f s v K X w') ∧ Below w.heap.size w w' := by
  have HM := Lib.hid hM
  have CK := Lib.hid (Check_any M)
  have GT := tchk_good hz
  obtain ⟨S, q, n, c, f⟩ := M
  dsimp only at *
  subst eS
  rw [hz] at CK
  have GG := Lib.hid GT
  have n1 : 1 ≤ n := by rw [hn]; exact Nat.mul_le_mul h1 h1
  have n2 : n ≤ 1000 := by rw [hn]; exact Nat.le_trans (Nat.mul_le_mul h16 h16) (by decide)
  have CL := Lib.hid (fun W h => Clone_yes q n c f n1 n2 W h)
  have HN := Lib.hid hn
  have H16 := Lib.hid h16; have N1 := Lib.hid n1
  clear hM hz GT h1 h16 n1 n2 hn
  refine callsIn_wide.1 (callsIn_of_wp_marks (F := Fence.wide) (n := 6) Try.func20 rfl trivial (wpIn_wide.2 ?_) rfl)
  simp only [Try.ntmps20, List.size_toArray, List.length_cons, List.length_nil, Nat.reduceAdd, Nat.reduceSub, Array.replicate_succ, Array.replicate_zero, List.push_toArray, List.append_toArray, List.nil_append, List.cons_append]
  go_upto_region 1 with fail
  obtain ⟨W0, hW⟩ : ∃ W0, W0 = (w.alloc (.cells #[.int .i64 (s : Int), .slice q n c] 24)) := ⟨_, rfl⟩
  have hB0 : Below w.heap.size w W0 := hW ▸ (Below.al (Below.refl _ _))
  have HA : Hid (Own w.heap.size [.int .i64 (s : Int), .slice q n c] W0) := Lib.hid (hW ▸ (Own.newAt (by simp)))
  rw [← hW]
  clear hW
  obtain ⟨A, eA⟩ : ∃ X, X = w.heap.size := ⟨_, rfl⟩
  rw [← eA] at HA ⊢
  have AW := Lib.hid (show w.heap.size ≤ A by omega)
  clear eA
  have HM0 := Lib.hid (HM.out.later hB0)
  have A0 := HA.out.at 0 _ rfl; have A1 := HA.out.at 1 _ rfl; have Al := HA.out.lt
  go_wp2_with (fail)
  go_at_call 11
  refine (CK.out _ HM0.out).mono ?_
  rintro e w1 ⟨rfl, hb⟩
  have HA1 := Lib.hid (HA.out.later hb)
  have HB1 := Lib.hid (Below.go hB0 hb)
  have HT1 := Lib.hid (HM.out.t.later HB1.out)
  dsimp only at HT1
  clear hb hB0 HM0 HM HA CK A0 A1 Al
  have A1 := HA1.out.at 1 _ rfl; have Al := HA1.out.lt
  go_wp2_with (fail)
  go_at_call 36
  refine (CL.out _ HT1.out).mono ?_
  rintro e w2 ⟨p, d, rfl, hr, hb⟩
  have HR := Lib.hid hr
  have HA2 := Lib.hid (HA1.out.later hb)
  have HB2 := Lib.hid (Below.go HB1.out hb)
  have LA : Hid (A < w1.heap.size) := Lib.hid HA1.out.lt
  clear hb hr HA1 HB1 HT1 CL A1 Al
  have A1 := HA2.out.at 1 _ rfl; have Af1 := HA2.out.ok 1 (by simp); have Al := HA2.out.lt
  go_upto_region 6 with fail
  clear A1 Af1 Al
  rw [show w2.setCell ⟨A, 1, none⟩ (.slice p n d) = w2.setCells A 1 [.slice p n d] from rfl]
  have HA3 : Hid (Own A [.int .i64 (s : Int), .slice p n d] (w2.setCells A 1 [.slice p n d])) := Lib.hid (show Own A (over _ 1 [.slice p n d]) _ from Own.part HA2.out (by simp))
  have HT3 : Hid (RowT ⟨s, p, n, d, f⟩ (w2.setCells A 1 [.slice p n d])) := Lib.hid ⟨N1.out, _, row_far HR.out (row_ne HR.out LA.out) 1 [.slice p n d]⟩
  have HB3 := Lib.hid (Below.setCells HB2.out AW.out [.slice p n d] 1)
  have eZ : (w2.setCells A 1 [.slice p n d]).heap.size = w2.heap.size := size_setCells _ _ _ _
  rw [← eZ]
  clear HA2 HR HB2 LA
  generalize w2.setCells A 1 [.slice p n d] = w3 at *
  obtain ⟨w4, hW⟩ : ∃ W, W = w3.alloc (.cells #[.slice none 0 0] 45) := ⟨_, rfl⟩
  have hb4 : Below w3.heap.size w3 w4 := hW ▸ Below.al (Below.refl _ _)
  have OB : Hid (Own w3.heap.size [.slice none 0 0] w4) := Lib.hid (hW ▸ Own.newAt rfl)
  have AB : Hid (Away w3.heap.size ⟨s, p, n, d, f⟩) := Lib.hid HT3.out.away
  have HA4 := Lib.hid (HA3.out.later hb4); have HT4 := Lib.hid (HT3.out.later hb4); have HB4 := Lib.hid (Below.go HB3.out hb4)
  have BW : Hid (w.heap.size ≤ w3.heap.size) := Lib.hid HB3.out.size
  rw [← hW]
  clear hW hb4 HA3 HT3 HB3 eZ
  obtain ⟨B, eB⟩ : ∃ B, B = w3.heap.size := ⟨_, rfl⟩
  rw [← eB] at OB AB BW ⊢
  clear eB
  have A0 := HA4.out.at 0 _ rfl; have A1 := HA4.out.at 1 _ rfl; have Al := HA4.out.lt
  go_wp2_with (fail)
  go_at_call 37
  refine (levels_any ⟨s, p, n, d, f⟩ _).mono ?_
  rintro e w5 ⟨A2, rfl, hA2, ha, hb⟩
  dsimp only at ha
  have HI : Hid (LvI w B A2 ⟨s, p, n, d, f⟩ w5) := Lib.hid ⟨OB.out.later hb, ha, HT4.out.later hb, AB.out, BW.out, Below.go HB4.out hb⟩
  clear ha hb hA2 A0 A1 Al HA4 HT4 HB4 OB AB
  go_wp2_with (fail)
  have W5 : Hid (w.heap.size ≤ w5.heap.size) := Lib.hid HI.out.z.size
  obtain ⟨i0, hi, hz0, hz1, hz2⟩ := infoT_parts
  refine wpIn_wide.1 (range_book (n := 6) (gf := 52) (lb := #[.pointer (some ⟨A2, 0, none⟩)]) rfl (fun _ _ => rfl) (encs := fun x : Txr => #[.agg #[.int .i64 x.S, .slice x.q x.n x.c]]) (fun _ => rfl)
    (LvI w B A2 ⟨s, p, n, d, f⟩) (LvJ w B f s) (fun σ x => x = σ.M ∧ LvOk f s σ.k x ∧ σ.k ≤ 4) LvS.next (LvD w B f s) ?h0 ?hJ ?hD ?hround ?hiter ?hdone)
  case h0 => exact fun o o' => (HI.out.later (Below.al (Below.refl _ _))).later (Below.al (Below.refl _ _))
  case hJ => exact fun σ W l o h hl ho => h.odd (Nat.le_trans W5.out hl) ho
  case hD =>
    rintro W l o ⟨σ, h, hk⟩ hl ho
    exact ⟨σ, h.odd (Nat.le_trans W5.out hl) ho, hk⟩
  case hiter => exact fun l Bk W1 _ hBk b1 hI hY => levels1_in 5 w A2 B s _ f H16.out (HN.out ▸ GG.out) ⟨rfl, HN.out, rfl⟩ l Bk W1 hBk b1 hI hY
  case hround =>
    clear HI
    rintro l σ x W hl hj ⟨hx, ho, hk⟩ hodd
    subst hx
    have HO := Lib.hid ho; have HK := Lib.hid hk
    have OD := Lib.hid hodd
    have HJ := Lib.hid hj
    have lW : w.heap.size ≤ l := by have := W5.out; omega
    clear ho hk hj hl hodd
    refine region_round then_lets rfl ?_
    go_wp2_with (fail)
    refine ⟨KeepsOthers.alloc _ _, fun o => ?_⟩
    have hal : Below W.heap.size W (W.alloc (.cells #[.int .i64 σ.M.S, .slice σ.M.q σ.M.n σ.M.c] 24)) := Below.al (Below.refl _ _)
    have OD2 := OD.out.later hal
    have J2 := Lib.hid ((HJ.out.later hal).odd (o := o) lW OD2)
    have OV : Hid (Own W.heap.size [.int .i64 σ.M.S, .slice σ.M.q σ.M.n σ.M.c] ((W.alloc (.cells #[.int .i64 σ.M.S, .slice σ.M.q σ.M.n σ.M.c] 24)).putObj l o)) := Lib.hid (Own.odd (Own.newAt rfl) OD2)
    clear hal OD2 lW HJ OD
    generalize ((W.alloc (.cells #[.int .i64 σ.M.S, .slice σ.M.q σ.M.n σ.M.c] 24)).putObj l o) = W2 at *
    obtain ⟨V, eV⟩ : ∃ V, V = W.heap.size := ⟨_, rfl⟩
    rw [← eV] at OV ⊢
    clear eV
    obtain ⟨p3, c3, hob, hrow⟩ := J2.out.b
    have OBx := Lib.hid hob; have ROW := Lib.hid hrow
    have b0 := hob.at 0 _ rfl; have bf0 := hob.ok 0 (by simp); have bl := hob.lt
    have v0 := OV.out.at 0 _ rfl; have v1 := OV.out.at 1 _ rfl; have vl := OV.out.lt
    have N63 := Lib.hid (show σ.k + 1 ≤ maxLen by have := HK.out; unfold maxLen; omega)
    have NBY := Lib.hid (show (σ.k + 1) * 32 ≤ 140737488355328 by have := HK.out; omega)
    have HSz : Hid (σ.L + 1 ≤ (W2.alloc (.cells #[.int .i64 σ.M.S, .slice σ.M.q σ.M.n σ.M.c] 24)).heap.size) := Lib.hid (by have := J2.out.l.lt; simp; omega)
    clear hob hrow
    refine wpIn_block (region_round block_lets rfl ?_)
    go_wp2_with (at_builtin; refine wpList_append_own _ rfl _ _ 45 rfl (σ.L + 1) 24 i0 (.agg #[.int .i64 0, .slice none 0 0]) 2 32 Try.underlying45 hi hz0 hz1 hz2 rfl (by decide) _ σ.k _ rfl (row_later ROW.out (Below.al (Below.refl _ _))) ⟨W2.heap.size, 0, none⟩ 1 1 [.int .i64 σ.M.S, .slice σ.M.q σ.M.n σ.M.c] rfl rfl (Own.newAt (by rfl)).news (by simp [Value.oneCell']) N63.out NBY.out HSz.out ?_; intro v' z6 hrow hgr _; obtain ⟨p4, c4, rfl, _⟩ := row_form hrow; have o6 := Lib.hid hrow; have og := Lib.hid hgr; have B6 := ((OBx.out.alloc (o := .cells #[.int .i64 σ.M.S, .slice σ.M.q σ.M.n σ.M.c] 24)).grown hgr (row_ne ROW.out (by have := J2.out.o; omega))); have e0 := B6.at 0 _ rfl; have ef := B6.ok 0 (by simp); have el := B6.lt; clear hrow hgr)
    clear b0 bf0 bl v0 v1 vl e0 ef el
    refine ⟨((KeepsOthers.alloc _ _).trans (KeepsOthers.of_grownBy og.out (row_cells (row_later ROW.out (Below.al (Below.refl _ _)))))).trans (KeepsOthers.setCell _ _ _), ?_⟩
    exact (J2.out.later (Below.al (Below.refl _ _))).body rfl HO.out (row_later ROW.out (Below.al (Below.refl _ _))) og.out OBx.out.alloc o6.out
  case hdone =>
    clear HI
    rintro D W hD hd hK
    obtain ⟨σ, hj, hk⟩ := hd
    obtain ⟨p3, c3, hob, hrow⟩ := hj.b
    have b0 := hob.at 0 _ rfl; have bl := hob.lt
    have HJ := Lib.hid hj; have HK := Lib.hid hk; have ROW := Lib.hid hrow; have DW := Lib.hid hD; have KD := Lib.hid hK
    clear hj hk hob hrow hD hK
    go_wp2_with (fail)
    refine ⟨by simp, .inl ⟨_, _, rfl, run_takeDeferred KD.out, ?_⟩⟩
    have od : Odd D W := ⟨_, KD.out, rfl⟩
    have J2 := HJ.out.odd (o := .deferred none) (show w.heap.size ≤ D by have := W5.out; have := DW.out; omega) od
    have R2 := row_odd (o := .deferred none) ROW.out od
    have hk := HK.out.1
    have cap := row_cap_ R2
    obtain ⟨g, rfl, hh⟩ : ∃ g, p3 = some ⟨g, 0, none⟩ ∧ Has g 0 (cellsX σ.X σ.k) (W.putObj D (.deferred none)) := by
      rcases R2.2 with ⟨_, h0⟩ | ⟨g, cap, _, hv, _⟩
      · omega
      · have e : p3 = some ⟨g, 0, none⟩ := by injection hv
        subst e
        exact ⟨g, rfl, (row_has' R2).1⟩
    exact ⟨.tuple #[.slice (some ⟨g, 0, none⟩) σ.k c3, .int .i64 0], (by simp [results, Try.results20, go_sem]), ⟨_, σ.k, σ.X, rfl, ⟨⟨g, c3, rfl, cap.1, cap.2, hh⟩, HK.out, fun j hj => ⟨(J2.x j hj).1.at, (J2.x j hj).2⟩⟩⟩, J2.z⟩
set_option maxHeartbeats 8000000 in
theorem Levels_no (M : Txr) (w : World) (hM : TxAt M w) (hz : chkT M.S M.n M.f ≠ 0) :
    Calls Try.prog 20 #[.agg #[.int .i64 M.S, .slice M.q M.n M.c]] w fun e w' => e = .returned (.tuple #[.slice none 0 0, .int .i64 (chkT M.S M.n M.f)]) ∧ Below w.heap.size w w' := by
  have HM := Lib.hid hM
  have CK := Lib.hid (Check_any M)
  obtain ⟨S, q, n, c, f⟩ := M
  dsimp only at *
  generalize chkT S n f = z at *
  have hd : (z != 0) = true := by simpa using hz
  clear hM hz
  refine callsIn_wide.1 (callsIn_of_wp_marks (F := Fence.wide) (n := 6) Try.func20 rfl trivial (wpIn_wide.2 ?_) rfl)
  simp only [Try.ntmps20, List.size_toArray, List.length_cons, List.length_nil, Nat.reduceAdd, Nat.reduceSub, Array.replicate_succ, Array.replicate_zero, List.push_toArray, List.append_toArray, List.nil_append, List.cons_append]
  go_upto_region 1 with fail
  obtain ⟨W0, hW⟩ : ∃ W0, W0 = (w.alloc (.cells #[.int .i64 S, .slice q n c] 24)) := ⟨_, rfl⟩
  have hB0 : Below w.heap.size w W0 := hW ▸ (Below.al (Below.refl _ _))
  have HA : Hid (Own w.heap.size [.int .i64 S, .slice q n c] W0) := Lib.hid (hW ▸ (Own.newAt (by simp)))
  rw [← hW]
  clear hW
  obtain ⟨A, eA⟩ : ∃ X, X = w.heap.size := ⟨_, rfl⟩
  rw [← eA] at HA ⊢
  clear eA
  have HM0 := Lib.hid (HM.out.later hB0)
  have A0 := HA.out.at 0 _ rfl; have A1 := HA.out.at 1 _ rfl; have Al := HA.out.lt
  go_wp2_with (fail)
  go_at_call 11
  refine (CK.out _ HM0.out).mono ?_
  rintro e w1 ⟨rfl, hb⟩
  have HB1 := Lib.hid (Below.go hB0 hb)
  clear hb hB0 HM0 HM HA CK A0 A1 Al
  go_wp2_with (fail)
  exact ⟨.tuple #[.slice none 0 0, .int .i64 z], (by simp [results, Try.results20, go_sem]), rfl, HB1.out⟩
end Go.Proofs.Ytbhdlpndmbhaiaa
