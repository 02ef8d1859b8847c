/- NZk NZj NY NZa NZm NZn NZo PNFew, in one text. -/
import Derived.Test.YtbofihejegbfhaaNAb
import Derived.Test.YtbofihejegbfhaaNL
import Derived.Test.YtbofihejegbfhaaNI
import Derived.Test.YtbofihejegbfhaaNH
import Derived.Test.YtbofihejegbfhaaNZh
import Derived.Test.YtbofihejegbfhaaCW
import Derived.Lib.Hide
import Derived.Laws.OwnMore
import Derived.ArgAppend
import Derived.Test.YtbofihejegbfhaaNX
import Derived.Test.YtbofihejegbfhaaNR
import Derived.Test.YtbofihejegbfhaaNK
import Derived.Deep.QuietTactic
import Derived.Test.YtbofihejegbfhaaCT
import Derived.Lib.Bytes
import Derived.Great.BuildSlice
import Derived.LoopN
import Derived.LoopTactic
import Derived.Deep.Onto
import Derived.Test.YtbofihejegbfhaaPC
import Derived.Test.YtbofihejegbfhaaPF
import Derived.Test.YtbofihejegbfhaaPS
import Derived.Test.YtbofihejegbfhaaRows
import Derived.Test.YtbofihejegbfhaaPE
import Derived.WalkKit
import Derived.ProofKit
import Derived.OpenShut
import Derived.ChangeSlices
import Derived.Lib.SmallJoins
/- NZk -/
namespace Go.Proofs.Ytbofihejegbfhaa
set_option linter.unusedVariables false
set_option maxRecDepth 2000
set_option linter.unusedSimpArgs false
open Go.RowKit
theorem numB_byt (N : Nat) : ∀ n, numB (byt N) n = N % 256 ^ n
  | 0 => by simp [numB, Nat.mod_one]
  | n + 1 => by
    rw [numB, numB_byt N n, Nat.pow_succ, Nat.mod_mul, show (byt N n).toNat = N / 256 ^ n % 256 from rfl, Nat.mul_comm (256 ^ n)]
theorem numB_zero : ∀ n, numB (fun _ => 0) n = 0
  | 0 => rfl
  | n + 1 => by rw [numB, numB_zero n]; simp
theorem blk_of_num {f g : Nat → Int} {N M k l : Nat} (hf : ∀ i, i < N → inB (f i)) (hg : ∀ i, i < M → inB (g i)) (h : blkN f N k = blkN g M l) : ∀ r, r < 17 → blkB f N k r = blkB g M l r := fun r hr => by
  rw [← byt_numB (blkB f N k) 17 r hr fun j _ => in_blkB hf k j, ← byt_numB (blkB g M l) 17 r hr fun j _ => in_blkB hg l j]
  show byt (blkN f N k) r = byt (blkN g M l) r
  rw [h]
theorem blk_mark (f : Nat → Int) (N k : Nat) : blkB f N k (min 16 (N - 16 * k)) = 1 := by
  unfold blkB
  rw [if_neg (by omega), if_pos rfl]
theorem blk_past (f : Nat → Int) (N k r : Nat) (h : min 16 (N - 16 * k) < r) : blkB f N k r = 0 := by
  unfold blkB
  rw [if_neg (by omega), if_neg (by omega)]
theorem blk_in (f : Nat → Int) (N k r : Nat) (h : r < min 16 (N - 16 * k)) : blkB f N k r = f (16 * k + r) := by
  unfold blkB
  rw [if_pos (by omega)]
theorem blk_same {f g : Nat → Int} {N M k l : Nat} (hf : ∀ i, i < N → inB (f i)) (hg : ∀ i, i < M → inB (g i)) (h : blkN f N k = blkN g M l) : min 16 (N - 16 * k) = min 16 (M - 16 * l) ∧ ∀ r, r < min 16 (N - 16 * k) → f (16 * k + r) = g (16 * l + r) := by
  have hb := blk_of_num hf hg h
  have ht : min 16 (N - 16 * k) = min 16 (M - 16 * l) := by
    rcases Nat.lt_trichotomy (min 16 (N - 16 * k)) (min 16 (M - 16 * l)) with h1 | h1 | h1
    · have := hb (min 16 (M - 16 * l)) (by omega)
      rw [blk_mark, blk_past f N k _ h1] at this
      omega
    · exact h1
    · have := hb (min 16 (N - 16 * k)) (by omega)
      rw [blk_mark, blk_past g M l _ h1] at this
      omega
  refine ⟨ht, fun r hr => ?_⟩
  have := hb r (by omega)
  rwa [blk_in f N k r hr, blk_in g M l r (by omega)] at this
theorem blk_pos {f : Nat → Int} {N k : Nat} (hf : ∀ i, i < N → inB (f i)) : 0 < blkN f N k := by
  rcases Nat.eq_zero_or_pos (blkN f N k) with h | h
  · exfalso
    have h1 := byt_numB (blkB f N k) 17 (min 16 (N - 16 * k)) (by omega) fun j _ => in_blkB hf k j
    rw [blk_mark] at h1
    have h2 : byt (blkN f N k) (min 16 (N - 16 * k)) = 1 := h1
    rw [h] at h2
    simp [byt] at h2
  · exact h
/-- what stands with the factor's square, and with the factor -/
def cF2 (f : Nat → Int) (N : Nat) : Nat := if N ≤ 16 then 0 else blkN f N 0
def cF1 (f : Nat → Int) (N : Nat) : Nat := if N = 0 then 0 else if N ≤ 16 then blkN f N 0 else blkN f N 1
theorem unlike {f g : Nat → Int} {N M : Nat} (hN : N ≤ 32) (hM : M ≤ 32) (hf : ∀ i, i < N → inB (f i)) (hg : ∀ i, i < M → inB (g i)) (h2 : cF2 f N = cF2 g M) (h1 : cF1 f N = cF1 g M) : N = M ∧ ∀ i, i < N → f i = g i := by
  unfold cF2 at h2
  unfold cF1 at h1
  by_cases a : N ≤ 16
  · by_cases b : M ≤ 16
    · rw [if_pos a, if_pos b] at h1
      by_cases a0 : N = 0
      · by_cases b0 : M = 0
        · exact ⟨by omega, fun i hi => by omega⟩
        · rw [if_pos a0, if_neg b0] at h1
          have := blk_pos (k := 0) hg
          omega
      · by_cases b0 : M = 0
        · rw [if_neg a0, if_pos b0] at h1
          have := blk_pos (k := 0) hf
          omega
        · rw [if_neg a0, if_neg b0] at h1
          obtain ⟨h3, h4⟩ := blk_same hf hg h1
          refine ⟨by omega, fun i hi => ?_⟩
          have := h4 i (by omega)
          rwa [Nat.mul_zero, Nat.zero_add] at this
    · rw [if_pos a, if_neg b] at h2
      have := blk_pos (k := 0) hg
      omega
  · by_cases b : M ≤ 16
    · rw [if_neg a, if_pos b] at h2
      have := blk_pos (k := 0) hf
      omega
    · rw [if_neg a, if_neg b] at h2
      rw [if_neg (by omega), if_neg a, if_neg (by omega), if_neg b] at h1
      obtain ⟨h3, h4⟩ := blk_same hf hg h2
      obtain ⟨h5, h6⟩ := blk_same hf hg h1
      refine ⟨by omega, fun i hi => ?_⟩
      by_cases hi6 : i < 16
      · have := h4 i (by omega)
        rwa [Nat.mul_zero, Nat.zero_add] at this
      · have := h6 (i - 16) (by omega)
        rwa [show 16 * 1 + (i - 16) = i by omega] at this
theorem int_mod (x : Nat) : ∃ q : Int, ((x % PP : Nat) : Int) = (x : Int) - PI * q := ⟨((x / PP : Nat) : Int), by
  have h := Nat.div_add_mod x PP
  have e : (PP : Int) = PI := rfl
  rw [← e]
  omega⟩
theorem horn_poly (r : Nat) (f : Nat → Int) (N : Nat) (hN : N ≤ 32) : ((horn r f N ((N + 15) / 16) : Int) - ((cF2 f N : Int) * ((r : Int) * r) + cF1 f N * r)) % PI = 0 := by
  unfold cF2 cF1
  by_cases a : N = 0
  · subst a
    simp [horn]
  by_cases b : N ≤ 16
  · rw [if_pos b, if_neg a, if_pos b, show (N + 15) / 16 = 1 by omega]
    show (((((0 + blkN f N 0) * r) % PP : Nat) : Int) - _) % PI = 0
    obtain ⟨q, e⟩ := int_mod ((0 + blkN f N 0) * r)
    rw [e, Nat.zero_add]
    have : ((blkN f N 0 * r : Nat) : Int) - PI * q - (((0 : Nat) : Int) * ((r : Int) * r) + blkN f N 0 * r) = PI * (-q) := by push_cast; grind
    rw [this]
    exact Int.mul_emod_right _ _
  · rw [if_neg b, if_neg a, if_neg b, show (N + 15) / 16 = 2 by omega]
    show ((((((0 + blkN f N 0) * r % PP) + blkN f N 1) * r % PP : Nat) : Int) - _) % PI = 0
    obtain ⟨q, e⟩ := int_mod (((0 + blkN f N 0) * r % PP + blkN f N 1) * r)
    obtain ⟨p, e'⟩ := int_mod ((0 + blkN f N 0) * r)
    rw [e]
    rw [Nat.zero_add] at e' ⊢
    have : ((((blkN f N 0 * r % PP) + blkN f N 1) * r : Nat) : Int) - PI * q - ((blkN f N 0 : Int) * ((r : Int) * r) + blkN f N 1 * r) = PI * (-(p * r) - q) := by
      rw [Int.natCast_mul, Int.natCast_add, e']; push_cast; grind
    rw [this]
    exact Int.mul_emod_right _ _
/-- the key of a factor -/
def kfR (c : Nat → Int) (i : Nat) : Int := if i < 16 then c i else 0
theorem in_kfR {c : Nat → Int} (h : ∀ i, i < 16 → inB (c i)) : ∀ i, i < 32 → inB (kfR c i) := fun i _ => by
  unfold kfR
  split
  · exact h i (by assumption)
  · exact ⟨by decide, by decide⟩
theorem clamp_twice (f : Nat → Int) (i : Nat) : clampF (clampF f) i = clampF f i := by
  unfold clampF
  split
  · omega
  · split <;> omega
theorem fac_kfR (k0 : Nat → Int) : facN (kfR (clampF k0)) = numB (clampF k0) 16 := numB_congr fun i hi => by
  rw [← clamp_twice k0 i]
  unfold clampF kfR
  simp only [if_pos hi]
theorem tag_kfR (k0 f : Nat → Int) (n : Nat) : tagN (kfR (clampF k0)) f n = horn (numB (clampF k0) 16) f n ((n + 15) / 16) := by
  unfold tagN
  have h : numB (fun i => kfR (clampF k0) (16 + i)) 16 = 0 := (numB_congr (g := fun _ => 0) (fun i _ => by unfold kfR; rw [if_neg (by omega)])).trans (numB_zero 16)
  rw [fac_kfR, h, Nat.add_zero]
/-- how many there are -/
def cntF (P : Nat → Bool) : Nat → Nat
  | 0 => 0
  | n + 1 => cntF P n + if P n = true then 1 else 0
theorem cnt_filter (P : Nat → Bool) : ∀ n, cntF P n = ((List.range n).filter P).length
  | 0 => rfl
  | n + 1 => by
    rw [cntF, cnt_filter P n, List.range_succ, List.filter_append, List.length_append]
    congr 1
    cases e : P n <;> simp [e]
/-- what the j-th key tells -/
def difF (c f g : Nat → Int) (N M : Nat) : Nat → Int := subF (byt (tagN (kfR c) f N)) (byt (tagN (kfR c) g M))
theorem few_count {f g : Nat → Int} {N M : Nat} (hN : N ≤ 32) (hM : M ≤ 32) (hf : ∀ i, i < N → inB (f i)) (hg : ∀ i, i < M → inB (g i)) (hne : ¬ (N = M ∧ ∀ i, i < N → f i = g i))
    (k0 : Nat → Nat → Int) (n : Nat) (hk : ∀ j, j < n → ∀ i, i < 16 → inB (k0 j i)) (hd : ∀ i j, i < j → j < n → eqB (clampF (k0 i)) (clampF (k0 j)) 16 = false) (D : Nat → Int) :
    cntF (fun j => eqB (difF (clampF (k0 j)) f g N M) D 16) n ≤ 8 * max ((N + 15) / 16) ((M + 15) / 16) := by
  rw [cnt_filter, ← List.length_map (fun j => numB (clampF (k0 j)) 16)]
  by_cases hDn : (List.range n).filter (fun j => eqB (difF (clampF (k0 j)) f g N M) D 16) = []
  · rw [hDn]; simp
  have hD : numB D 16 < 340282366920938463463374607431768211456 := by
    obtain ⟨j, hj⟩ := List.exists_mem_of_ne_nil _ hDn
    have h1 := of_decide_eq_true (List.mem_filter.1 hj).2
    rw [← numB_congr h1]
    exact numB_lt _ 16 fun i _ => in_subF _ _ i
  have l1 := blkN_lt hf 0; have l2 := blkN_lt hf 1; have l3 := blkN_lt hg 0; have l4 := blkN_lt hg 1
  have p1 : cF2 f N < 680564733841876926926749214863536422912 := by unfold cF2; split <;> omega
  have p2 : cF1 f N < 680564733841876926926749214863536422912 := by unfold cF1; split; (first | omega | (split <;> omega)); (split <;> omega)
  have p3 : cF2 g M < 680564733841876926926749214863536422912 := by unfold cF2; split <;> omega
  have p4 : cF1 g M < 680564733841876926926749214863536422912 := by unfold cF1; split; (first | omega | (split <;> omega)); (split <;> omega)
  have hm1 : 0 < N ∨ 0 < M := by
    rcases Nat.eq_zero_or_pos N with a | a
    · rcases Nat.eq_zero_or_pos M with b | b
      · exact absurd ⟨by omega, fun i hi => by omega⟩ hne
      · exact .inr b
    · exact .inl a
  refine few_num ((cF2 f N : Int) - cF2 g M) ((cF1 f N : Int) - cF1 g M) (numB D 16) _ hD (by omega) (fun h => ?_) (fun h => hne (unlike hN hM hf hg (by omega) (by omega))) (by unfold PI; omega) (by unfold PI; omega)
    (fun r => horn r f N ((N + 15) / 16)) (fun r => horn r g M ((M + 15) / 16)) _ ?_ (fun r hr => ?_)
  · have : ¬ (N ≤ 16 ∧ M ≤ 16) := fun ⟨a, b⟩ => h (by unfold cF2; rw [if_pos a, if_pos b]; rfl)
    omega
  · rw [List.Nodup, List.pairwise_map]
    refine List.Pairwise.imp_of_mem (fun {i j} hi hj hlt => ?_) (List.Pairwise.filter _ (List.pairwise_lt_range (n := n)))
    intro e
    have hj' := List.mem_range.1 (List.mem_filter.1 hj).1
    have hi' := List.mem_range.1 (List.mem_filter.1 hi).1
    have h1 := hd i j hlt hj'
    have h2 : eqB (clampF (k0 i)) (clampF (k0 j)) 16 = true := eqB_congr fun x hx => by
      rw [← byt_numB (clampF (k0 i)) 16 x hx fun y hy => in_clampF (hk i hi' y hy), ← byt_numB (clampF (k0 j)) 16 x hx fun y hy => in_clampF (hk j hj' y hy), e]
    rw [h1] at h2
    exact Bool.noConfusion h2
  · obtain ⟨j, hj, rfl⟩ := List.mem_map.1 hr
    have hj' := List.mem_range.1 (List.mem_filter.1 hj).1
    have h1 := of_decide_eq_true (List.mem_filter.1 hj).2
    have h2 : numB (difF (clampF (k0 j)) f g N M) 16 = numB D 16 := numB_congr h1
    unfold difF at h2
    rw [sub_lessN _ _ (fun i _ => in_byt _ i) (fun i _ => in_byt _ i), numB_byt, numB_byt, tag_kfR, tag_kfR, show (256 : Nat) ^ 16 = 340282366920938463463374607431768211456 from rfl] at h2
    have hb := facN_lt (kf := k0 j) (hk j hj')
    unfold facN at hb
    generalize numB (clampF (k0 j)) 16 = r at *
    have a1 := horn_poly r f N hN
    have a2 := horn_poly r g M hM
    have b1 := horn_lt r f N ((N + 15) / 16)
    have b2 := horn_lt r g M ((M + 15) / 16)
    generalize horn r f N ((N + 15) / 16) = X at *
    generalize horn r g M ((M + 15) / 16) = Y at *
    generalize numB D 16 = E at *
    clear p1 p2 p3 p4 l1 l2 l3 l4 h1 hd hr hj hne
    unfold PP at b1 b2
    refine ⟨by unfold PI; omega, by unfold PI; omega, by unfold PI; omega, ?_, ?_⟩
    · generalize (cF2 f N : Int) = A2 at *
      generalize (cF1 f N : Int) = A1 at *
      generalize (cF2 g M : Int) = B2 at *
      generalize (cF1 g M : Int) = B1 at *
      have e : (X : Int) - Y - ((A2 - B2) * ((r : Int) * r) + (A1 - B1) * r) = ((X : Int) - (A2 * ((r : Int) * r) + A1 * r)) - ((Y : Int) - (B2 * ((r : Int) * r) + B1 * r)) := by grind
      rw [e]
      generalize (X : Int) - (A2 * ((r : Int) * r) + A1 * r) = u at *
      generalize (Y : Int) - (B2 * ((r : Int) * r) + B1 * r) = v at *
      unfold PI at *
      omega
    · unfold lessN at h2
      omega
end Go.Proofs.Ytbofihejegbfhaa

/- NZj -/
namespace Go.Proofs.Ytbofihejegbfhaa
set_option linter.unusedVariables false
set_option maxRecDepth 2000
set_option linter.unusedSimpArgs false
open Go.RowKit
theorem row_but {w w' : World} {base s n K : Nat} {e : TypeId} {v : Value} {xs : List Value} (h : w.ownsRow base e s v n xs) (hb : But K w w') (hK : v.ownBlock ≠ some K) : w'.ownsRow base e s v n xs := by
  refine ⟨h.1, ?_⟩
  rcases h.2 with h0 | ⟨g, cap, cur, rfl, hg, hh, hr⟩
  · exact .inl h0
  · exact .inr ⟨g, cap, cur, rfl, hg, (hb.heap g (Array.getElem?_eq_some_iff.1 hh).1 (fun e => hK (by simp [Value.ownBlock, e]))).trans hh, hr⟩
/-- an append to an own row: in place, or into a new block -/
theorem append_fresh {w : World} {base L ty : Nat} {v : Value} {xs : List Value} (h : w.ownsRow base 5 1 v L xs) (q : Option Addr) (m c : Nat) (f : Nat → Int) (hq : Byt w q m f) (hL : L + m ≤ 65536) (hb : base ≤ w.heap.size) :
    ∃ v' w', (Builtin.append_ #[26, 26] ty #[v, .slice q m c]).run Try.prog w = .ok v' w' ∧ w'.ownsRow base 5 1 v' (L + m) (xs ++ nums .u8 f m) ∧ w.grownBy w' v.ownBlock ∧ (v'.ownBlock = v.ownBlock ∨ ∀ b, v'.ownBlock = some b → w.heap.size ≤ b) := by
  obtain ⟨i0, hi, hz0, hz1, hz2⟩ := infoB_parts
  rcases hq with h0 | ⟨b, off, rfl, hs⟩
  · subst h0
    obtain ⟨p, c1, rfl, h1⟩ := row_form h
    refine ⟨_, w, run_append_none p h1 Try.underlying26 hi q c, ?_, World.grownBy.refl w _, .inl rfl⟩
    rw [Nat.add_zero, show nums .u8 f 0 = [] from rfl, List.append_nil]
    exact h
  · have nw : ∀ j u, (nums .u8 f m)[j]? = some u → w.cell? ((⟨b, off, none⟩ : Addr).add j) = some u := fun j u hj => by rw [Addr.add_mid]; exact hs.cell j u hj
    rcases h.2 with ⟨rfl, rfl⟩ | ⟨G, cap, cur, rfl, hG, hh, hc, hm, hr⟩
    · obtain rfl : xs = [] := List.eq_nil_of_length_eq_zero (by simpa using h.1)
      obtain ⟨v', w', hrun, r1, r2, _⟩ := run_append_own (P := Try.prog) w w.heap.size 26 ty 5 i0 (.int .u8 0) 1 1 Try.underlying26 hi hz0 hz1 hz2 rfl (by decide) (.slice none 0 0) 0 [] (World.ownsRow_nil _ _ _ _) ⟨b, off, none⟩ m c _ (by rw [nums_length, Nat.mul_one]) nw (nums_one _ _ _) (by unfold maxLen; omega) (by omega) (Nat.le_refl _)
      exact ⟨v', w', hrun, r1.mono hb, r2, .inr (row_ge r1)⟩
    · by_cases hroom : L + m ≤ cap
      · obtain ⟨w', hrun, r1, r2⟩ := run_append_fits (P := Try.prog) w base 26 ty 5 i0 1 Try.underlying26 hi hz1 G L cap xs h ⟨b, off, none⟩ m c _ (by rw [nums_length, Nat.mul_one]) nw (nums_one _ _ _) hroom
        exact ⟨_, w', hrun, r1, r2, .inl rfl⟩
      · obtain ⟨v', w', hrun, r1, r2⟩ := run_append_arg_grows (P := Try.prog) w 26 ty 5 i0 (.int .u8 0) 1 1 Try.underlying26 hi hz0 hz1 hz2 rfl (by decide) ⟨G, 0, none⟩ L cap xs (by rw [h.1]) (h.cells (g := G) rfl) ⟨b, off, none⟩ m c _ (by rw [nums_length, Nat.mul_one]) nw (by omega) (by unfold maxLen; omega) (by omega)
        exact ⟨v', w', hrun, r1.mono hb, ⟨r2.os, r2.tape, r2.output, r2.size, fun k hk _ => r2.block k hk (by simp)⟩, .inr (row_ge r1)⟩
theorem wpList_run_append {P : Program} {w w' : World} {ops : Array Oper} {rest : List Oper} {o : Oper} {a : Act} {Q : Exit → Act → World → Prop} {v vx v' : Value} (hgd : o.guard = none) (s x : Operand) (t : TypeId)
    (ho : o.op = .call { callee := .builtin .append, args := #[s, x], argTypes := #[t, t] }) (hs : a.eval s = v) (hx : a.eval x = vx) (hrun : (Builtin.append_ #[t, t] o.type #[v, vx]).run P w = .ok v' w') (h : wpList P ops Q rest (a.put o.dst v') w') : wpList P ops Q (o :: rest) a w :=
  wpList_plain hgd fun _ hK => by
    unfold Oper.wp execOp
    simp only [ho, resolve, invoke, builtin, Sem.run_bind, Sem.run_pure, Result.andThen_ok, List.map_toArray, List.map_cons, List.map_nil, hs, hx, hrun]
    exact hK _ _ h
theorem wpList_append_f {w : World} {ops : Array Oper} {rest : List Oper} {o : Oper} {a : Act} {Q : Exit → Act → World → Prop} (hgd : o.guard = none) (s x : Operand)
    (ho : o.op = .call { callee := .builtin .append, args := #[s, x], argTypes := #[26, 26] }) (base : Nat) (v : Value) (L : Nat) (xs : List Value) (hs : a.eval s = v) (hown : w.ownsRow base 5 1 v L xs)
    (q : Option Addr) (n c : Nat) (f : Nat → Int) (hx : a.eval x = .slice q n c) (hby : Byt w q n f) (hL : L + n ≤ 65536) (hbase : base ≤ w.heap.size)
    (h : ∀ v' w', w'.ownsRow base 5 1 v' (L + n) (xs ++ nums .u8 f n) → w.grownBy w' v.ownBlock → (v'.ownBlock = v.ownBlock ∨ ∀ b, v'.ownBlock = some b → w.heap.size ≤ b) → wpList Try.prog ops Q rest (a.put o.dst v') w') : wpList Try.prog ops Q (o :: rest) a w := by
  obtain ⟨v', w', hrun, h1, h2, h3⟩ := append_fresh (ty := o.type) hown q n c f hby hL hbase
  exact wpList_run_append hgd s x 26 ho hs hx hrun (h v' w' h1 h2 h3)
/-- the data of a Mac: f's first n bytes, not in K, and not in the row's block -/
def MD (w : World) (p : Option Addr) (n c : Nat) (g : Nat → Int) (K : Nat) (row : Option Nat) : Prop := n ≤ c ∧ c ≤ 9223372036854775807 ∧ (p = none → n = 0) ∧ BytN w p n g K ∧ ∀ a, p = some a → a.block < w.heap.size ∧ row ≠ some a.block
theorem MD.later {w w' : World} {p : Option Addr} {n c K : Nat} {g : Nat → Int} {row : Option Nat} (h : MD w p n c g K row) (hb : Below w.heap.size w w') (hK : K < w.heap.size) : MD w' p n c g K row :=
  ⟨h.1, h.2.1, h.2.2.1, h.2.2.2.1.but (But.of hb hK), fun a ha => ⟨Nat.lt_of_lt_of_le (h.2.2.2.2 a ha).1 hb.size, (h.2.2.2.2 a ha).2⟩⟩
theorem DatK.md {w wb : World} {v : Value} {n base K : Nat} {g : Nat → Int} {p0 : Option Addr} {row : Option Nat} (h : DatK w v n g base K p0) (hn : n ≤ 65536) (hp : ∀ a, p0 = some a → a.block < wb.heap.size ∧ row ≠ some a.block) (hw : wb.heap.size ≤ w.heap.size) (hr : ∀ b, row = some b → b < base) (hK : K < base) : ∃ p c, v = .slice p n c ∧ MD w p n c g K row := by
  rcases h with ⟨p, h1, h2, h3, h4⟩ | h
  · exact ⟨p, n, h1, Nat.le_refl _, by omega, h2, h3, fun a ha => ⟨Nat.lt_of_lt_of_le (hp a (h4.symm.trans ha)).1 hw, (hp a (h4.symm.trans ha)).2⟩⟩
  · rcases h.2 with ⟨rfl, rfl⟩ | ⟨G, cap, cur, rfl, hG, hh, hc, hm, _⟩
    · exact ⟨none, 0, rfl, Nat.le_refl _, by omega, fun _ => rfl, .inl rfl, fun a ha => nomatch ha⟩
    · refine ⟨_, cap, rfl, hc, hm, (fun e => nomatch e), .inr ⟨G, 0, rfl, by omega, (row_has' h).1⟩, fun a ha => ?_⟩
      cases ha
      exact ⟨(row_has' h).1.lt, fun e => by have := hr G e; omega⟩
theorem MD.app {w w' : World} {p : Option Addr} {n c K : Nat} {g : Nat → Int} {row row' : Option Nat} (h : MD w p n c g K row) (hg : w.grownBy w' row) (hf : row' = row ∨ ∀ b, row' = some b → w.heap.size ≤ b) : MD w' p n c g K row' := by
  refine ⟨h.1, h.2.1, h.2.2.1, ?_, fun a ha => ⟨Nat.lt_of_lt_of_le (h.2.2.2.2 a ha).1 hg.size, ?_⟩⟩
  · rcases h.2.2.2.1 with h0 | ⟨b, off, e1, e2, e3⟩
    · exact .inl h0
    · exact .inr ⟨b, off, e1, e2, e3.grown hg (h.2.2.2.2 _ e1).2⟩
  · rcases hf with rfl | hf
    · exact (h.2.2.2.2 a ha).2
    · intro e
      have := hf _ e
      have := (h.2.2.2.2 a ha).1
      omega
/-- a list of one part that goes on where the data end -/
theorem one_partN {w : World} {L K : Nat} {q : Option Addr} {m c a b : Nat} {f g : Nat → Int} (h : Own L [.slice q m c] w) (hb : BytN w q m f K) (hKL : L ≠ K) (hab : b = a + m) (hmc : m ≤ c) (hc : c ≤ 9223372036854775807) (hg : ∀ j, j < m → g (a + j) = f j) : PartsN w (some ⟨L, 0, none⟩) 1 g (fun k => if k = 0 then a else b) K := fun k hk => by
  obtain rfl : k = 0 := by omega
  refine ⟨L, 0, q, m, c, rfl, hKL, h.lt, h.at 0 _ rfl, hmc, hc, hab, ?_⟩
  rcases hb with h0 | ⟨b, off, e1, e0, e2⟩
  · exact .inl h0
  · refine .inr ⟨b, off, e1, e0, ?_⟩
    rw [nums_congr (g := f) .u8 (fun j hj => by show g (a + j) = f j; exact hg j hj)]
    exact e2
theorem row_cap_ {w : World} {base size n c : Nat} {e : TypeId} {p : Option Addr} {xs : List Value} (h : w.ownsRow base e size (.slice p n c) n xs) : n ≤ c ∧ c ≤ 9223372036854775807 := by
  rcases h.2 with ⟨h0, _⟩ | ⟨g, cap, cur, h0, _, _, h1, h2, _⟩
  · cases h0; decide
  · cases h0; unfold maxLen at h2; omega
theorem BytN.later {w w' : World} {q : Option Addr} {n K : Nat} {f : Nat → Int} (h : BytN w q n f K) (hb : Below w.heap.size w w') : BytN w' q n f K := by
  rcases h with h | ⟨b, off, h1, h2, h3⟩
  · exact .inl h
  · exact .inr ⟨b, off, h1, h2, h3.later hb⟩
end Go.Proofs.Ytbofihejegbfhaa

/- NY -/
namespace Go.Proofs.Ytbofihejegbfhaa
set_option linter.unusedVariables false
set_option maxRecDepth 2000
set_option linter.unusedSimpArgs false
open Go.RowKit
attribute [local go_sem] nums_length

/-- a list of one part -/
theorem one_part {w : World} {L : Nat} {q : Option Addr} {m c : Nat} {f : Nat → Int} (h : Own L [.slice q m c] w) (hb : Byt w q m f) (hmc : m ≤ c) (hc : c ≤ 9223372036854775807) : Parts w (some ⟨L, 0, none⟩) 1 f (fun k => k * m) := fun k hk => by
  obtain rfl : k = 0 := by omega
  refine ⟨L, 0, q, m, c, rfl, h.lt, h.at 0 _ rfl, hmc, hc, (show (0 + 1) * m = 0 * m + m by omega), ?_⟩
  rcases hb with h0 | ⟨b, off, e1, e2⟩
  · exact .inl h0
  · refine .inr ⟨b, off, e1, ?_⟩
    rw [nums_congr (g := f) .u8 (fun j _ => by show f (0 * m + j) = f j; rw [Nat.zero_mul, Nat.zero_add])]
    exact e2
theorem Tag_one (kf f : Nat → Int) (L : Nat) (q : Option Addr) (m c : Nat) (hk : ∀ i, i < 32 → inB (kf i)) (hf : ∀ i, i < m → inB (f i)) (hm : m ≤ 65536) (hmc : m ≤ c) (hc : c ≤ 9223372036854775807) (w : World) (h : Own L [.slice q m c] w) (hb : Byt w q m f) :
    Calls Try.prog 15 #[(.agg (nums .u8 kf 32).toArray), .slice (some ⟨L, 0, none⟩) 1 1] w fun e w' => e = .returned (.agg (nums .u8 (byt (tagN kf f m)) 16).toArray) ∧ Below w.heap.size w w' := by
  have := Tag_any kf f (some ⟨L, 0, none⟩) 1 1 (fun k => k * m) hk (fun i hi => hf i (by omega)) (Nat.zero_mul m) (fun k hk => by have : k * m ≤ 1 * m := Nat.mul_le_mul_right m hk; omega) (Nat.le_refl _) (by decide) w (one_part h hb hmc hc)
  rwa [Nat.one_mul] at this
end Go.Proofs.Ytbofihejegbfhaa

/- NZa -/
namespace Go.Proofs.Ytbofihejegbfhaa
set_option linter.unusedVariables false
set_option maxRecDepth 2000
set_option linter.unusedSimpArgs false
open Go.RowKit
theorem ByG.same {w w' : World} {q : Option Addr} {n B : Nat} {f : Nat → Int} (h : ByG w q n f B) (hb : Below w.heap.size w w') : ByG w' q n f B := h.later hb
/-- one row's block -/
theorem ByG.blk {w : World} {p : Option Addr} {m N B k : Nat} {f : Nat → Int} (h : ByG w p (m * 17) (rowF f N) B) (hk : k < m) : ∃ G, p = some ⟨G, 0, none⟩ ∧ Has G (k * 17) (nums .u8 (blkB f N k) 17) w := by
  obtain ⟨G, h1, _, h3⟩ := h.resolve_left (by omega)
  refine ⟨G, h1, ?_⟩
  have h := has_drop h3 (show k * 17 + 17 ≤ m * 17 by have := Nat.mul_le_mul_right 17 (show k + 1 ≤ m from hk); omega)
  rwa [Nat.zero_add, nums_congr (g := blkB f N k) .u8 (fun j hj => rowF_at f N k j hj)] at h
/-- a load of a whole array, in a region that only reads -/
theorem quiet_load {P : Program} {w : World} {ty : TypeId} {b off : Nat} (cs : List Value) (d : TypeDesc) (hc : w.rangeAt b off cs) (hu : P.underlying ty = some d) (hd : d.isRow = true) (hi : (P.info? ty).map (·.size) = some cs.length) :
    (loadVar ty ⟨b, off, none⟩).run P w = .ok (.agg cs.toArray) w := run_loadVar_mid (P := P) w b off ty cs d hc hu hd hi
attribute [local go_sem] nums_length

end Go.Proofs.Ytbofihejegbfhaa

/- NZm -/
namespace Go.Proofs.Ytbofihejegbfhaa
set_option linter.unusedVariables false
set_option maxRecDepth 2000
set_option linter.unusedSimpArgs false
open Go.RowKit
theorem str_inj {f g : Nat → Int} {n : Nat} (hf : ∀ i, i < n → inB (f i)) (hg : ∀ i, i < n → inB (g i)) (h : strOfNums ((List.range n).map f) = strOfNums ((List.range n).map g)) : ∀ i, i < n → f i = g i := fun i hi => by
  have h1 := congrArg (fun s : ByteArray => s.data.toList) h
  simp only [strOfNums_data, List.map_map] at h1
  have h2 := congrArg (fun l : List UInt8 => l[i]?) h1
  simp only [List.getElem?_map, List.getElem?_range hi, Option.map_some, Option.some.injEq, Function.comp] at h2
  have h3 := congrArg UInt8.toNat h2
  have a := hf i hi; have b := hg i hi
  unfold inB at a b
  simp only [UInt8.toNat_ofNat'] at h3
  omega
theorem Equal2_any (q1 q2 : Option Addr) (n c1 c2 : Nat) (f g : Nat → Int) (hf : ∀ i, i < n → inB (f i)) (hg : ∀ i, i < n → inB (g i)) (w : World) (h1 : Byt w q1 n f) (h2 : Byt w q2 n g) : Calls Try.prog 11 #[.slice q1 n c1, .slice q2 n c2] w fun e w' => e = .returned (.bool (eqB f g n)) ∧ Below w.heap.size w w' := by
  cases hz : eqB f g n with
  | true => exact Equal_any q1 q2 n c1 c2 f w h1 (byt_congr h2 fun j hj => (of_decide_eq_true hz j hj).symm)
  | false =>
    have e1 := conv_any q1 n c1 f w h1
    have e2 := conv_any q2 n c2 g w h2
    have ne : ¬ strOfNums ((List.range n).map f) = strOfNums ((List.range n).map g) := fun h => by
      have := eqB_congr (str_inj hf hg h)
      rw [hz] at this
      cases this
    have ne2 : ¬ (strOfNums ((List.range n).map f)).toList = (strOfNums ((List.range n).map g)).toList := fun h => ne (by
      rw [Lib.toList_data, Lib.toList_data] at h
      exact ByteArray.ext (Array.toList_inj.mp h))
    generalize strOfNums ((List.range n).map f) = S at *
    generalize strOfNums ((List.range n).map g) = S2 at *
    clear h1 h2 hz hf hg
    go_enter Try.func11, Try.ntmps11
    go_wp2_with (fail)
    go_ret
    exact ⟨by first | rfl | simp [ne, ne2], Below.refl _ _⟩
theorem Equal3_any (q1 q2 : Option Addr) (n m c1 c2 : Nat) (f g : Nat → Int) (hf : ∀ i, i < n → inB (f i)) (hg : ∀ i, i < m → inB (g i)) (w : World) (h1 : Byt w q1 n f) (h2 : Byt w q2 m g) : Calls Try.prog 11 #[.slice q1 n c1, .slice q2 m c2] w fun e w' => e = .returned (.bool (decide (n = m) && eqB f g n)) ∧ Below w.heap.size w w' := by
  by_cases hnm : n = m
  · subst hnm
    rw [decide_eq_true rfl, Bool.true_and]
    exact Equal2_any q1 q2 n c1 c2 f g hf hg w h1 h2
  · rw [decide_eq_false hnm, Bool.false_and]
    have e1 := conv_any q1 n c1 f w h1
    have e2 := conv_any q2 m c2 g w h2
    have ne : ¬ strOfNums ((List.range n).map f) = strOfNums ((List.range m).map g) := fun h => by
      have h1 := congrArg (fun s : ByteArray => s.data.toList.length) h
      simp only [strOfNums_data, List.length_map, List.length_range] at h1
      exact hnm h1
    have ne2 : ¬ (strOfNums ((List.range n).map f)).toList = (strOfNums ((List.range m).map g)).toList := fun h => ne (by
      rw [Lib.toList_data, Lib.toList_data] at h
      exact ByteArray.ext (Array.toList_inj.mp h))
    generalize strOfNums ((List.range n).map f) = S at *
    generalize strOfNums ((List.range m).map g) = S2 at *
    clear h1 h2 hf hg
    go_enter Try.func11, Try.ntmps11
    go_wp2_with (fail)
    go_ret
    exact ⟨by first | rfl | simp [ne, ne2], Below.refl _ _⟩
/-- whether there is one -/
def exB (P : Nat → Bool) : Nat → Bool
  | 0 => false
  | n + 1 => exB P n || P n
theorem exB_false {P : Nat → Bool} : ∀ {n : Nat}, exB P n = false → ∀ j, j < n → P j = false
  | n + 1, h, j, hj => by
    rw [exB, Bool.or_eq_false_iff] at h
    by_cases e : j = n
    · subst e; exact h.2
    · exact exB_false h.1 j (by omega)
theorem cnt_le (P : Nat → Bool) : ∀ n, cntF P n ≤ n
  | 0 => Nat.le_refl _
  | n + 1 => by
    have := cnt_le P n
    rw [cntF]
    split <;> omega
/-- arrays of 16 bytes, one behind the other -/
def rowG (R : Nat → Nat → Int) (j : Nat) : Int := R (j / 16) (j % 16)
theorem rowG_at (R : Nat → Nat → Int) (k r : Nat) (h : r < 16) : rowG R (k * 16 + r) = R k r := by
  unfold rowG
  rw [show (k * 16 + r) / 16 = k by omega, show (k * 16 + r) % 16 = r by omega]
theorem rowG_succ (R : Nat → Nat → Int) (n : Nat) : nums .u8 (rowG R) (n * 16) ++ nums .u8 (R n) 16 = nums .u8 (rowG R) ((n + 1) * 16) := by
  rw [show (n + 1) * 16 = n * 16 + 16 by omega]
  exact nums_append .u8 (rowG R) (R n) (n * 16) 16 fun j hj => rowG_at R n j hj
theorem rowG_congr {R R' : Nat → Nat → Int} {n : Nat} (h : ∀ j, j < n → R j = R' j) : nums .u8 (rowG R) (n * 16) = nums .u8 (rowG R') (n * 16) := nums_congr .u8 fun j hj => by
  unfold rowG
  rw [h _ (by omega)]
theorem elem16 {w : World} {base n c k : Nat} {p : Option Addr} {R : Nat → Nat → Int} {e : TypeId} (h : w.ownsRow base e 16 (.slice p n c) n (nums .u8 (rowG R) (n * 16))) (hk : k < n) : ∃ G, p = some ⟨G, 0, none⟩ ∧ Has G (k * 16) (nums .u8 (R k) 16) w := by
  obtain ⟨G, h1, _, h3⟩ := (row_byg h).resolve_left (by omega)
  refine ⟨G, h1, ?_⟩
  have h := has_drop h3 (show k * 16 + 16 ≤ n * 16 by have := Nat.mul_le_mul_right 16 (show k + 1 ≤ n from hk); omega)
  rwa [Nat.zero_add, nums_congr (g := R k) .u8 (fun j hj => rowG_at R k j hj)] at h
theorem infoA : (Try.prog.info? 29).map (fun i => (i.zero, i.size, i.bytes)) = some (some (.agg (nums .u8 (fun _ => 0) 16).toArray), 16, 16) := by kernel_rfl
theorem infoA_parts : ∃ i, Try.prog.info? 29 = some i ∧ i.zero = some (.agg (nums .u8 (fun _ => 0) 16).toArray) ∧ i.size = 16 ∧ i.bytes = 16 := by
  obtain ⟨i, hi, h⟩ := Option.map_eq_some_iff.1 infoA
  simp only [Prod.mk.injEq] at h
  exact ⟨i, hi, h.1, h.2.1, h.2.2⟩
theorem fill16 (f : Nat → Int) : Instr.fill (fun i => some (i * 16, 16)) ((Array.range (1 * 16)).map ((Value.agg (nums .u8 (fun _ => 0) 16).toArray).cells[· % (Value.agg (nums .u8 (fun _ => 0) 16).toArray).cells.size]!)) [(0, .agg (nums .u8 f 16).toArray)] = some (nums .u8 f 16).toArray := by kernel_rfl
/-- a slice of one array of 16 bytes -/
theorem wpList_build16 {ops : Array Oper} {rest : List Oper} {o : Oper} {a : Act} {w : World} {Q : Exit → Act → World → Prop} (hg : o.guard = none) (x : Operand) (ho : o.op = .buildSlice 38 1 #[(0, x)]) (f : Nat → Int) (hx : a.eval x = .agg (nums .u8 f 16).toArray)
    (h : wpList Try.prog ops Q rest (a.put o.dst (.slice (some ⟨w.heap.size, 0, none⟩) 1 1)) (w.alloc (.cells (nums .u8 f 16).toArray 29))) : wpList Try.prog ops Q (o :: rest) a w := by
  obtain ⟨i0, hi, hz0, hz1, _⟩ := infoA_parts
  refine wpList_buildSlice hg 38 29 1 _ ho _ i0 _ Try.underlying38 hi hz0 (by rw [hz1]; decide) (by rw [hz1]; decide) ?_ h
  rw [hz1]
  simp only [List.map_toArray, List.map_cons, List.map_nil, hx]
  exact fill16 f
/-- an append of one array to an own row: in place, or into a new block -/
theorem append_fresh16 {w : World} {base L ty b off : Nat} {v : Value} {xs : List Value} (h : w.ownsRow base 29 16 v L xs) (f : Nat → Int) (hs : Has b off (nums .u8 f 16) w) (hL : L + 1 ≤ 65536) (hb : base ≤ w.heap.size) :
    ∃ v' w', (Builtin.append_ #[38, 38] ty #[v, .slice (some ⟨b, off, none⟩) 1 1]).run Try.prog w = .ok v' w' ∧ w'.ownsRow base 29 16 v' (L + 1) (xs ++ nums .u8 f 16) ∧ w.grownBy w' v.ownBlock ∧ (v'.ownBlock = v.ownBlock ∨ ∀ b, v'.ownBlock = some b → w.heap.size ≤ b) := by
  obtain ⟨i0, hi, hz0, hz1, hz2⟩ := infoA_parts
  have nw : ∀ j u, (nums .u8 f 16)[j]? = some u → w.cell? ((⟨b, off, none⟩ : Addr).add j) = some u := fun j u hj => by rw [Addr.add_mid]; exact hs.cell j u hj
  have zs : (Value.agg (nums .u8 (fun _ => 0) 16).toArray).cells.size = 16 := by kernel_rfl
  rcases h.2 with ⟨rfl, rfl⟩ | ⟨G, cap, cur, rfl, hG, hh, hc, hm, hr⟩
  · obtain rfl : xs = [] := List.eq_nil_of_length_eq_zero (by simpa using h.1)
    obtain ⟨v', w', hrun, r1, r2, _⟩ := run_append_own (P := Try.prog) w w.heap.size 38 ty 29 i0 _ 16 16 Try.underlying38 hi hz0 hz1 hz2 zs (by decide) (.slice none 0 0) 0 [] (World.ownsRow_nil _ _ _ _) ⟨b, off, none⟩ 1 1 _ (by rw [nums_length]) nw (nums_one _ _ _) (by unfold maxLen; omega) (by omega) (Nat.le_refl _)
    exact ⟨v', w', hrun, r1.mono hb, r2, .inr (row_ge r1)⟩
  · by_cases hroom : L + 1 ≤ cap
    · obtain ⟨w', hrun, r1, r2⟩ := run_append_fits (P := Try.prog) w base 38 ty 29 i0 16 Try.underlying38 hi hz1 G L cap xs h ⟨b, off, none⟩ 1 1 _ (by rw [nums_length]) nw (nums_one _ _ _) hroom
      exact ⟨_, w', hrun, r1, r2, .inl rfl⟩
    · obtain ⟨v', w', hrun, r1, r2⟩ := run_append_arg_grows (P := Try.prog) w 38 ty 29 i0 _ 16 16 Try.underlying38 hi hz0 hz1 hz2 zs (by decide) ⟨G, 0, none⟩ L cap xs (by rw [h.1]) (h.cells (g := G) rfl) ⟨b, off, none⟩ 1 1 _ (by rw [nums_length]) nw (by omega) (by unfold maxLen; omega) (by omega)
      exact ⟨v', w', hrun, r1.mono hb, ⟨r2.os, r2.tape, r2.output, r2.size, fun k hk _ => r2.block k hk (by simp)⟩, .inr (row_ge r1)⟩
/-- two rows that lie apart -/
structure Two (w : World) (base : Nat) (vs : Value) (ns : Nat) (S : List Value) (vf : Value) (nf : Nat) (F : List Value) : Prop where
  s : w.ownsRow base 29 16 vs ns S
  f : w.ownsRow base 29 16 vf nf F
  ne : ∀ k, vs.ownBlock = some k → vf.ownBlock ≠ some k
theorem Two.later {w w' : World} {base ns nf : Nat} {vs vf : Value} {S F : List Value} (h : Two w base vs ns S vf nf F) (hb : Below w.heap.size w w') : Two w' base vs ns S vf nf F := ⟨row_later h.s hb, row_later h.f hb, h.ne⟩
theorem Two.far {w : World} {base ns nf X o : Nat} {vs vf : Value} {S F ls : List Value} (h : Two w base vs ns S vf nf F) (h1 : vs.ownBlock ≠ some X) (h2 : vf.ownBlock ≠ some X) : Two (w.setCells X o ls) base vs ns S vf nf F := ⟨row_far h.s h1 o ls, row_far h.f h2 o ls, h.ne⟩
theorem Two.app_s {w : World} {base ns nf ty b off : Nat} {vs vf : Value} {S F : List Value} (h : Two w base vs ns S vf nf F) (f : Nat → Int) (hs : Has b off (nums .u8 f 16) w) (hL : ns + 1 ≤ 65536) (hb : base ≤ w.heap.size) :
    ∃ v' w', (Builtin.append_ #[38, 38] ty #[vs, .slice (some ⟨b, off, none⟩) 1 1]).run Try.prog w = .ok v' w' ∧ Two w' base v' (ns + 1) (S ++ nums .u8 f 16) vf nf F ∧ w.grownBy w' vs.ownBlock := by
  obtain ⟨v', w', h1, h2, h3, h4⟩ := append_fresh16 (ty := ty) h.s f hs hL hb
  refine ⟨v', w', h1, ⟨h2, h.f.kept h3 ?_, fun k hk => ?_⟩, h3⟩
  · cases e : vf.ownBlock with
    | none => exact .inl rfl
    | some k => exact .inr (fun e2 => h.ne k e2.symm e)
  · rcases h4 with h4 | h4
    · exact h.ne k (h4 ▸ hk)
    · intro e
      have := h4 k hk
      have := (h.f.lt k e).2
      omega
theorem Two.app_f {w : World} {base ns nf ty b off : Nat} {vs vf : Value} {S F : List Value} (h : Two w base vs ns S vf nf F) (f : Nat → Int) (hs : Has b off (nums .u8 f 16) w) (hL : nf + 1 ≤ 65536) (hb : base ≤ w.heap.size) :
    ∃ v' w', (Builtin.append_ #[38, 38] ty #[vf, .slice (some ⟨b, off, none⟩) 1 1]).run Try.prog w = .ok v' w' ∧ Two w' base vs ns S v' (nf + 1) (F ++ nums .u8 f 16) ∧ w.grownBy w' vf.ownBlock := by
  obtain ⟨v', w', h1, h2, h3, h4⟩ := append_fresh16 (ty := ty) h.f f hs hL hb
  refine ⟨v', w', h1, ⟨h.s.kept h3 ?_, h2, fun k hk => ?_⟩, h3⟩
  · cases e : vs.ownBlock with
    | none => exact .inl rfl
    | some k => exact .inr (fun e2 => h.ne k e e2.symm)
  · rcases h4 with h4 | h4
    · rw [h4]; exact h.ne k hk
    · intro e
      have := h4 k e
      have := (h.s.lt k hk).2
      omega

theorem wpList_app_s {w : World} {ops : Array Oper} {rest : List Oper} {o : Oper} {a : Act} {Q : Exit → Act → World → Prop} (hgd : o.guard = none) (s x : Operand)
    (ho : o.op = .call { callee := .builtin .append, args := #[s, x], argTypes := #[38, 38] }) {base ns nf b off : Nat} {vs vf : Value} {S F : List Value} (h : Two w base vs ns S vf nf F) (hs : a.eval s = vs) (f : Nat → Int) (hx : a.eval x = .slice (some ⟨b, off, none⟩) 1 1) (hh : Has b off (nums .u8 f 16) w) (hL : ns + 1 ≤ 65536) (hb : base ≤ w.heap.size)
    (k : ∀ v' w', Two w' base v' (ns + 1) (S ++ nums .u8 f 16) vf nf F → w.grownBy w' vs.ownBlock → wpList Try.prog ops Q rest (a.put o.dst v') w') : wpList Try.prog ops Q (o :: rest) a w := by
  obtain ⟨v', w', h1, h2, h3⟩ := h.app_s (ty := o.type) f hh hL hb
  exact wpList_run_append hgd s x 38 ho hs hx h1 (k v' w' h2 h3)
theorem step_build16 {ops : Array Oper} {o : Oper} {a : Act} {w : World} {K : Act → World → Prop} {Q : Exit → Act → World → Prop} {E : Prop} (hg : o.guard = none) (x : Operand) (ho : o.op = .buildSlice 38 1 #[(0, x)]) (f : Nat → Int) (hx : a.eval x = .agg (nums .u8 f 16).toArray)
    (h : K (a.put o.dst (.slice (some ⟨w.heap.size, 0, none⟩) 1 1)) (w.alloc (.cells (nums .u8 f 16).toArray 29))) : if Region.wanted o (yielded ops a.tmps) = true then Oper.wp Try.prog o a w K Q else E := by
  rw [if_pos (by simp [Region.wanted, hg])]
  obtain ⟨i0, hi, hz0, hz1, _⟩ := infoA_parts
  refine wp_buildSlice 38 29 1 _ ho _ i0 _ Try.underlying38 hi hz0 (by rw [hz1]; decide) (by rw [hz1]; decide) ?_ h
  rw [hz1]
  simp only [List.map_toArray, List.map_cons, List.map_nil, hx]
  exact fill16 f
theorem st16b (w : World) (f : Nat → Int) (c : Array Value) (hc : c.size = 16) : (storeCells ⟨w.heap.size, 0, none⟩ (nums .u8 f 16)).run Try.prog (w.alloc (.cells c 29)) = .ok () (w.alloc (.cells (nums .u8 f 16).toArray 29)) :=
  run_storeCells_new (P := Try.prog) w 29 c (nums .u8 f 16).toArray (by rw [nums_size]; kernel_rfl) (by rw [nums_size, hc]) (nums_all _ _ _)
/-- a whole array is loaded by an operation that has a guard which holds -/
theorem wpList_load_if {P : Program} {ops : Array Oper} {rest : List Oper} {op : Oper} {a : Act} {w : World} {Q : Exit → Act → World → Prop} (hw : Region.wanted op (yielded ops a.tmps) = true) (ty : TypeId) (x : Operand) (ho : op.op = .load ty x)
    (b o : Nat) (hx : a.eval x = .pointer (some ⟨b, o, none⟩)) (cs : List Value) (d : TypeDesc) (hc : w.rangeAt b o cs)
    (hu : P.underlying ty = some d) (hd : d.isRow = true) (hi : (P.info? ty).map (·.size) = some cs.length)
    (h : wpList P ops Q rest (a.put op.dst (.agg cs.toArray)) w) : wpList P ops Q (op :: rest) a w := by
  unfold wpList
  rw [if_pos hw]
  exact .inl (wp_load_mid ty x ho b o hx cs d hc hu hd hi h)
theorem over_kfR (c : Nat → Int) : over (nums .u8 (fun _ => 0) 32) 0 (nums .u8 c 16) = nums .u8 (kfR c) 32 := by
  rw [over_nums _ _ _ _ (by decide)]
  rfl
end Go.Proofs.Ytbofihejegbfhaa

/- NZn -/
namespace Go.Proofs.Ytbofihejegbfhaa
set_option linter.unusedVariables false
set_option maxRecDepth 2000
set_option linter.unusedSimpArgs false
open Go.RowKit
attribute [local go_sem] nums_length st16b
attribute [local go_sem ↓ high] sliced_head
/-- the keys that were handed in -/
def Keys (w : World) (p : Option Addr) (n : Nat) (k0 : Nat → Nat → Int) : Prop := ∀ j, j < n → ∃ D o, p = some ⟨D, o, none⟩ ∧ Has D (o + j * 16) (nums .u8 (k0 j) 16) w
theorem Keys.later {w w' : World} {p : Option Addr} {n : Nat} {k0 : Nat → Nat → Int} (h : Keys w p n k0) (hb : Below w.heap.size w w') : Keys w' p n k0 := fun j hj => by
  obtain ⟨D, o, h1, h2⟩ := h j hj
  exact ⟨D, o, h1, h2.later hb⟩
/-- what is known of the keys that were picked -/
def Seen (k n : Nat) (K0 : Nat → Nat → Int) : Prop := n ≤ k ∧ (∀ j, j < n → ∀ i, i < 16 → inB (K0 j i)) ∧ ∀ i j, i < j → j < n → eqB (clampF (K0 i)) (clampF (K0 j)) 16 = false
/-- one key more -/
def addK (n : Nat) (K0 : Nat → Nat → Int) (kq : Nat → Int) (j : Nat) : Nat → Int := if j < n then K0 j else kq
theorem addK_old {n : Nat} {K0 : Nat → Nat → Int} {kq : Nat → Int} {j : Nat} (h : j < n) : addK n K0 kq j = K0 j := if_pos h
theorem addK_new (n : Nat) (K0 : Nat → Nat → Int) (kq : Nat → Int) : addK n K0 kq n = kq := if_neg (Nat.lt_irrefl n)
theorem Seen.same {k n : Nat} {K0 : Nat → Nat → Int} (h : Seen k n K0) : Seen (k + 1) n K0 := ⟨Nat.le_succ_of_le h.1, h.2.1, h.2.2⟩
theorem Seen.more {k n : Nat} {K0 : Nat → Nat → Int} {kq : Nat → Int} (h : Seen k n K0) (hq : ∀ i, i < 16 → inB (kq i)) (hn : exB (fun x => eqB (clampF (K0 x)) (clampF kq) 16) n = false) : Seen (k + 1) (n + 1) (addK n K0 kq) := by
  refine ⟨Nat.succ_le_succ h.1, fun j hj i hi => ?_, fun i j hij hj => ?_⟩
  · by_cases e : j < n
    · rw [addK_old e]; exact h.2.1 j e i hi
    · obtain rfl : j = n := by omega
      rw [addK_new]; exact hq i hi
  · rw [addK_old (show i < n by omega)]
    by_cases e : j < n
    · rw [addK_old e]; exact h.2.2 i j hij e
    · obtain rfl : j = n := by omega
      rw [addK_new]; exact exB_false hn i hij
theorem rowS (n : Nat) (K0 : Nat → Nat → Int) (kq : Nat → Int) : nums .u8 (rowG fun j => clampF (K0 j)) (n * 16) ++ nums .u8 (clampF kq) 16 = nums .u8 (rowG fun j => clampF (addK n K0 kq j)) ((n + 1) * 16) := by
  rw [← rowG_succ (fun j => clampF (addK n K0 kq j)) n, rowG_congr (R := fun j => clampF (addK n K0 kq j)) (R' := fun j => clampF (K0 j)) (fun j hj => by show clampF (addK n K0 kq j) = _; rw [addK_old hj])]
  show _ = _ ++ nums .u8 (clampF (addK n K0 kq n)) 16
  rw [addK_new]
theorem rowD (n : Nat) (K0 : Nat → Nat → Int) (kq f g : Nat → Int) (N M : Nat) : nums .u8 (rowG fun j => difF (clampF (K0 j)) f g N M) (n * 16) ++ nums .u8 (difF (clampF kq) f g N M) 16 = nums .u8 (rowG fun j => difF (clampF (addK n K0 kq j)) f g N M) ((n + 1) * 16) := by
  rw [← rowG_succ (fun j => difF (clampF (addK n K0 kq j)) f g N M) n, rowG_congr (R := fun j => difF (clampF (addK n K0 kq j)) f g N M) (R' := fun j => difF (clampF (K0 j)) f g N M) (fun j hj => by show difF (clampF (addK n K0 kq j)) f g N M = _; rw [addK_old hj])]
  show _ = _ ++ nums .u8 (difF (clampF (addK n K0 kq n)) f g N M) 16
  rw [addK_new]

set_option maxHeartbeats 8000000 in
theorem Few_core (f g : Nat → Int) (k0 : Nat → Nat → Int) (pa pb pk : Option Addr) (na ca nb cb nk ck Na Nb KN : Nat) (ea : (if 32 < (na : Int) then 32 else (na : Int)) = (Na : Int)) (eb : (if 32 < (nb : Int) then 32 else (nb : Int)) = (Nb : Int)) (hKN : KN = min nk 60) (ha1 : na ≤ ca) (ha2 : ca ≤ 9223372036854775807) (hb1 : nb ≤ cb) (hb2 : cb ≤ 9223372036854775807) (hk1 : nk ≤ ck) (hk2 : ck ≤ 9223372036854775807) (hf : ∀ i, i < Na → inB (f i)) (hg : ∀ i, i < Nb → inB (g i)) (hk : ∀ j, j < nk → ∀ i, i < 16 → inB (k0 j i)) (w : World) (ha : Byt w pa Na f) (hb : Byt w pb Nb g) (hkk : Keys w pk nk k0) :
    Calls Try.prog 4 #[.slice pa na ca, .slice pb nb cb, .slice pk nk ck] w fun e w' => e = .returned (.bool true) ∧ Below w.heap.size w w' := by
  have a0 : (0 : Int) ≤ (Na : Int) := by omega
  have a1 : (Na : Int) ≤ (ca : Int) := by split at ea <;> omega
  have b0 : (0 : Int) ≤ (Nb : Int) := by omega
  have b1 : (Nb : Int) ≤ (cb : Int) := by split at eb <;> omega
  have HNA : Hid (Na ≤ 32 ∧ Na ≤ ca ∧ ca ≤ 9223372036854775807) := Lib.hid (by split at ea <;> omega)
  have HNB : Hid (Nb ≤ 32 ∧ Nb ≤ cb ∧ cb ≤ 9223372036854775807) := Lib.hid (by split at eb <;> omega)
  have HKN := Lib.hid hKN; have HF := Lib.hid hf; have HG := Lib.hid hg; have HKB := Lib.hid hk; have BA := Lib.hid ha; have BB := Lib.hid hb; have KK := Lib.hid hkk; have HK1 := Lib.hid hk1
  clear hKN ha1 ha2 hb1 hb2 hk1 hk2 hf hg hk ha hb hkk
  go_enter Try.func4, Try.ntmps4
  go_wp2_with (fail)
  go_quiet (fail)
  have ma : min (na : Int) 32 = (Na : Int) := by split at ea <;> omega
  have mb : min (nb : Int) 32 = (Nb : Int) := by split at eb <;> omega
  simp only [ma, mb, Int.toNat_natCast]
  have hq : Below w.heap.size w (w.drewN nq) := by first | exact below_drewN _ _ | exact below_drewN (Below.refl _ _) _
  obtain ⟨w1, ew⟩ : ∃ x, x = w.drewN nq := ⟨_, rfl⟩
  rw [← ew] at hq ⊢
  clear ew
  have HB := Lib.hid hq
  replace BA := Lib.hid (BA.out.later hq); replace BB := Lib.hid (BB.out.later hq); replace KK := Lib.hid (KK.out.later hq)
  clear hq ma mb a0 a1 b0 b1
  have EQ := Lib.hid (fun w h1 h2 => Equal3_any pa pb Na Nb ca cb f g HF.out HG.out w h1 h2)
  have HZ := Lib.hid (show (decide (Na = Nb) && eqB f g Na) = true ∨ ¬ (Na = Nb ∧ ∀ i, i < Na → f i = g i) by
    by_cases h : (decide (Na = Nb) && eqB f g Na) = true
    · exact .inl h
    · refine .inr fun h2 => h ?_
      rw [decide_eq_true h2.1, Bool.true_and]
      exact eqB_congr h2.2)
  obtain ⟨z, ez⟩ : ∃ z, (decide (Na = Nb) && eqB f g Na) = z := ⟨_, rfl⟩
  rw [ez] at EQ HZ
  clear ez
  go_wp2_with (fail)
  go_at_call 11
  refine (EQ.out _ BA.out BB.out).mono ?_
  rintro e w2 ⟨rfl, hb⟩
  replace HB := Lib.hid (Below.go HB.out hb); replace BA := Lib.hid (BA.out.later hb); replace BB := Lib.hid (BB.out.later hb); replace KK := Lib.hid (KK.out.later hb)
  clear EQ hb
  cases z with
  | true =>
    go_wp2_with (fail)
    go_at_call 10
    refine (works_any _).mono ?_
    rintro e w3 ⟨rfl, hb⟩
    go_wp2_with (fail)
    go_ret
    exact ⟨rfl, Below.go HB.out hb⟩
  | false =>
    have HNE : Hid (¬ (Na = Nb ∧ ∀ i, i < Na → f i = g i)) := Lib.hid (HZ.out.resolve_left (by decide))
    clear HZ
    by_cases hn0 : nk = 0
    · subst hn0
      go_wp2_with (fail)
      go_at_call 10
      refine (works_any _).mono ?_
      rintro e w3 ⟨rfl, hb⟩
      go_wp2_with (fail)
      go_ret
      exact ⟨rfl, Below.go HB.out hb⟩
    · have n0 : decide ((nk : Int) = 0) = false := decide_eq_false (by omega)
      have n0n : decide (nk = 0) = false := decide_eq_false hn0
      have n1 : ¬ (nk : Int) = 0 := by omega
      go_upto_region 4 with fail
      go_wp2_with (fail)
      obtain ⟨MA, hMA⟩ : ∃ m, m = (Na + 15) / 16 := ⟨_, rfl⟩
      obtain ⟨MB, hMB⟩ : ∃ m, m = (Nb + 15) / 16 := ⟨_, rfl⟩
      have FC := Lib.hid (fun K0 n h1 h2 D => few_count (D := D) HNA.out.1 HNB.out.1 HF.out HG.out HNE.out K0 n h1 h2)
      rw [← hMA, ← hMB] at FC
      have HMA := Lib.hid hMA; have HMB := Lib.hid hMB
      clear hMA hMB
      go_at_call 12
      refine (Blocks_any f pa Na ca Na MA (by rw [if_neg (by have := HNA.out.1; omega)]) HNA.out.2.1 HNA.out.2.2 HMA.out _ BA.out).mono ?_
      rintro e w3 ⟨v, rfl, hrow, hb⟩
      obtain ⟨p1, c1, rfl, _⟩ := row_form hrow
      clear hrow
      replace HB := Lib.hid (Below.go HB.out hb); replace BA := Lib.hid (BA.out.later hb); replace BB := Lib.hid (BB.out.later hb); replace KK := Lib.hid (KK.out.later hb)
      go_wp2_with (fail)
      go_at_call 12
      refine (Blocks_any g pb Nb cb Nb MB (by rw [if_neg (by have := HNB.out.1; omega)]) HNB.out.2.1 HNB.out.2.2 HMB.out _ BB.out).mono ?_
      rintro e w4 ⟨v, rfl, hrow, hb⟩
      obtain ⟨p2, c2, rfl, _⟩ := row_form hrow
      clear hrow
      replace HB := Lib.hid (Below.go HB.out hb); replace BA := Lib.hid (BA.out.later hb); replace BB := Lib.hid (BB.out.later hb); replace KK := Lib.hid (KK.out.later hb)
      obtain ⟨M, hM⟩ : ∃ M, M = max MA MB := ⟨_, rfl⟩
      have mx : max (MA : Int) (MB : Int) = (M : Int) := by omega
      have mxi : (if (MA : Int) < (MB : Int) then (MB : Int) else (MA : Int)) = (M : Int) := by split <;> omega
      rw [← hM] at FC
      have MP : Hid (0 < M ∧ M ≤ 2) := Lib.hid (by
        have h1 := HNA.out.1; have h2 := HNB.out.1; have hMA := HMA.out; have hMB := HMB.out
        refine ⟨?_, by omega⟩
        rcases Nat.eq_zero_or_pos Na with a | a
        · rcases Nat.eq_zero_or_pos Nb with b | b
          · exact absurd ⟨by omega, fun i hi => by omega⟩ HNE.out
          · omega
        · omega)
      have HW := HB
      clear HB hb HMA HMB hM HNE n0 n0n n1 hn0
      go_wp2_with (fail)
      go_loopw [8, 9, 10] (fun sv fv iv wr => ∃ (k n : Nat) (K0 : Nat → Nat → Int) (ps : Option Addr) (cs : Nat) (pf : Option Addr) (cf : Nat), k ≤ KN ∧ sv = .slice ps n cs ∧ fv = .slice pf n cf ∧ iv = .int .i64 k ∧ Hid (Seen k n K0) ∧ Hid (Two wr w4.heap.size (.slice ps n cs) n (nums .u8 (rowG fun j => clampF (K0 j)) (n * 16)) (.slice pf n cf) n (nums .u8 (rowG fun j => difF (clampF (K0 j)) f g Na Nb) (n * 16))) ∧ Hid (Below w4.heap.size w4 wr)) (fun _ _ iv _ => (60 - (intOf iv).toNat))
      case atStart => exact ⟨0, 0, fun _ _ => 0, none, 0, none, 0, Nat.zero_le _, rfl, rfl, rfl, Lib.hid ⟨Nat.le_refl _, fun j hj => absurd hj (Nat.not_lt_zero j), fun i j _ hj => absurd hj (Nat.not_lt_zero j)⟩, Lib.hid ⟨World.ownsRow_nil _ _ _ _, World.ownsRow_nil _ _ _ _, fun k hk => by simp [Value.ownBlock] at hk⟩, Lib.hid (Below.refl _ _)⟩
      case round =>
        obtain ⟨k, n, K0, ps, cs, pf, cf, hk, rfl, rfl, rfl, SE, TW, HC⟩ := hrel
        by_cases hlt : k < KN
        · have hnk : k < nk := by have := HKN.out; omega
          have hk60 : k < 60 := by have := HKN.out; omega
          obtain ⟨D, oo, rfl, hD⟩ := (KK.out.later HC.out) k hnk
          have KB0 := HKB.out k hnk
          have i1 : (k : Int) < (nk : Int) := by omega
          have i2 : (k : Int) < 60 := by omega
          have i3 : (0 : Int) ≤ (k : Int) := by omega
          have k63 : IntKind.i64.wrap ((k : Int) + 1) = (k : Int) + 1 := IntWalk.i64_in _ (by omega)
          have HLT := Lib.hid hlt
          obtain ⟨kq, eq⟩ : ∃ x, k0 k = x := ⟨_, rfl⟩
          rw [eq] at hD KB0
          have HDk := Lib.hid hD
          have KQ := Lib.hid KB0
          have CLA := Lib.hid (fun w => Clamp_any kq KQ.out w)
          have EQQ := Lib.hid (fun (a c : Nat → Int) w => eq16 a c w)
          clear hD KB0 eq hlt hk
          go_upto_region 10 with fail
          refine wp_region_lit ?_
          refine wpList_plain rfl fun K_ hK => ?_
          go_simp
          refine hK _ _ ?_
          clear hK K_
          refine wpList_plain rfl fun K_ hK => ?_
          go_simp
          refine hK _ _ ?_
          clear hK K_
          refine wpList_plain rfl fun K_ hK => ?_
          go_simp
          refine hK _ _ ?_
          clear hK K_
          refine wpList_load_mid rfl 29 _ rfl D (oo + k * 16) rfl (nums .u8 kq 16) _ HDk.out.cell Try.underlying29 rfl (by kernel_rfl) ?_
          go_wp2_with (fail)
          go_at_call 13
          refine (CLA.out _).mono ?_
          rintro e w5 ⟨rfl, hb⟩
          replace TW := Lib.hid (TW.out.later hb); replace HC := Lib.hid (Below.go HC.out hb)
          clear HDk hb
          go_upto_region 11 with fail
          obtain ⟨w6, hW⟩ : ∃ W, W = w5.alloc (.cells (nums .u8 (clampF kq) 16).toArray 29) := ⟨_, rfl⟩
          have hb : Below w5.heap.size w5 w6 := hW ▸ Below.al (Below.refl _ _)
          have HR : Hid (Own w5.heap.size (nums .u8 (clampF kq) 16) w6) := Lib.hid (hW ▸ Own.newAt (by simp))
          rw [← hW]
          clear hW
          have NSR := Lib.hid (row_new TW.out.s (Nat.le_refl _))
          have NFR := Lib.hid (row_new TW.out.f (Nat.le_refl _))
          obtain ⟨R_, eR⟩ : ∃ X, X = w5.heap.size := ⟨_, rfl⟩
          rw [← eR] at HR NSR NFR ⊢
          clear eR
          replace TW := Lib.hid (TW.out.later hb); replace HC := Lib.hid (Below.go HC.out hb)
          clear hb
          go_wp2_with (fail)
          go_loopw [12, 64] (fun ov jv wq => ∃ (j : Nat), j ≤ n ∧ ov = .bool (exB (fun x => eqB (clampF (K0 x)) (clampF kq) 16) j) ∧ jv = .int .i64 j ∧ Hid (Below w6.heap.size w6 wq)) (fun _ jv _ => (n - (intOf jv).toNat))
          case atStart => exact ⟨0, Nat.zero_le _, rfl, rfl, Lib.hid (Below.refl _ _)⟩
          case round =>
            obtain ⟨j, hj, rfl, rfl, HQ⟩ := hrel
            by_cases hlt2 : j < n
            · obtain ⟨G, rfl, hG⟩ := elem16 (TW.out.later HQ.out).s hlt2
              have j0 : (0 : Int) ≤ (j : Int) := by omega
              have j1 : (j : Int) < (n : Int) := by omega
              have j63 : IntKind.i64.wrap ((j : Int) + 1) = (j : Int) + 1 := IntWalk.i64_in _ (by have := SE.out.1; omega)
              have HG_ := Lib.hid hG
              have HJ := Lib.hid hlt2
              obtain ⟨ob, eo⟩ : ∃ x, exB (fun x => eqB (clampF (K0 x)) (clampF kq) 16) j = x := ⟨_, rfl⟩
              rw [eo]
              have EO := Lib.hid (show exB (fun x => eqB (clampF (K0 x)) (clampF kq) 16) (j + 1) = (ob || eqB (clampF (K0 j)) (clampF kq) 16) by rw [exB, eo])
              clear hG eo hlt2 hj
              go_upto_region 14 with fail
              refine wp_region_lit ?_
              refine wpList_plain rfl fun K_ hK => ?_
              go_simp
              refine hK _ _ ?_
              clear hK K_
              refine wpList_load_mid rfl 29 _ rfl G (j * 16) rfl (nums .u8 (clampF (K0 j)) 16) _ HG_.out.cell Try.underlying29 rfl (by kernel_rfl) ?_
              go_upto_region 15 with fail
              obtain ⟨w8, hW⟩ : ∃ W, W = wr.alloc (.cells (nums .u8 (clampF (K0 j)) 16).toArray 29) := ⟨_, rfl⟩
              have hb : Below wr.heap.size wr w8 := hW ▸ Below.al (Below.refl _ _)
              have HE : Hid (Own wr.heap.size (nums .u8 (clampF (K0 j)) 16) w8) := Lib.hid (hW ▸ Own.newAt (by simp))
              rw [← hW]
              clear hW
              obtain ⟨E_, eE⟩ : ∃ X, X = wr.heap.size := ⟨_, rfl⟩
              rw [← eE] at HE ⊢
              clear eE
              replace HQ := Lib.hid (Below.go HQ.out hb)
              have HR8 := Lib.hid (HR.out.later HQ.out)
              clear hb HG_
              cases ob with
              | true =>
                rw [Bool.true_or] at EO
                go_wp2_with (fail)
                go_roundw
                case rel => (first | exact ⟨j + 1, HJ.out, by rw [EO.out], by go_num, HQ⟩ | ((repeat apply Exists.intro); exact ⟨⟨j + 1, HJ.out, by rw [EO.out], by go_num, HQ⟩, rfl⟩))
                case measure => (have := HJ.out; simp [intOf]; omega)
              | false =>
                rw [Bool.false_or] at EO
                have hq := EQQ.out (clampF (K0 j)) (clampF kq) w8
                obtain ⟨z, ez⟩ : ∃ x, eqB (clampF (K0 j)) (clampF kq) 16 = x := ⟨_, rfl⟩
                rw [ez] at hq EO
                clear ez
                refine wp_region_lit ?_
                refine wpList_plain rfl fun K_ hK => ?_
                go_simp
                refine hK _ _ ?_
                clear hK K_
                refine wpList_plain rfl fun K_ hK => ?_
                go_simp
                refine hK _ _ ?_
                clear hK K_
                refine wpList_load_if (by simp [Region.wanted, yielded]) 29 _ rfl E_ 0 rfl (nums .u8 (clampF (K0 j)) 16) _ HE.out.cell Try.underlying29 rfl (by kernel_rfl) ?_
                refine wpList_load_if (by first | (simp [Region.wanted, yielded, Act.put]; done) | rfl) 29 _ rfl R_ 0 rfl (nums .u8 (clampF kq) 16) _ HR8.out.cell Try.underlying29 rfl (by kernel_rfl) ?_
                go_wp2_with (fail)
                go_roundw
                case rel => (first | exact ⟨j + 1, HJ.out, by rw [EO.out], by go_num, HQ⟩ | ((repeat apply Exists.intro); exact ⟨⟨j + 1, HJ.out, by rw [EO.out], by go_num, HQ⟩, rfl⟩))
                case measure => (have := HJ.out; simp [intOf]; omega)
            · obtain rfl : n = j := by omega
              have hb := HQ.out
              replace TW := Lib.hid (TW.out.later hb); replace HC := Lib.hid (Below.go HC.out hb); replace HR := Lib.hid (HR.out.later hb)
              clear HQ hb hlt2 hj
              obtain ⟨ob, eo⟩ : ∃ x, exB (fun x => eqB (clampF (K0 x)) (clampF kq) 16) n = x := ⟨_, rfl⟩
              rw [eo]
              cases ob with
              | true =>
                have SE1 := Lib.hid SE.out.same
                clear eo SE HR
                go_wp2_with (fail)
                go_roundw
                case rel => (first | exact ⟨k + 1, n, K0, ps, cs, pf, cf, HLT.out, rfl, rfl, by go_num, SE1, TW, HC⟩ | ((repeat apply Exists.intro); exact ⟨⟨k + 1, n, K0, ps, cs, pf, cf, HLT.out, rfl, rfl, by go_num, SE1, TW, HC⟩, rfl⟩))
                case measure => (have := hk60; simp [intOf]; omega)
              | false =>
                have SE1 := Lib.hid (SE.out.more KQ.out eo)
                have NB := Lib.hid (show n + 1 ≤ 65536 by have := SE.out.1; omega)
                clear eo SE
                go_upto_region 18 with fail
                refine wp_region_lit ?_
                refine wpList_plain rfl fun K_ hK => ?_
                go_simp
                refine hK _ _ ?_
                clear hK K_
                refine wpList_load_mid rfl 29 _ rfl R_ 0 rfl (nums .u8 (clampF kq) 16) _ HR.out.cell Try.underlying29 rfl (by kernel_rfl) ?_
                refine wpList_build16 rfl _ rfl (clampF kq) rfl ?_
                obtain ⟨w10, hW⟩ : ∃ W, W = wr.alloc (.cells (nums .u8 (clampF kq) 16).toArray 29) := ⟨_, rfl⟩
                have hb : Below wr.heap.size wr w10 := hW ▸ Below.al (Below.refl _ _)
                have HE : Hid (Own wr.heap.size (nums .u8 (clampF kq) 16) w10) := Lib.hid (hW ▸ Own.newAt (by simp))
                rw [← hW]
                clear hW
                obtain ⟨E_, eE⟩ : ∃ X, X = wr.heap.size := ⟨_, rfl⟩
                rw [← eE] at HE ⊢
                clear eE
                replace TW := Lib.hid (TW.out.later hb); replace HC := Lib.hid (Below.go HC.out hb); replace HR := Lib.hid (HR.out.later hb)
                refine wpList_app_s rfl _ _ rfl TW.out rfl (clampF kq) rfl HE.out.has NB.out HC.out.size ?_
                intro v' w11 two hgr
                rw [rowS] at two
                obtain ⟨ps2, cs2, rfl, _⟩ := row_form two.s
                have hge := row_ge TW.out.s
                replace HR := Lib.hid (HR.out.grown hgr NSR.out)
                replace HC := Lib.hid (HC.out.grown hgr HC.out.size hge)
                replace TW := Lib.hid two
                clear two hgr hge HE hb NSR NFR
                go_upto_region 20 with fail
                obtain ⟨w12, hW⟩ : ∃ W, W = w11.alloc (.cells #[.int .u8 0, .int .u8 0, .int .u8 0, .int .u8 0, .int .u8 0, .int .u8 0, .int .u8 0, .int .u8 0, .int .u8 0, .int .u8 0, .int .u8 0, .int .u8 0, .int .u8 0, .int .u8 0, .int .u8 0, .int .u8 0, .int .u8 0, .int .u8 0, .int .u8 0, .int .u8 0, .int .u8 0, .int .u8 0, .int .u8 0, .int .u8 0, .int .u8 0, .int .u8 0, .int .u8 0, .int .u8 0, .int .u8 0, .int .u8 0, .int .u8 0, .int .u8 0] 22) := ⟨_, rfl⟩
                have hb : Below w11.heap.size w11 w12 := hW ▸ Below.al (Below.refl _ _)
                have HV : Hid (Own w11.heap.size (nums .u8 (fun _ => 0) 32) w12) := Lib.hid (hW ▸ Own.newAt (by simp))
                rw [← hW]
                clear hW
                have NSV := Lib.hid (row_new TW.out.s (Nat.le_refl _))
                have NFV := Lib.hid (row_new TW.out.f (Nat.le_refl _))
                have VW := Lib.hid HC.out.size
                obtain ⟨V_, eV⟩ : ∃ X, X = w11.heap.size := ⟨_, rfl⟩
                rw [← eV] at HV NSV NFV VW ⊢
                clear eV
                replace TW := Lib.hid (TW.out.later hb); replace HC := Lib.hid (Below.go HC.out hb); replace HR := Lib.hid (HR.out.later hb)
                clear hb
                refine wp_region_still_tail 2 (by kernel_rfl) (by kernel_rfl) ?_; simp only [List.take_succ_cons, List.take_zero, List.drop_succ_cons, List.drop_zero]; change wpStill _ _ (World.drew _) (fun a1 => wpList _ _ _ _ a1 (World.drew _)) _ _; repeat still_step
                refine wpStill_nil ?_
                refine wpList_copy rfl _ _ 26 rfl rfl rfl (copy_byt V_ 0 R_ 0 16 32 16 16 16 _ (clampF kq) _ rfl (HR.out.drew.has) (fun j hj => by have := HV.out.drew.free (0 + j) (by rw [nums_length]; omega); rwa [Nat.zero_add] at this)) ?_
                have XO := Lib.hid (Own.part (o := 0) (vs := nums .u8 (clampF kq) 16) HV.out.drew (by rw [nums_length, nums_length]; decide))
                rw [over_kfR] at XO
                have XT := Lib.hid ((TW.out.later (Below.refl _ _).drew).far (o := 0) (ls := nums .u8 (clampF kq) 16) NSV.out NFV.out)
                have XC := Lib.hid (Below.setCells HC.out.drew VW.out (nums .u8 (clampF kq) 16) 0)
                clear HV TW HC HR
                generalize w12.drew.setCells V_ 0 (nums .u8 (clampF kq) 16) = w13 at *
                have HV := XO; have TW := XT; have HC := XC
                clear XO XT XC
                go_upto_region 21 with fail
                obtain ⟨TA_, eA⟩ : ∃ x, tagN (kfR (clampF kq)) f Na = x := ⟨_, rfl⟩
                obtain ⟨TB_, eB⟩ : ∃ x, tagN (kfR (clampF kq)) g Nb = x := ⟨_, rfl⟩
                have KF := Lib.hid (in_kfR (c := clampF kq) (fun i hi => in_clampF (KQ.out i hi)))
                have TGA := Lib.hid (fun L w h hb => Tag_one (kfR (clampF kq)) f L pa Na ca KF.out HF.out (by have := HNA.out.1; omega) HNA.out.2.1 HNA.out.2.2 w h hb)
                have TGB := Lib.hid (fun L w h hb => Tag_one (kfR (clampF kq)) g L pb Nb cb KF.out HG.out (by have := HNB.out.1; omega) HNB.out.2.1 HNB.out.2.2 w h hb)
                rw [eA] at TGA; rw [eB] at TGB
                have LSS := Lib.hid (fun w => less_core_ (byt TA_) (byt TB_) (fun i _ => in_byt _ i) (fun i _ => in_byt _ i) w)
                have ED := Lib.hid (show subF (byt TA_) (byt TB_) = difF (clampF kq) f g Na Nb by unfold difF; rw [eA, eB])
                clear eA eB
                refine wp_region_fun 13 (by kernel_rfl) (by kernel_rfl) rfl (fun s b => ⟨#[.slice pa Na ca, .slice pb Nb cb, .slice (some ⟨D, oo, none⟩) nk ck, undef, undef, undef, .bool false, .int .i64 M, .slice ps2 (n + 1) cs2, s 9, .int .i64 k, .pointer (some ⟨R_, 0, none⟩), .bool false, undef, u14, .pointer (some ⟨V_, 0, none⟩), undef, undef, undef, undef, undef, .slice pa na ca, .slice pa na ca, .int .i64 na, .int .i64 Na, .slice pa Na ca, .slice pb nb cb, .slice pb nb cb, .int .i64 nb, .int .i64 Nb, .slice pb Nb cb, .slice pa Na ca, .slice pb Nb cb, .bool false, .bool false, .slice (some ⟨D, oo, none⟩) nk ck, .int .i64 nk, .bool false, .bool false, undef, .slice pa Na ca, .slice p1 MA c1, .int .i64 MA, .slice pb Nb cb, .slice p2 MB c2, .int .i64 MB, .int .i64 M, .int .i64 k, .slice (some ⟨D, oo, none⟩) nk ck, .int .i64 nk, .bool true, .bool true, .int .i64 k, .bool true, .bool true, u55, u56, .slice (some ⟨D, oo, none⟩) nk ck, .int .i64 k, .pointer (some ⟨D, (oo + k * 16), none⟩), .agg (nums .u8 kq 16).toArray, .agg (nums .u8 (clampF kq) 16).toArray, .slice ps n cs, .int .i64 n, .int .i64 n, .bool false, u66, u67, u68, u69, u70, u71, u72, u73, u74, .bool false, .slice ps n cs, .agg (nums .u8 (clampF kq) 16).toArray, .slice (some ⟨E_, 0, none⟩) 1 1, .slice ps2 (n + 1) cs2, .slice (some ⟨V_, 0, none⟩) 16 32, .slice (some ⟨R_, 0, none⟩) 16 16, .int .i64 16, s 83, s 84, s 85, s 86, s 87, s 88, s 89, s 90, s 91, s 92, s 93, s 94, undef, undef, undef, undef, undef, undef, undef, undef, undef, undef, undef, undef, undef, undef, undef, undef, undef, undef, undef, undef, undef, undef, undef, undef, undef, undef, undef, undef], []⟩) (fun d s b w => (Below w4.heap.size w4 w) ∧ (d 0 = true → s 83 = .slice pf n cf) ∧ (d 1 = true → s 84 = .agg (nums .u8 (kfR (clampF kq)) 32).toArray) ∧ (d 2 = true → s 85 = .slice pa Na ca) ∧ (d 3 = true → s 86 = .slice (some ⟨(b 3), 0, none⟩) 1 1 ∧ w4.heap.size ≤ b 3) ∧ (d 3 = true → d 4 = false → Own (b 3) [.slice pa Na ca] w) ∧ (d 4 = true → s 87 = .agg (nums .u8 (byt TA_) 16).toArray) ∧ (d 5 = true → s 88 = .agg (nums .u8 (kfR (clampF kq)) 32).toArray) ∧ (d 6 = true → s 89 = .slice pb Nb cb) ∧ (d 7 = true → s 90 = .slice (some ⟨(b 7), 0, none⟩) 1 1 ∧ w4.heap.size ≤ b 7) ∧ (d 7 = true → d 8 = false → Own (b 7) [.slice pb Nb cb] w) ∧ (d 8 = true → s 91 = .agg (nums .u8 (byt TB_) 16).toArray) ∧ (d 9 = true → s 92 = .agg (nums .u8 (subF (byt TA_) (byt TB_)) 16).toArray) ∧ (d 10 = true → s 93 = .slice (some ⟨(b 10), 0, none⟩) 1 1 ∧ w4.heap.size ≤ b 10) ∧ (d 10 = true → d 11 = false → Own (b 10) (nums .u8 (subF (byt TA_) (byt TB_)) 16) w) ∧ (d 11 = false → Two w w4.heap.size (.slice ps2 (n + 1) cs2) (n + 1) (nums .u8 (rowG fun j => clampF (addK n K0 kq j)) ((n + 1) * 16)) (.slice pf n cf) n (nums .u8 (rowG fun j => difF (clampF (K0 j)) f g Na Nb) (n * 16))) ∧ (d 11 = true → Two w w4.heap.size (.slice ps2 (n + 1) cs2) (n + 1) (nums .u8 (rowG fun j => clampF (addK n K0 kq j)) ((n + 1) * 16)) (s 94) (n + 1) ((nums .u8 (rowG fun j => difF (clampF (K0 j)) f g Na Nb) (n * 16)) ++ nums .u8 (subF (byt TA_) (byt TB_)) 16)) ∧ (d 12 = true → s 9 = s 94) ∧ (d 12 = false → s 9 = .slice pf n cf) ∧ (d 12 = true → d 0 = true) ∧ (d 12 = true → d 11 = true) ∧ (d 9 = true → d 4 = true) ∧ (d 9 = true → d 8 = true) ∧ (Own V_ (nums .u8 (kfR (clampF kq)) 32) w)) rfl ?h0z1 (?stz1 : StepsF _ _ _ _ 13 _ _ [0, 1, 2, 3, 4, 5, 6, 7, 8, 9, 10, 11, 12]) ?dnz1
                case h0z1 => exact ⟨Below.drew HC.out, (fun h => nomatch h), (fun h => nomatch h), (fun h => nomatch h), (fun h => nomatch h), (fun h => nomatch h), (fun h => nomatch h), (fun h => nomatch h), (fun h => nomatch h), (fun h => nomatch h), (fun h => nomatch h), (fun h => nomatch h), (fun h => nomatch h), (fun h => nomatch h), (fun h => nomatch h), (fun _ => TW.out.later (Below.refl _ _).drew), (fun h => nomatch h), (fun h => nomatch h), (fun _ => rfl), (fun h => nomatch h), (fun h => nomatch h), (fun h => nomatch h), (fun h => nomatch h), HV.out.drew⟩
                case stz1 =>
                  refine StepsF.cons (o := _) rfl (ws := []) (by kernel_rfl) (by decide) (fun d s b w hF hd hw K_ hK => ?_) ?_
                  · have hB : Below w4.heap.size w4 w := (p0_ hF.out)
                    have e12 : s 9 = .slice pf n cf := (p18_ hF.out) (by cases e : d 12 with | false => rfl | true => exact absurd ((p19_ hF.out) e) (by simp [hd]))
                    dsimp only
                    go_simp
                    exact hK.out (ups (ups s 9 (.slice pf n cf)) 83 (.slice pf n cf)) b _ ⟨hB, (fun _ => rfl), (p2_ hF.out), (p3_ hF.out), (p4_ hF.out), (p5_ hF.out), (p6_ hF.out), (p7_ hF.out), (p8_ hF.out), (p9_ hF.out), (p10_ hF.out), (p11_ hF.out), (p12_ hF.out), (p13_ hF.out), (p14_ hF.out), (p15_ hF.out), (p16_ hF.out), (fun h => absurd ((p19_ hF.out) h) (by simp [hd])), (fun _ => rfl), (fun _ => rfl), (p20_ hF.out), (p21_ hF.out), (p22_ hF.out), (q23_ hF.out)⟩
                  refine StepsF.cons (o := _) rfl (ws := []) (by kernel_rfl) (by decide) (fun d s b w hF hd hw K_ hK => ?_) ?_
                  · have hB : Below w4.heap.size w4 w := (p0_ hF.out)
                    have hV := (q23_ hF.out)
                    refine step_load (by simp [Region.wanted]) 22 _ rfl V_ 0 rfl (nums .u8 (kfR (clampF kq)) 32) _ hV.cell Try.underlying22 rfl (by kernel_rfl) ?_
                    exact hK.out (ups s 84 (.agg (nums .u8 (kfR (clampF kq)) 32).toArray)) b _ ⟨hB, (p1_ hF.out), (fun _ => rfl), (p3_ hF.out), (p4_ hF.out), (p5_ hF.out), (p6_ hF.out), (p7_ hF.out), (p8_ hF.out), (p9_ hF.out), (p10_ hF.out), (p11_ hF.out), (p12_ hF.out), (p13_ hF.out), (p14_ hF.out), (p15_ hF.out), (p16_ hF.out), (p17_ hF.out), (p18_ hF.out), (p19_ hF.out), (p20_ hF.out), (p21_ hF.out), (p22_ hF.out), (q23_ hF.out)⟩
                  refine StepsF.cons (o := _) rfl (ws := []) (by kernel_rfl) (by decide) (fun d s b w hF hd hw K_ hK => ?_) ?_
                  · have hB : Below w4.heap.size w4 w := (p0_ hF.out)
                    dsimp only
                    go_simp
                    exact hK.out (ups s 85 (.slice pa Na ca)) b _ ⟨hB, (p1_ hF.out), (p2_ hF.out), (fun _ => rfl), (p4_ hF.out), (p5_ hF.out), (p6_ hF.out), (p7_ hF.out), (p8_ hF.out), (p9_ hF.out), (p10_ hF.out), (p11_ hF.out), (p12_ hF.out), (p13_ hF.out), (p14_ hF.out), (p15_ hF.out), (p16_ hF.out), (p17_ hF.out), (p18_ hF.out), (p19_ hF.out), (p20_ hF.out), (p21_ hF.out), (p22_ hF.out), (q23_ hF.out)⟩
                  refine StepsF.cons (o := _) rfl (ws := [2]) (by kernel_rfl) (by decide) (fun d s b w hF hd hw K_ hK => ?_) ?_
                  · have hB : Below w4.heap.size w4 w := (p0_ hF.out)
                    have e2 : s 85 = .slice pa Na ca := (p3_ hF.out) (hw 2 (by decide))
                    dsimp only
                    go_simp
                    exact hK.out (ups (ups s 85 (.slice pa Na ca)) 86 (.slice (some ⟨w.heap.size, 0, none⟩) 1 1)) (ups b 3 w.heap.size) _ ⟨(hB.alloc hB.size _), (p1_ hF.out), (p2_ hF.out), (fun _ => rfl), (fun _ => ⟨rfl, hB.size⟩), (fun _ _ => Own.newAt rfl), (p6_ hF.out), (p7_ hF.out), (p8_ hF.out), (p9_ hF.out), (fun h0 h1 => ((p10_ hF.out) h0 h1).alloc), (p11_ hF.out), (p12_ hF.out), (p13_ hF.out), (fun h0 h1 => ((p14_ hF.out) h0 h1).alloc), (fun h0 => ((p15_ hF.out) h0).later (Below.al (Below.refl _ _))), (fun h0 => ((p16_ hF.out) h0).later (Below.al (Below.refl _ _))), (p17_ hF.out), (p18_ hF.out), (p19_ hF.out), (p20_ hF.out), (p21_ hF.out), (p22_ hF.out), (((q23_ hF.out)).later (Below.al (Below.refl _ _)))⟩
                  refine StepsF.cons (o := _) rfl (ws := [1, 3]) (by kernel_rfl) (by decide) (fun d s b w hF hd hw K_ hK => ?_) ?_
                  · have hB : Below w4.heap.size w4 w := (p0_ hF.out)
                    have e1 : s 84 = .agg (nums .u8 (kfR (clampF kq)) 32).toArray := (p2_ hF.out) (hw 1 (by decide))
                    have e3 : s 86 = .slice (some ⟨(b 3), 0, none⟩) 1 1 := ((p4_ hF.out) (hw 3 (by decide))).1
                    have le3 : w4.heap.size ≤ b 3 := ((p4_ hF.out) (hw 3 (by decide))).2
                    dsimp only
                    go_simp
                    go_at_call 15
                    refine (TGA.out (b 3) _ (((p5_ hF.out) (hw 3 (by decide))) hd) (BA.out.later hB)).mono ?_
                    rintro e w1 ⟨rfl, hb⟩
                    exact hK.out (ups (ups (ups s 84 (.agg (nums .u8 (kfR (clampF kq)) 32).toArray)) 86 (.slice (some ⟨(b 3), 0, none⟩) 1 1)) 87 (.agg (nums .u8 (byt TA_) 16).toArray)) b _ ⟨(Below.go hB hb), (p1_ hF.out), (fun _ => rfl), (p3_ hF.out), (fun _ => ⟨rfl, le3⟩), (fun _ h => nomatch h), (fun _ => rfl), (p7_ hF.out), (p8_ hF.out), (p9_ hF.out), (fun h0 h1 => ((p10_ hF.out) h0 h1).later hb), (p11_ hF.out), (p12_ hF.out), (p13_ hF.out), (fun h0 h1 => ((p14_ hF.out) h0 h1).later hb), (fun h0 => ((p15_ hF.out) h0).later hb), (fun h0 => ((p16_ hF.out) h0).later hb), (p17_ hF.out), (p18_ hF.out), (p19_ hF.out), (p20_ hF.out), (fun _ => rfl), (p22_ hF.out), (((q23_ hF.out)).later hb)⟩
                  refine StepsF.cons (o := _) rfl (ws := []) (by kernel_rfl) (by decide) (fun d s b w hF hd hw K_ hK => ?_) ?_
                  · have hB : Below w4.heap.size w4 w := (p0_ hF.out)
                    have hV := (q23_ hF.out)
                    refine step_load (by simp [Region.wanted]) 22 _ rfl V_ 0 rfl (nums .u8 (kfR (clampF kq)) 32) _ hV.cell Try.underlying22 rfl (by kernel_rfl) ?_
                    exact hK.out (ups s 88 (.agg (nums .u8 (kfR (clampF kq)) 32).toArray)) b _ ⟨hB, (p1_ hF.out), (p2_ hF.out), (p3_ hF.out), (p4_ hF.out), (p5_ hF.out), (p6_ hF.out), (fun _ => rfl), (p8_ hF.out), (p9_ hF.out), (p10_ hF.out), (p11_ hF.out), (p12_ hF.out), (p13_ hF.out), (p14_ hF.out), (p15_ hF.out), (p16_ hF.out), (p17_ hF.out), (p18_ hF.out), (p19_ hF.out), (p20_ hF.out), (p21_ hF.out), (p22_ hF.out), (q23_ hF.out)⟩
                  refine StepsF.cons (o := _) rfl (ws := []) (by kernel_rfl) (by decide) (fun d s b w hF hd hw K_ hK => ?_) ?_
                  · have hB : Below w4.heap.size w4 w := (p0_ hF.out)
                    dsimp only
                    go_simp
                    exact hK.out (ups s 89 (.slice pb Nb cb)) b _ ⟨hB, (p1_ hF.out), (p2_ hF.out), (p3_ hF.out), (p4_ hF.out), (p5_ hF.out), (p6_ hF.out), (p7_ hF.out), (fun _ => rfl), (p9_ hF.out), (p10_ hF.out), (p11_ hF.out), (p12_ hF.out), (p13_ hF.out), (p14_ hF.out), (p15_ hF.out), (p16_ hF.out), (p17_ hF.out), (p18_ hF.out), (p19_ hF.out), (p20_ hF.out), (p21_ hF.out), (p22_ hF.out), (q23_ hF.out)⟩
                  refine StepsF.cons (o := _) rfl (ws := [6]) (by kernel_rfl) (by decide) (fun d s b w hF hd hw K_ hK => ?_) ?_
                  · have hB : Below w4.heap.size w4 w := (p0_ hF.out)
                    have e6 : s 89 = .slice pb Nb cb := (p8_ hF.out) (hw 6 (by decide))
                    dsimp only
                    go_simp
                    exact hK.out (ups (ups s 89 (.slice pb Nb cb)) 90 (.slice (some ⟨w.heap.size, 0, none⟩) 1 1)) (ups b 7 w.heap.size) _ ⟨(hB.alloc hB.size _), (p1_ hF.out), (p2_ hF.out), (p3_ hF.out), (p4_ hF.out), (fun h0 h1 => ((p5_ hF.out) h0 h1).alloc), (p6_ hF.out), (p7_ hF.out), (fun _ => rfl), (fun _ => ⟨rfl, hB.size⟩), (fun _ _ => Own.newAt rfl), (p11_ hF.out), (p12_ hF.out), (p13_ hF.out), (fun h0 h1 => ((p14_ hF.out) h0 h1).alloc), (fun h0 => ((p15_ hF.out) h0).later (Below.al (Below.refl _ _))), (fun h0 => ((p16_ hF.out) h0).later (Below.al (Below.refl _ _))), (p17_ hF.out), (p18_ hF.out), (p19_ hF.out), (p20_ hF.out), (p21_ hF.out), (p22_ hF.out), (((q23_ hF.out)).later (Below.al (Below.refl _ _)))⟩
                  refine StepsF.cons (o := _) rfl (ws := [5, 7, 4]) (by kernel_rfl) (by decide) (fun d s b w hF hd hw K_ hK => ?_) ?_
                  · have hB : Below w4.heap.size w4 w := (p0_ hF.out)
                    have e4 : s 87 = .agg (nums .u8 (byt TA_) 16).toArray := (p6_ hF.out) (hw 4 (by decide))
                    have e5 : s 88 = .agg (nums .u8 (kfR (clampF kq)) 32).toArray := (p7_ hF.out) (hw 5 (by decide))
                    have e7 : s 90 = .slice (some ⟨(b 7), 0, none⟩) 1 1 := ((p9_ hF.out) (hw 7 (by decide))).1
                    have le7 : w4.heap.size ≤ b 7 := ((p9_ hF.out) (hw 7 (by decide))).2
                    dsimp only
                    go_simp
                    go_at_call 15
                    refine (TGB.out (b 7) _ (((p10_ hF.out) (hw 7 (by decide))) hd) (BB.out.later hB)).mono ?_
                    rintro e w1 ⟨rfl, hb⟩
                    exact hK.out (ups (ups (ups (ups s 87 (.agg (nums .u8 (byt TA_) 16).toArray)) 88 (.agg (nums .u8 (kfR (clampF kq)) 32).toArray)) 90 (.slice (some ⟨(b 7), 0, none⟩) 1 1)) 91 (.agg (nums .u8 (byt TB_) 16).toArray)) b _ ⟨(Below.go hB hb), (p1_ hF.out), (p2_ hF.out), (p3_ hF.out), (p4_ hF.out), (fun h0 h1 => ((p5_ hF.out) h0 h1).later hb), (fun _ => rfl), (fun _ => rfl), (p8_ hF.out), (fun _ => ⟨rfl, le7⟩), (fun _ h => nomatch h), (fun _ => rfl), (p12_ hF.out), (p13_ hF.out), (fun h0 h1 => ((p14_ hF.out) h0 h1).later hb), (fun h0 => ((p15_ hF.out) h0).later hb), (fun h0 => ((p16_ hF.out) h0).later hb), (p17_ hF.out), (p18_ hF.out), (p19_ hF.out), (p20_ hF.out), (p21_ hF.out), (fun _ => rfl), (((q23_ hF.out)).later hb)⟩
                  refine StepsF.cons (o := _) rfl (ws := [4, 8, 8]) (by kernel_rfl) (by decide) (fun d s b w hF hd hw K_ hK => ?_) ?_
                  · have hB : Below w4.heap.size w4 w := (p0_ hF.out)
                    have e4 : s 87 = .agg (nums .u8 (byt TA_) 16).toArray := (p6_ hF.out) (hw 4 (by decide))
                    have e8 : s 91 = .agg (nums .u8 (byt TB_) 16).toArray := (p11_ hF.out) (hw 8 (by decide))
                    dsimp only
                    go_simp
                    go_at_call 14
                    refine (LSS.out _).mono ?_
                    rintro e w1 ⟨rfl, hb⟩
                    exact hK.out (ups (ups (ups s 87 (.agg (nums .u8 (byt TA_) 16).toArray)) 91 (.agg (nums .u8 (byt TB_) 16).toArray)) 92 (.agg (nums .u8 (subF (byt TA_) (byt TB_)) 16).toArray)) b _ ⟨(Below.go hB hb), (p1_ hF.out), (p2_ hF.out), (p3_ hF.out), (p4_ hF.out), (fun h0 h1 => ((p5_ hF.out) h0 h1).later hb), (fun _ => rfl), (p7_ hF.out), (p8_ hF.out), (p9_ hF.out), (fun h0 h1 => ((p10_ hF.out) h0 h1).later hb), (fun _ => rfl), (fun _ => rfl), (p13_ hF.out), (fun h0 h1 => ((p14_ hF.out) h0 h1).later hb), (fun h0 => ((p15_ hF.out) h0).later hb), (fun h0 => ((p16_ hF.out) h0).later hb), (p17_ hF.out), (p18_ hF.out), (p19_ hF.out), (p20_ hF.out), (fun _ => hw 4 (by decide)), (fun _ => hw 8 (by decide)), (((q23_ hF.out)).later hb)⟩
                  refine StepsF.cons (o := _) rfl (ws := [9]) (by kernel_rfl) (by decide) (fun d s b w hF hd hw K_ hK => ?_) ?_
                  · have hB : Below w4.heap.size w4 w := (p0_ hF.out)
                    have e9 : s 92 = .agg (nums .u8 (subF (byt TA_) (byt TB_)) 16).toArray := (p12_ hF.out) (hw 9 (by decide))
                    refine step_build16 rfl _ rfl (subF (byt TA_) (byt TB_)) e9 ?_
                    exact hK.out (ups s 93 (.slice (some ⟨w.heap.size, 0, none⟩) 1 1)) (ups b 10 w.heap.size) _ ⟨(hB.alloc hB.size _), (p1_ hF.out), (p2_ hF.out), (p3_ hF.out), (p4_ hF.out), (fun h0 h1 => ((p5_ hF.out) h0 h1).alloc), (p6_ hF.out), (p7_ hF.out), (p8_ hF.out), (p9_ hF.out), (fun h0 h1 => ((p10_ hF.out) h0 h1).alloc), (p11_ hF.out), (p12_ hF.out), (fun _ => ⟨rfl, hB.size⟩), (fun _ _ => Own.newAt rfl), (fun h0 => ((p15_ hF.out) h0).later (Below.al (Below.refl _ _))), (fun h0 => ((p16_ hF.out) h0).later (Below.al (Below.refl _ _))), (p17_ hF.out), (p18_ hF.out), (p19_ hF.out), (p20_ hF.out), (p21_ hF.out), (p22_ hF.out), (((q23_ hF.out)).later (Below.al (Below.refl _ _)))⟩
                  refine StepsF.cons (o := _) rfl (ws := [0, 10, 9]) (by kernel_rfl) (by decide) (fun d s b w hF hd hw K_ hK => ?_) ?_
                  · have hB : Below w4.heap.size w4 w := (p0_ hF.out)
                    have e12 : s 9 = .slice pf n cf := (p18_ hF.out) (by cases e : d 12 with | false => rfl | true => exact absurd ((p20_ hF.out) e) (by simp [hd]))
                    have e0 : s 83 = .slice pf n cf := (p1_ hF.out) (hw 0 (by decide))
                    have e9 : s 92 = .agg (nums .u8 (subF (byt TA_) (byt TB_)) 16).toArray := (p12_ hF.out) (hw 9 (by decide))
                    have e10 : s 93 = .slice (some ⟨(b 10), 0, none⟩) 1 1 := ((p13_ hF.out) (hw 10 (by decide))).1
                    have le10 : w4.heap.size ≤ b 10 := ((p13_ hF.out) (hw 10 (by decide))).2
                    have go := (p15_ hF.out) hd; have nb := (p14_ hF.out) (hw 10 (by decide)) hd
                    obtain ⟨v', w', hrun, hrel, hgr⟩ := go.app_f (subF (byt TA_) (byt TB_)) nb.has NB.out hB.size
                    refine step_run_append rfl (.tmp 83) (.tmp 93) 38 rfl ?a1 ?a2 hrun ?_
                    case a1 => exact e0
                    case a2 => exact e10
                    exact hK.out (ups s 94 (v')) b _ ⟨(Below.gro hB hgr go.f (Nat.le_refl _)), (p1_ hF.out), (p2_ hF.out), (p3_ hF.out), (p4_ hF.out), (fun _ h => nomatch (((p21_ hF.out) (hw 9 (by decide))).symm.trans h)), (p6_ hF.out), (p7_ hF.out), (p8_ hF.out), (p9_ hF.out), (fun _ h => nomatch (((p22_ hF.out) (hw 9 (by decide))).symm.trans h)), (p11_ hF.out), (p12_ hF.out), (p13_ hF.out), (fun _ h => nomatch h), (fun h => nomatch h), (fun _ => hrel), (fun h => absurd ((p20_ hF.out) h) (by simp [hd])), (p18_ hF.out), (p19_ hF.out), (fun _ => rfl), (p21_ hF.out), (p22_ hF.out), (((q23_ hF.out)).grown hgr NFV.out)⟩
                  refine StepsF.cons (o := _) rfl (ws := [11, 11, 0, 1, 2, 3, 4, 5, 6, 7, 8, 9, 10, 11]) (by kernel_rfl) (by decide) (fun d s b w hF hd hw K_ hK => ?_) ?_
                  · have hB : Below w4.heap.size w4 w := (p0_ hF.out)
                    have e0 : s 83 = .slice pf n cf := (p1_ hF.out) (hw 0 (by decide))
                    have e1 : s 84 = .agg (nums .u8 (kfR (clampF kq)) 32).toArray := (p2_ hF.out) (hw 1 (by decide))
                    have e2 : s 85 = .slice pa Na ca := (p3_ hF.out) (hw 2 (by decide))
                    have e3 : s 86 = .slice (some ⟨(b 3), 0, none⟩) 1 1 := ((p4_ hF.out) (hw 3 (by decide))).1
                    have le3 : w4.heap.size ≤ b 3 := ((p4_ hF.out) (hw 3 (by decide))).2
                    have e4 : s 87 = .agg (nums .u8 (byt TA_) 16).toArray := (p6_ hF.out) (hw 4 (by decide))
                    have e5 : s 88 = .agg (nums .u8 (kfR (clampF kq)) 32).toArray := (p7_ hF.out) (hw 5 (by decide))
                    have e6 : s 89 = .slice pb Nb cb := (p8_ hF.out) (hw 6 (by decide))
                    have e7 : s 90 = .slice (some ⟨(b 7), 0, none⟩) 1 1 := ((p9_ hF.out) (hw 7 (by decide))).1
                    have le7 : w4.heap.size ≤ b 7 := ((p9_ hF.out) (hw 7 (by decide))).2
                    have e8 : s 91 = .agg (nums .u8 (byt TB_) 16).toArray := (p11_ hF.out) (hw 8 (by decide))
                    have e9 : s 92 = .agg (nums .u8 (subF (byt TA_) (byt TB_)) 16).toArray := (p12_ hF.out) (hw 9 (by decide))
                    have e10 : s 93 = .slice (some ⟨(b 10), 0, none⟩) 1 1 := ((p13_ hF.out) (hw 10 (by decide))).1
                    have le10 : w4.heap.size ≤ b 10 := ((p13_ hF.out) (hw 10 (by decide))).2
                    dsimp only
                    go_simp
                    exact hK.out (ups (ups (ups (ups (ups (ups (ups (ups (ups (ups (ups (ups s 83 (.slice pf n cf)) 84 (.agg (nums .u8 (kfR (clampF kq)) 32).toArray)) 85 (.slice pa Na ca)) 86 (.slice (some ⟨(b 3), 0, none⟩) 1 1)) 87 (.agg (nums .u8 (byt TA_) 16).toArray)) 88 (.agg (nums .u8 (kfR (clampF kq)) 32).toArray)) 89 (.slice pb Nb cb)) 90 (.slice (some ⟨(b 7), 0, none⟩) 1 1)) 91 (.agg (nums .u8 (byt TB_) 16).toArray)) 92 (.agg (nums .u8 (subF (byt TA_) (byt TB_)) 16).toArray)) 93 (.slice (some ⟨(b 10), 0, none⟩) 1 1)) 9 (s 94)) b _ ⟨hB, (fun _ => rfl), (fun _ => rfl), (fun _ => rfl), (fun _ => ⟨rfl, le3⟩), (p5_ hF.out), (fun _ => rfl), (fun _ => rfl), (fun _ => rfl), (fun _ => ⟨rfl, le7⟩), (p10_ hF.out), (fun _ => rfl), (fun _ => rfl), (fun _ => ⟨rfl, le10⟩), (p14_ hF.out), (p15_ hF.out), (p16_ hF.out), (fun _ => rfl), (fun h => nomatch h), (fun _ => hw 0 (by decide)), (fun _ => hw 11 (by decide)), (p21_ hF.out), (p22_ hF.out), (q23_ hF.out)⟩
                  exact StepsF.nil
                intro d s b z1 hF hall
                replace hF := Lib.hid hF
                have hB : Below w4.heap.size w4 z1 := (p0_ hF.out)
                try dsimp only
                have e0 : s 83 = .slice pf n cf := (p1_ hF.out) (hall 0 (by decide))
                have e1 : s 84 = .agg (nums .u8 (kfR (clampF kq)) 32).toArray := (p2_ hF.out) (hall 1 (by decide))
                have e2 : s 85 = .slice pa Na ca := (p3_ hF.out) (hall 2 (by decide))
                have e3 : s 86 = .slice (some ⟨(b 3), 0, none⟩) 1 1 := ((p4_ hF.out) (hall 3 (by decide))).1
                have le3 : w4.heap.size ≤ b 3 := ((p4_ hF.out) (hall 3 (by decide))).2
                have e4 : s 87 = .agg (nums .u8 (byt TA_) 16).toArray := (p6_ hF.out) (hall 4 (by decide))
                have e5 : s 88 = .agg (nums .u8 (kfR (clampF kq)) 32).toArray := (p7_ hF.out) (hall 5 (by decide))
                have e6 : s 89 = .slice pb Nb cb := (p8_ hF.out) (hall 6 (by decide))
                have e7 : s 90 = .slice (some ⟨(b 7), 0, none⟩) 1 1 := ((p9_ hF.out) (hall 7 (by decide))).1
                have le7 : w4.heap.size ≤ b 7 := ((p9_ hF.out) (hall 7 (by decide))).2
                have e8 : s 91 = .agg (nums .u8 (byt TB_) 16).toArray := (p11_ hF.out) (hall 8 (by decide))
                have e9 : s 92 = .agg (nums .u8 (subF (byt TA_) (byt TB_)) 16).toArray := (p12_ hF.out) (hall 9 (by decide))
                have e10 : s 93 = .slice (some ⟨(b 10), 0, none⟩) 1 1 := ((p13_ hF.out) (hall 10 (by decide))).1
                have le10 : w4.heap.size ≤ b 10 := ((p13_ hF.out) (hall 10 (by decide))).2
                have f11 := (p16_ hF.out) (hall 11 (by decide))
                have e12 : s 9 = s 94 := (p17_ hF.out) (hall 12 (by decide))
                have xV := (q23_ hF.out)
                rw [e0, e1, e2, e3, e4, e5, e6, e7, e8, e9, e10, e12]
                clear hall hF e0 e1 e2 e3 e4 e5 e6 e7 e8 e9 e10 e12
                obtain ⟨L1, hz⟩ : ∃ x, x = b 3 := ⟨_, rfl⟩
                rw [← hz] at le3 ⊢
                clear hz
                obtain ⟨L2, hz⟩ : ∃ x, x = b 7 := ⟨_, rfl⟩
                rw [← hz] at le7 ⊢
                clear hz
                obtain ⟨L3, hz⟩ : ∃ x, x = b 10 := ⟨_, rfl⟩
                rw [← hz] at le10 ⊢
                clear hz
                obtain ⟨u1, hz⟩ : ∃ x, x = s 94 := ⟨_, rfl⟩
                rw [← hz] at f11 ⊢
                clear hz
                clear d s b
                rw [ED.out, rowD] at f11
                obtain ⟨pf2, cf2, rfl, _⟩ := row_form f11.f
                have TW2 := Lib.hid f11; have HC2 := Lib.hid hB
                clear f11 hB HV TW HC TGA TGB LSS ED KF CLA EQQ
                go_wp2_with (fail)
                go_roundw
                case rel => (first | exact ⟨k + 1, n + 1, addK n K0 kq, ps2, cs2, pf2, cf2, HLT.out, rfl, rfl, by go_num, SE1, TW2, HC2⟩ | ((repeat apply Exists.intro); exact ⟨⟨k + 1, n + 1, addK n K0 kq, ps2, cs2, pf2, cf2, HLT.out, rfl, rfl, by go_num, SE1, TW2, HC2⟩, rfl⟩))
                case measure => (have := hk60; simp [intOf]; omega)
        · by_cases hq : k < nk
          · obtain rfl : KN = k := by omega
            have i1 : (KN : Int) < (nk : Int) := by omega
            have i2 : decide ((KN : Int) < 60) = false := decide_eq_false (by have := HKN.out; omega)
            clear hlt hk hq
            have FCN := Lib.hid (fun DX => FC.out K0 n SE.out.2.1 SE.out.2.2 DX)
            have EQQ := Lib.hid (fun (a c : Nat → Int) w => eq16 a c w)
            have N60 := Lib.hid (show n ≤ 60 by have := SE.out.1; have := HKN.out; omega)
            have TWF := TW
            have HCF := HC
            clear FC SE TW HC BA BB KK HKB
            go_wp2_with (fail)
            go_loopw [97] (fun iv wq => ∃ (x : Nat), x ≤ n ∧ iv = .int .i64 x ∧ Hid (Below wr.heap.size wr wq)) (fun iv _ => (n - (intOf iv).toNat))
            case atStart => exact ⟨0, Nat.zero_le _, rfl, Lib.hid (Below.refl _ _)⟩
            case round =>
              obtain ⟨x, hx, rfl, HQ⟩ := hrel
              by_cases hltx : x < n
              · obtain ⟨G, rfl, hG⟩ := elem16 (TWF.out.later HQ.out).f hltx
                have x0 : (0 : Int) ≤ (x : Int) := by omega
                have x1 : (x : Int) < (n : Int) := by omega
                have x63 : IntKind.i64.wrap ((x : Int) + 1) = (x : Int) + 1 := IntWalk.i64_in _ (by have := N60.out; omega)
                obtain ⟨DX, eX⟩ : ∃ F, difF (clampF (K0 x)) f g Na Nb = F := ⟨_, rfl⟩
                rw [eX] at hG
                have HG_ := Lib.hid hG
                have HX1 := Lib.hid hltx
                clear hG eX hltx hx
                go_upto_region 24 with fail
                refine wp_region_lit ?_
                refine wpList_plain rfl fun K_ hK => ?_
                go_simp
                refine hK _ _ ?_
                clear hK K_
                refine wpList_load_mid rfl 29 _ rfl G (x * 16) rfl (nums .u8 DX 16) _ HG_.out.cell Try.underlying29 rfl (by kernel_rfl) ?_
                go_upto_region 25 with fail
                obtain ⟨wx, hW⟩ : ∃ W, W = wr.alloc (.cells (nums .u8 DX 16).toArray 29) := ⟨_, rfl⟩
                have hb : Below wr.heap.size wr wx := hW ▸ Below.al (Below.refl _ _)
                have HE : Hid (Own wr.heap.size (nums .u8 DX 16) wx) := Lib.hid (hW ▸ Own.newAt (by simp))
                rw [← hW]
                clear hW
                obtain ⟨E_, eE⟩ : ∃ X, X = wr.heap.size := ⟨_, rfl⟩
                rw [← eE] at HE ⊢
                clear eE
                have HQ8 := Lib.hid (Below.go HQ.out hb)
                replace HQ := HQ8
                clear hb HG_
                go_wp2_with (fail)
                go_loopw [18, 103] (fun nv jv wq => ∃ (y : Nat), y ≤ n ∧ nv = .int .i64 ((cntF (fun j => eqB (difF (clampF (K0 j)) f g Na Nb) DX 16) y : Nat) : Int) ∧ jv = .int .i64 y ∧ Hid (Below wx.heap.size wx wq)) (fun _ jv _ => (n - (intOf jv).toNat))
                case atStart => exact ⟨0, Nat.zero_le _, rfl, rfl, Lib.hid (Below.refl _ _)⟩
                case round =>
                  obtain ⟨y, hy, rfl, rfl, HZ⟩ := hrel
                  by_cases hlt2 : y < n
                  · have TF := (TWF.out.later HQ.out).later HZ.out
                    obtain ⟨G2, e2, hG2⟩ := elem16 TF.f hlt2
                    cases e2
                    have y0 : (0 : Int) ≤ (y : Int) := by omega
                    have y1 : (y : Int) < (n : Int) := by omega
                    have y63 : IntKind.i64.wrap ((y : Int) + 1) = (y : Int) + 1 := IntWalk.i64_in _ (by have := N60.out; omega)
                    obtain ⟨DY, eY⟩ : ∃ F, difF (clampF (K0 y)) f g Na Nb = F := ⟨_, rfl⟩
                    rw [eY] at hG2
                    have HG_ := Lib.hid hG2
                    have HY := Lib.hid hlt2
                    obtain ⟨z, ez⟩ : ∃ x, eqB DY DX 16 = x := ⟨_, rfl⟩
                    obtain ⟨cc, ecc⟩ : ∃ x, cntF (fun j => eqB (difF (clampF (K0 j)) f g Na Nb) DX 16) y = x := ⟨_, rfl⟩
                    have CB := cnt_le (fun j => eqB (difF (clampF (K0 j)) f g Na Nb) DX 16) y
                    rw [ecc] at CB ⊢
                    have c63 : IntKind.i64.wrap ((cc : Int) + 1) = (cc : Int) + 1 := IntWalk.i64_in _ (by have := N60.out; omega)
                    have EO := Lib.hid (show cntF (fun j => eqB (difF (clampF (K0 j)) f g Na Nb) DX 16) (y + 1) = cc + (if z = true then 1 else 0) by rw [cntF, ecc, eY, ez])
                    clear TF hG2 eY ecc CB hlt2 hy
                    go_upto_region 28 with fail
                    refine wp_region_lit ?_
                    refine wpList_plain rfl fun K_ hK => ?_
                    go_simp
                    refine hK _ _ ?_
                    clear hK K_
                    refine wpList_load_mid rfl 29 _ rfl G (y * 16) rfl (nums .u8 DY 16) _ HG_.out.cell Try.underlying29 rfl (by kernel_rfl) ?_
                    go_upto_region 29 with fail
                    obtain ⟨wy, hW⟩ : ∃ W, W = wr.alloc (.cells (nums .u8 DY 16).toArray 29) := ⟨_, rfl⟩
                    have hb : Below wr.heap.size wr wy := hW ▸ Below.al (Below.refl _ _)
                    have HJ : Hid (Own wr.heap.size (nums .u8 DY 16) wy) := Lib.hid (hW ▸ Own.newAt (by simp))
                    rw [← hW]
                    clear hW
                    obtain ⟨J_, eE⟩ : ∃ X, X = wr.heap.size := ⟨_, rfl⟩
                    rw [← eE] at HJ ⊢
                    clear eE
                    have hq := EQQ.out DY DX wy
                    rw [ez] at hq
                    have HX := Lib.hid ((HE.out.later HZ.out).later hb)
                    replace HZ := Lib.hid (Below.go HZ.out hb)
                    clear ez hb HG_
                    refine wp_region_lit ?_
                    refine wpList_load_mid rfl 29 _ rfl J_ 0 rfl (nums .u8 DY 16) _ HJ.out.cell Try.underlying29 rfl (by kernel_rfl) ?_
                    refine wpList_load_mid rfl 29 _ rfl E_ 0 rfl (nums .u8 DX 16) _ HX.out.cell Try.underlying29 rfl (by kernel_rfl) ?_
                    cases z with
                    | true =>
                      rw [if_pos rfl] at EO
                      go_wp2_with (fail)
                      go_roundw
                      case rel => (first | exact ⟨y + 1, HY.out, by rw [EO.out]; first | rfl | go_num, by go_num, HZ⟩ | ((repeat apply Exists.intro); exact ⟨⟨y + 1, HY.out, by rw [EO.out]; first | rfl | go_num, by go_num, HZ⟩, rfl⟩))
                      case measure => (have := HY.out; simp [intOf]; omega)
                    | false =>
                      rw [if_neg (by decide), Nat.add_zero] at EO
                      go_wp2_with (fail)
                      go_roundw
                      case rel => (first | exact ⟨y + 1, HY.out, by rw [EO.out]; first | done | rfl | go_num, by go_num, HZ⟩ | ((repeat apply Exists.intro); exact ⟨⟨y + 1, HY.out, by rw [EO.out]; first | done | rfl | go_num, by go_num, HZ⟩, rfl⟩))
                      case measure => (have := HY.out; simp [intOf]; omega)
                  · obtain rfl : n = y := by omega
                    have CB := FCN.out DX
                    obtain ⟨cc, ecc⟩ : ∃ x, cntF (fun j => eqB (difF (clampF (K0 j)) f g Na Nb) DX 16) n = x := ⟨_, rfl⟩
                    rw [ecc] at CB ⊢
                    have m2 := MP.out.2
                    obtain ⟨M8, eM⟩ : ∃ x, 8 * M = x := ⟨_, rfl⟩
                    have e8 : (8 : Int) * (M : Int) = (M8 : Int) := by omega
                    have e9 : IntKind.i64.wrap (M8 : Int) = (M8 : Int) := IntWalk.i64_in _ (by omega)
                    have q1 : decide ((M8 : Int) < (cc : Int)) = false := decide_eq_false (by omega)
                    have q2 : decide (M8 < cc) = false := decide_eq_false (by omega)
                    have q3 : ¬ (M8 : Int) < (cc : Int) := by omega
                    have HQ2 := Lib.hid (Below.go HQ8.out HZ.out)
                    clear hlt2 hy ecc CB m2 eM HZ
                    go_wp2_with (fail)
                    go_roundw
                    case rel => (first | exact ⟨x + 1, HX1.out, by go_num, HQ2⟩ | ((repeat apply Exists.intro); exact ⟨⟨x + 1, HX1.out, by go_num, HQ2⟩, rfl⟩))
                    case measure => (have := HX1.out; simp [intOf]; omega)
              · obtain rfl : n = x := by omega
                have m0 : (0 : Int) < (M : Int) := by have := MP.out.1; omega
                have m0n : decide (0 < M) = true := decide_eq_true MP.out.1
                have HBF := Lib.hid (Below.go (Below.go HW.out HCF.out) HQ.out)
                clear hltx hx HQ
                go_wp2_with (fail)
                go_at_call 10
                refine (works_any _).mono ?_
                rintro e we ⟨rfl, hb⟩
                go_wp2_with (fail)
                go_ret
                exact ⟨rfl, Below.go HBF.out hb⟩
          · obtain rfl : KN = k := by omega
            have i1 : decide ((KN : Int) < (nk : Int)) = false := decide_eq_false (by omega)
            have i1n : decide (KN < nk) = false := decide_eq_false hq
            have i3 : ¬ (KN : Int) < (nk : Int) := by omega
            clear hlt hk hq
            have FCN := Lib.hid (fun DX => FC.out K0 n SE.out.2.1 SE.out.2.2 DX)
            have EQQ := Lib.hid (fun (a c : Nat → Int) w => eq16 a c w)
            have N60 := Lib.hid (show n ≤ 60 by have := SE.out.1; have := HKN.out; omega)
            have TWF := TW
            have HCF := HC
            clear FC SE TW HC BA BB KK HKB
            go_wp2_with (fail)
            go_loopw [97] (fun iv wq => ∃ (x : Nat), x ≤ n ∧ iv = .int .i64 x ∧ Hid (Below wr.heap.size wr wq)) (fun iv _ => (n - (intOf iv).toNat))
            case atStart => exact ⟨0, Nat.zero_le _, rfl, Lib.hid (Below.refl _ _)⟩
            case round =>
              obtain ⟨x, hx, rfl, HQ⟩ := hrel
              by_cases hltx : x < n
              · obtain ⟨G, rfl, hG⟩ := elem16 (TWF.out.later HQ.out).f hltx
                have x0 : (0 : Int) ≤ (x : Int) := by omega
                have x1 : (x : Int) < (n : Int) := by omega
                have x63 : IntKind.i64.wrap ((x : Int) + 1) = (x : Int) + 1 := IntWalk.i64_in _ (by have := N60.out; omega)
                obtain ⟨DX, eX⟩ : ∃ F, difF (clampF (K0 x)) f g Na Nb = F := ⟨_, rfl⟩
                rw [eX] at hG
                have HG_ := Lib.hid hG
                have HX1 := Lib.hid hltx
                clear hG eX hltx hx
                go_upto_region 24 with fail
                refine wp_region_lit ?_
                refine wpList_plain rfl fun K_ hK => ?_
                go_simp
                refine hK _ _ ?_
                clear hK K_
                refine wpList_load_mid rfl 29 _ rfl G (x * 16) rfl (nums .u8 DX 16) _ HG_.out.cell Try.underlying29 rfl (by kernel_rfl) ?_
                go_upto_region 25 with fail
                obtain ⟨wx, hW⟩ : ∃ W, W = wr.alloc (.cells (nums .u8 DX 16).toArray 29) := ⟨_, rfl⟩
                have hb : Below wr.heap.size wr wx := hW ▸ Below.al (Below.refl _ _)
                have HE : Hid (Own wr.heap.size (nums .u8 DX 16) wx) := Lib.hid (hW ▸ Own.newAt (by simp))
                rw [← hW]
                clear hW
                obtain ⟨E_, eE⟩ : ∃ X, X = wr.heap.size := ⟨_, rfl⟩
                rw [← eE] at HE ⊢
                clear eE
                have HQ8 := Lib.hid (Below.go HQ.out hb)
                replace HQ := HQ8
                clear hb HG_
                go_wp2_with (fail)
                go_loopw [18, 103] (fun nv jv wq => ∃ (y : Nat), y ≤ n ∧ nv = .int .i64 ((cntF (fun j => eqB (difF (clampF (K0 j)) f g Na Nb) DX 16) y : Nat) : Int) ∧ jv = .int .i64 y ∧ Hid (Below wx.heap.size wx wq)) (fun _ jv _ => (n - (intOf jv).toNat))
                case atStart => exact ⟨0, Nat.zero_le _, rfl, rfl, Lib.hid (Below.refl _ _)⟩
                case round =>
                  obtain ⟨y, hy, rfl, rfl, HZ⟩ := hrel
                  by_cases hlt2 : y < n
                  · have TF := (TWF.out.later HQ.out).later HZ.out
                    obtain ⟨G2, e2, hG2⟩ := elem16 TF.f hlt2
                    cases e2
                    have y0 : (0 : Int) ≤ (y : Int) := by omega
                    have y1 : (y : Int) < (n : Int) := by omega
                    have y63 : IntKind.i64.wrap ((y : Int) + 1) = (y : Int) + 1 := IntWalk.i64_in _ (by have := N60.out; omega)
                    obtain ⟨DY, eY⟩ : ∃ F, difF (clampF (K0 y)) f g Na Nb = F := ⟨_, rfl⟩
                    rw [eY] at hG2
                    have HG_ := Lib.hid hG2
                    have HY := Lib.hid hlt2
                    obtain ⟨z, ez⟩ : ∃ x, eqB DY DX 16 = x := ⟨_, rfl⟩
                    obtain ⟨cc, ecc⟩ : ∃ x, cntF (fun j => eqB (difF (clampF (K0 j)) f g Na Nb) DX 16) y = x := ⟨_, rfl⟩
                    have CB := cnt_le (fun j => eqB (difF (clampF (K0 j)) f g Na Nb) DX 16) y
                    rw [ecc] at CB ⊢
                    have c63 : IntKind.i64.wrap ((cc : Int) + 1) = (cc : Int) + 1 := IntWalk.i64_in _ (by have := N60.out; omega)
                    have EO := Lib.hid (show cntF (fun j => eqB (difF (clampF (K0 j)) f g Na Nb) DX 16) (y + 1) = cc + (if z = true then 1 else 0) by rw [cntF, ecc, eY, ez])
                    clear TF hG2 eY ecc CB hlt2 hy
                    go_upto_region 28 with fail
                    refine wp_region_lit ?_
                    refine wpList_plain rfl fun K_ hK => ?_
                    go_simp
                    refine hK _ _ ?_
                    clear hK K_
                    refine wpList_load_mid rfl 29 _ rfl G (y * 16) rfl (nums .u8 DY 16) _ HG_.out.cell Try.underlying29 rfl (by kernel_rfl) ?_
                    go_upto_region 29 with fail
                    obtain ⟨wy, hW⟩ : ∃ W, W = wr.alloc (.cells (nums .u8 DY 16).toArray 29) := ⟨_, rfl⟩
                    have hb : Below wr.heap.size wr wy := hW ▸ Below.al (Below.refl _ _)
                    have HJ : Hid (Own wr.heap.size (nums .u8 DY 16) wy) := Lib.hid (hW ▸ Own.newAt (by simp))
                    rw [← hW]
                    clear hW
                    obtain ⟨J_, eE⟩ : ∃ X, X = wr.heap.size := ⟨_, rfl⟩
                    rw [← eE] at HJ ⊢
                    clear eE
                    have hq := EQQ.out DY DX wy
                    rw [ez] at hq
                    have HX := Lib.hid ((HE.out.later HZ.out).later hb)
                    replace HZ := Lib.hid (Below.go HZ.out hb)
                    clear ez hb HG_
                    refine wp_region_lit ?_
                    refine wpList_load_mid rfl 29 _ rfl J_ 0 rfl (nums .u8 DY 16) _ HJ.out.cell Try.underlying29 rfl (by kernel_rfl) ?_
                    refine wpList_load_mid rfl 29 _ rfl E_ 0 rfl (nums .u8 DX 16) _ HX.out.cell Try.underlying29 rfl (by kernel_rfl) ?_
                    cases z with
                    | true =>
                      rw [if_pos rfl] at EO
                      go_wp2_with (fail)
                      go_roundw
                      case rel => (first | exact ⟨y + 1, HY.out, by rw [EO.out]; first | rfl | go_num, by go_num, HZ⟩ | ((repeat apply Exists.intro); exact ⟨⟨y + 1, HY.out, by rw [EO.out]; first | rfl | go_num, by go_num, HZ⟩, rfl⟩))
                      case measure => (have := HY.out; simp [intOf]; omega)
                    | false =>
                      rw [if_neg (by decide), Nat.add_zero] at EO
                      go_wp2_with (fail)
                      go_roundw
                      case rel => (first | exact ⟨y + 1, HY.out, by rw [EO.out]; first | done | rfl | go_num, by go_num, HZ⟩ | ((repeat apply Exists.intro); exact ⟨⟨y + 1, HY.out, by rw [EO.out]; first | done | rfl | go_num, by go_num, HZ⟩, rfl⟩))
                      case measure => (have := HY.out; simp [intOf]; omega)
                  · obtain rfl : n = y := by omega
                    have CB := FCN.out DX
                    obtain ⟨cc, ecc⟩ : ∃ x, cntF (fun j => eqB (difF (clampF (K0 j)) f g Na Nb) DX 16) n = x := ⟨_, rfl⟩
                    rw [ecc] at CB ⊢
                    have m2 := MP.out.2
                    obtain ⟨M8, eM⟩ : ∃ x, 8 * M = x := ⟨_, rfl⟩
                    have e8 : (8 : Int) * (M : Int) = (M8 : Int) := by omega
                    have e9 : IntKind.i64.wrap (M8 : Int) = (M8 : Int) := IntWalk.i64_in _ (by omega)
                    have q1 : decide ((M8 : Int) < (cc : Int)) = false := decide_eq_false (by omega)
                    have q2 : decide (M8 < cc) = false := decide_eq_false (by omega)
                    have q3 : ¬ (M8 : Int) < (cc : Int) := by omega
                    have HQ2 := Lib.hid (Below.go HQ8.out HZ.out)
                    clear hlt2 hy ecc CB m2 eM HZ
                    go_wp2_with (fail)
                    go_roundw
                    case rel => (first | exact ⟨x + 1, HX1.out, by go_num, HQ2⟩ | ((repeat apply Exists.intro); exact ⟨⟨x + 1, HX1.out, by go_num, HQ2⟩, rfl⟩))
                    case measure => (have := HX1.out; simp [intOf]; omega)
              · obtain rfl : n = x := by omega
                have m0 : (0 : Int) < (M : Int) := by have := MP.out.1; omega
                have m0n : decide (0 < M) = true := decide_eq_true MP.out.1
                have HBF := Lib.hid (Below.go (Below.go HW.out HCF.out) HQ.out)
                clear hltx hx HQ
                go_wp2_with (fail)
                go_at_call 10
                refine (works_any _).mono ?_
                rintro e we ⟨rfl, hb⟩
                go_wp2_with (fail)
                go_ret
                exact ⟨rfl, Below.go HBF.out hb⟩
end Go.Proofs.Ytbofihejegbfhaa

/- NZo -/
namespace Go.Proofs.Ytbofihejegbfhaa
set_option linter.unusedVariables false
set_option maxRecDepth 2000
set_option linter.unusedSimpArgs false
open Go.ChangeShapes Go.WideShapes Go.ChangeAt Go.RowKit Go.Joins Go.Deep
def isA (cs : List Value) : Prop := ∃ h : Nat → Int, cs = nums .u8 h 16 ∧ ∀ i, i < 16 → inB (h i)
theorem cs_a16 {H : Type} {enc : TypeId × Value → H} {w : World} {base : Nat} {spare : Nat → Bool} {held : Bool} {fuel : Nat} {cs : List Value} {x : DataW H × List MemPlace}
    (h : DataW.trod enc Try.prog w base spare held fuel 29 cs = some x) : isA cs := by
  obtain ⟨zs, hl, rfl, hw⟩ := trod_arr Try.underlying29 Try.underlying5 (by kernel_rfl) (by kernel_rfl) h
  refine ⟨fun i => zs.getD i 0, by rw [map_nums, hl], fun i hi => u8_wf (hw _ ?_)⟩
  have : i < zs.length := by omega
  simp [this]
theorem sl_keys {w : World} {p : Option Addr} {n cap : Nat} {f : Nat → List Value} (h : Sl w p n cap 16 f isA) : ∃ k0, Keys w p n k0 ∧ ∀ j, j < n → ∀ i, i < 16 → inB (k0 j i) := by
  have ch : ∀ k, ∃ z : Nat → Int, k < n → f k = nums .u8 z 16 ∧ ∀ i, i < 16 → inB (z i) := fun k => by
    by_cases hk : k < n
    · obtain ⟨z, hz⟩ := h.q k hk
      exact ⟨z, fun _ => hz⟩
    · exact ⟨fun _ => 0, fun e => absurd e hk⟩
  refine ⟨fun k => Classical.choose (ch k), fun k hk => ?_, fun j hj => (Classical.choose_spec (ch j) hj).2⟩
  rcases h.row with h0 | ⟨blk, off, hp, hb, hr⟩
  · omega
  · refine ⟨blk, off, hp, ?_⟩
    have h1 := hr k hk
    rwa [(Classical.choose_spec (ch k) hk).1] at h1
end Go.Proofs.Ytbofihejegbfhaa

/- PNFew -/
namespace Go.Proofs.Ytbofihejegbfhaa.polyFew
set_option linter.unusedVariables false
set_option maxRecDepth 2000
open Go.ChangeShapes Go.WideShapes Go.ChangeAt Go.RowKit Go.Joins

theorem own : ownKnob Try.prog.godebug = none := by kernel_rfl
theorem laidOut : laidOutB Try.prog = true := by kernel_rfl

set_option maxRecDepth 100000 in
theorem lifted (os : Os) (started : os.Started) (H : Type) (enc : TypeId × Value → H) :
    ReturnsInHanded {} Try.checked os 4 .any (Rows.polyFewSpec.pre6 enc Try.prog Try.f4 Rows.polyFewRow.domain false) (Rows.polyFewSpec.post enc Try.prog Try.f4 false true false false) := by
  refine returnsInHanded_of_change (C := Try.checked) own started (by kernel_rfl) Try.func4
    (ChangeSpec.witness6 (enc := enc) (C := Try.checked) false ⟨#[], #[.slice none 0 0, .slice none 0 0, .slice none 0 0], []⟩ 8 (by kernel_rfl) (by kernel_rfl) (by kernel_rfl) (by kernel_rfl)) ?_
  intro W base args ds gs before hval0 hW _ _
  have hval : ∀ (j : Nat) t v, Try.f4.params[j]? = some t → args[j]? = some v → Value.okWide Try.prog W .any base t v := hval0
  have hW' := hW
  obtain ⟨p, q, hA0, hV, rfl, _, _⟩ := hW
  have hA : DataW.TrodAll enc Try.prog W 0 (fun _ => true) true Try.f4.params.toList args.toList ds p := hA0
  rw [Try.params4] at hA hval
  obtain ⟨v0, v1, v2, d0, d1, d2, p0, p1, p2, rfl, rfl, rfl, g0, g1, g2⟩ := trodAll_three hA
  obtain ⟨rfl, rfl⟩ := trodVars_none hV
  simp only [List.append_nil] at hW'
  clear hA0
  have lt0 : ∀ x ∈ p0, x.block < W.heap.size := fun x hx => by simpa using hW'.lt x (by simp [hx])
  have st0 := fun (W' : World) (hn : Below W.heap.size W W') => Below.trod laidOut (by kernel_rfl) (of_decide_eq_true (by kernel_rfl)) g0 hn lt0
  have lt1 : ∀ x ∈ p1, x.block < W.heap.size := fun x hx => by simpa using hW'.lt x (by simp [hx])
  have st1 := fun (W' : World) (hn : Below W.heap.size W W') => Below.trod laidOut (by kernel_rfl) (of_decide_eq_true (by kernel_rfl)) g1 hn lt1
  have lt2 : ∀ x ∈ p2, x.block < W.heap.size := fun x hx => by simpa using hW'.lt x (by simp [hx])
  have st2 := fun (W' : World) (hn : Below W.heap.size W W') => Below.trod laidOut (by kernel_rfl) (of_decide_eq_true (by kernel_rfl)) g2 hn lt2
  obtain ⟨p0_, n0, c0, f0, rfl, sl0⟩ := open_sl (S := 1) isB Try.underlying26 (by kernel_rfl) (by decide) (fun fuel cs x hx hl => cs_byte hx) (hval 0 26 v0 rfl rfl) g0 lt0
  obtain ⟨p1_, n1, c1, f1, rfl, sl1⟩ := open_sl (S := 1) isB Try.underlying26 (by kernel_rfl) (by decide) (fun fuel cs x hx hl => cs_byte hx) (hval 1 26 v1 rfl rfl) g1 lt1
  obtain ⟨p2_, n2, c2, f2, rfl, sl2⟩ := open_sl (S := 16) isA Try.underlying38 (by kernel_rfl) (by decide) (fun fuel cs x hx hl => cs_a16 hx) (hval 2 38 v2 rfl rfl) g2 lt2
  obtain ⟨g0_, hby0, hgb0⟩ := sl_byt sl0
  obtain ⟨g1_, hby1, hgb1⟩ := sl_byt sl1
  obtain ⟨kq0, hkk, hkb⟩ := sl_keys sl2
  obtain ⟨Na, hNa⟩ : ∃ m, m = min n0 32 := ⟨_, rfl⟩
  obtain ⟨Nb, hNb⟩ : ∃ m, m = min n1 32 := ⟨_, rfl⟩
  clear hval hval0
  refine (Few_core g0_ g1_ kq0 p0_ p1_ p2_ n0 c0 n1 c1 n2 c2 Na Nb (min n2 60) (by split <;> omega) (by split <;> omega) rfl sl0.le sl0.max sl1.le sl1.max sl2.le sl2.max (fun j hj => hgb0 j (by omega)) (fun j hj => hgb1 j (by omega)) hkb W (byt_take hby0 (by omega)) (byt_take hby1 (by omega)) hkk).mono fun e W' ⟨he, hg⟩ => ?_
  subst he
  exact ⟨_, rfl, _, _, _, [], _, [], hW', trodAll_mk1 (shut_bool Try.underlying4 _), trodAll_mk3 (st0 _ hg) (st1 _ hg) (st2 _ hg), rfl, hg.frame _, fun h => by cases h⟩

theorem proved : Rows.PolyFewSaid :=
  OpenClaim.holds_of_wide 4 Try.f4 rfl rfl rfl rfl rfl rfl rfl ⟨rfl, rfl, rfl, rfl, rfl⟩ rfl rfl rfl rfl rfl (by kernel_rfl) Try.func4 (by kernel_rfl)
    (of_decide_eq_true (by kernel_rfl)) (by unfold Func.isWrapper; first | (rw [if_pos (by decide +kernel)]; kernel_rfl) | (rw [if_neg (by decide +kernel)]; exact ⟨rfl, rfl⟩))
    (fun os started H enc _ => lifted os started H enc)
end Go.Proofs.Ytbofihejegbfhaa.polyFew
