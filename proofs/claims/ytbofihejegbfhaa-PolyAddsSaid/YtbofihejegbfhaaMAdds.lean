/- NZj NZi NZl PNAdds, in one text. -/
import Derived.Test.YtbofihejegbfhaaNZh
import Derived.Test.YtbofihejegbfhaaCW
import Derived.Lib.Hide
import Derived.Laws.OwnMore
import Derived.ArgAppend
import Derived.Test.YtbofihejegbfhaaNR
import Derived.Test.YtbofihejegbfhaaNX
import Derived.LoopN
import Derived.LoopTactic
import Derived.Deep.Onto
import Derived.Test.YtbofihejegbfhaaRows
import Derived.Test.YtbofihejegbfhaaPC
import Derived.Test.YtbofihejegbfhaaPE
import Derived.Test.YtbofihejegbfhaaPF
import Derived.Test.YtbofihejegbfhaaPS
import Derived.Test.YtbofihejegbfhaaPHb
import Derived.WalkKit
import Derived.ProofKit
import Derived.OpenShut
import Derived.ChangeSlices
import Derived.Lib.SmallJoins
/- NZj -/
namespace Go.Proofs.Ytbofihejegbfhaa
set_option linter.unusedVariables false
set_option maxRecDepth 2000
set_option linter.unusedSimpArgs false
open Go.RowKit
theorem row_but {w w' : World} {base s n K : Nat} {e : TypeId} {v : Value} {xs : List Value} (h : w.ownsRow base e s v n xs) (hb : But K w w') (hK : v.ownBlock ≠ some K) : w'.ownsRow base e s v n xs := by
  refine ⟨h.1, ?_⟩
  rcases h.2 with h0 | ⟨g, cap, cur, rfl, hg, hh, hr⟩
  · exact .inl h0
  · exact .inr ⟨g, cap, cur, rfl, hg, (hb.heap g (Array.getElem?_eq_some_iff.1 hh).1 (fun e => hK (by simp [Value.ownBlock, e]))).trans hh, hr⟩
/-- an append to an own row: in place, or into a new block -/
theorem append_fresh {w : World} {base L ty : Nat} {v : Value} {xs : List Value} (h : w.ownsRow base 5 1 v L xs) (q : Option Addr) (m c : Nat) (f : Nat → Int) (hq : Byt w q m f) (hL : L + m ≤ 65536) (hb : base ≤ w.heap.size) :
    ∃ v' w', (Builtin.append_ #[26, 26] ty #[v, .slice q m c]).run Try.prog w = .ok v' w' ∧ w'.ownsRow base 5 1 v' (L + m) (xs ++ nums .u8 f m) ∧ w.grownBy w' v.ownBlock ∧ (v'.ownBlock = v.ownBlock ∨ ∀ b, v'.ownBlock = some b → w.heap.size ≤ b) := by
  obtain ⟨i0, hi, hz0, hz1, hz2⟩ := infoB_parts
  rcases hq with h0 | ⟨b, off, rfl, hs⟩
  · subst h0
    obtain ⟨p, c1, rfl, h1⟩ := row_form h
    refine ⟨_, w, run_append_none p h1 Try.underlying26 hi q c, ?_, World.grownBy.refl w _, .inl rfl⟩
    rw [Nat.add_zero, show nums .u8 f 0 = [] from rfl, List.append_nil]
    exact h
  · have nw : ∀ j u, (nums .u8 f m)[j]? = some u → w.cell? ((⟨b, off, none⟩ : Addr).add j) = some u := fun j u hj => by rw [Addr.add_mid]; exact hs.cell j u hj
    rcases h.2 with ⟨rfl, rfl⟩ | ⟨G, cap, cur, rfl, hG, hh, hc, hm, hr⟩
    · obtain rfl : xs = [] := List.eq_nil_of_length_eq_zero (by simpa using h.1)
      obtain ⟨v', w', hrun, r1, r2, _⟩ := run_append_own (P := Try.prog) w w.heap.size 26 ty 5 i0 (.int .u8 0) 1 1 Try.underlying26 hi hz0 hz1 hz2 rfl (by decide) (.slice none 0 0) 0 [] (World.ownsRow_nil _ _ _ _) ⟨b, off, none⟩ m c _ (by rw [nums_length, Nat.mul_one]) nw (nums_one _ _ _) (by unfold maxLen; omega) (by omega) (Nat.le_refl _)
      exact ⟨v', w', hrun, r1.mono hb, r2, .inr (row_ge r1)⟩
    · by_cases hroom : L + m ≤ cap
      · obtain ⟨w', hrun, r1, r2⟩ := run_append_fits (P := Try.prog) w base 26 ty 5 i0 1 Try.underlying26 hi hz1 G L cap xs h ⟨b, off, none⟩ m c _ (by rw [nums_length, Nat.mul_one]) nw (nums_one _ _ _) hroom
        exact ⟨_, w', hrun, r1, r2, .inl rfl⟩
      · obtain ⟨v', w', hrun, r1, r2⟩ := run_append_arg_grows (P := Try.prog) w 26 ty 5 i0 (.int .u8 0) 1 1 Try.underlying26 hi hz0 hz1 hz2 rfl (by decide) ⟨G, 0, none⟩ L cap xs (by rw [h.1]) (h.cells (g := G) rfl) ⟨b, off, none⟩ m c _ (by rw [nums_length, Nat.mul_one]) nw (by omega) (by unfold maxLen; omega) (by omega)
        exact ⟨v', w', hrun, r1.mono hb, ⟨r2.os, r2.tape, r2.output, r2.size, fun k hk _ => r2.block k hk (by simp)⟩, .inr (row_ge r1)⟩
theorem wpList_run_append {P : Program} {w w' : World} {ops : Array Oper} {rest : List Oper} {o : Oper} {a : Act} {Q : Exit → Act → World → Prop} {v vx v' : Value} (hgd : o.guard = none) (s x : Operand) (t : TypeId)
    (ho : o.op = .call { callee := .builtin .append, args := #[s, x], argTypes := #[t, t] }) (hs : a.eval s = v) (hx : a.eval x = vx) (hrun : (Builtin.append_ #[t, t] o.type #[v, vx]).run P w = .ok v' w') (h : wpList P ops Q rest (a.put o.dst v') w') : wpList P ops Q (o :: rest) a w :=
  wpList_plain hgd fun _ hK => by
    unfold Oper.wp execOp
    simp only [ho, resolve, invoke, builtin, Sem.run_bind, Sem.run_pure, Result.andThen_ok, List.map_toArray, List.map_cons, List.map_nil, hs, hx, hrun]
    exact hK _ _ h
theorem wpList_append_f {w : World} {ops : Array Oper} {rest : List Oper} {o : Oper} {a : Act} {Q : Exit → Act → World → Prop} (hgd : o.guard = none) (s x : Operand)
    (ho : o.op = .call { callee := .builtin .append, args := #[s, x], argTypes := #[26, 26] }) (base : Nat) (v : Value) (L : Nat) (xs : List Value) (hs : a.eval s = v) (hown : w.ownsRow base 5 1 v L xs)
    (q : Option Addr) (n c : Nat) (f : Nat → Int) (hx : a.eval x = .slice q n c) (hby : Byt w q n f) (hL : L + n ≤ 65536) (hbase : base ≤ w.heap.size)
    (h : ∀ v' w', w'.ownsRow base 5 1 v' (L + n) (xs ++ nums .u8 f n) → w.grownBy w' v.ownBlock → (v'.ownBlock = v.ownBlock ∨ ∀ b, v'.ownBlock = some b → w.heap.size ≤ b) → wpList Try.prog ops Q rest (a.put o.dst v') w') : wpList Try.prog ops Q (o :: rest) a w := by
  obtain ⟨v', w', hrun, h1, h2, h3⟩ := append_fresh (ty := o.type) hown q n c f hby hL hbase
  exact wpList_run_append hgd s x 26 ho hs hx hrun (h v' w' h1 h2 h3)
/-- the data of a Mac: f's first n bytes, not in K, and not in the row's block -/
def MD (w : World) (p : Option Addr) (n c : Nat) (g : Nat → Int) (K : Nat) (row : Option Nat) : Prop := n ≤ c ∧ c ≤ 9223372036854775807 ∧ (p = none → n = 0) ∧ BytN w p n g K ∧ ∀ a, p = some a → a.block < w.heap.size ∧ row ≠ some a.block
theorem MD.later {w w' : World} {p : Option Addr} {n c K : Nat} {g : Nat → Int} {row : Option Nat} (h : MD w p n c g K row) (hb : Below w.heap.size w w') (hK : K < w.heap.size) : MD w' p n c g K row :=
  ⟨h.1, h.2.1, h.2.2.1, h.2.2.2.1.but (But.of hb hK), fun a ha => ⟨Nat.lt_of_lt_of_le (h.2.2.2.2 a ha).1 hb.size, (h.2.2.2.2 a ha).2⟩⟩
theorem DatK.md {w wb : World} {v : Value} {n base K : Nat} {g : Nat → Int} {p0 : Option Addr} {row : Option Nat} (h : DatK w v n g base K p0) (hn : n ≤ 65536) (hp : ∀ a, p0 = some a → a.block < wb.heap.size ∧ row ≠ some a.block) (hw : wb.heap.size ≤ w.heap.size) (hr : ∀ b, row = some b → b < base) (hK : K < base) : ∃ p c, v = .slice p n c ∧ MD w p n c g K row := by
  rcases h with ⟨p, h1, h2, h3, h4⟩ | h
  · exact ⟨p, n, h1, Nat.le_refl _, by omega, h2, h3, fun a ha => ⟨Nat.lt_of_lt_of_le (hp a (h4.symm.trans ha)).1 hw, (hp a (h4.symm.trans ha)).2⟩⟩
  · rcases h.2 with ⟨rfl, rfl⟩ | ⟨G, cap, cur, rfl, hG, hh, hc, hm, _⟩
    · exact ⟨none, 0, rfl, Nat.le_refl _, by omega, fun _ => rfl, .inl rfl, fun a ha => nomatch ha⟩
    · refine ⟨_, cap, rfl, hc, hm, (fun e => nomatch e), .inr ⟨G, 0, rfl, by omega, (row_has' h).1⟩, fun a ha => ?_⟩
      cases ha
      exact ⟨(row_has' h).1.lt, fun e => by have := hr G e; omega⟩
theorem MD.app {w w' : World} {p : Option Addr} {n c K : Nat} {g : Nat → Int} {row row' : Option Nat} (h : MD w p n c g K row) (hg : w.grownBy w' row) (hf : row' = row ∨ ∀ b, row' = some b → w.heap.size ≤ b) : MD w' p n c g K row' := by
  refine ⟨h.1, h.2.1, h.2.2.1, ?_, fun a ha => ⟨Nat.lt_of_lt_of_le (h.2.2.2.2 a ha).1 hg.size, ?_⟩⟩
  · rcases h.2.2.2.1 with h0 | ⟨b, off, e1, e2, e3⟩
    · exact .inl h0
    · exact .inr ⟨b, off, e1, e2, e3.grown hg (h.2.2.2.2 _ e1).2⟩
  · rcases hf with rfl | hf
    · exact (h.2.2.2.2 a ha).2
    · intro e
      have := hf _ e
      have := (h.2.2.2.2 a ha).1
      omega
/-- a list of one part that goes on where the data end -/
theorem one_partN {w : World} {L K : Nat} {q : Option Addr} {m c a b : Nat} {f g : Nat → Int} (h : Own L [.slice q m c] w) (hb : BytN w q m f K) (hKL : L ≠ K) (hab : b = a + m) (hmc : m ≤ c) (hc : c ≤ 9223372036854775807) (hg : ∀ j, j < m → g (a + j) = f j) : PartsN w (some ⟨L, 0, none⟩) 1 g (fun k => if k = 0 then a else b) K := fun k hk => by
  obtain rfl : k = 0 := by omega
  refine ⟨L, 0, q, m, c, rfl, hKL, h.lt, h.at 0 _ rfl, hmc, hc, hab, ?_⟩
  rcases hb with h0 | ⟨b, off, e1, e0, e2⟩
  · exact .inl h0
  · refine .inr ⟨b, off, e1, e0, ?_⟩
    rw [nums_congr (g := f) .u8 (fun j hj => by show g (a + j) = f j; exact hg j hj)]
    exact e2
theorem row_cap_ {w : World} {base size n c : Nat} {e : TypeId} {p : Option Addr} {xs : List Value} (h : w.ownsRow base e size (.slice p n c) n xs) : n ≤ c ∧ c ≤ 9223372036854775807 := by
  rcases h.2 with ⟨h0, _⟩ | ⟨g, cap, cur, h0, _, _, h1, h2, _⟩
  · cases h0; decide
  · cases h0; unfold maxLen at h2; omega
theorem BytN.later {w w' : World} {q : Option Addr} {n K : Nat} {f : Nat → Int} (h : BytN w q n f K) (hb : Below w.heap.size w w') : BytN w' q n f K := by
  rcases h with h | ⟨b, off, h1, h2, h3⟩
  · exact .inl h
  · exact .inr ⟨b, off, h1, h2, h3.later hb⟩
end Go.Proofs.Ytbofihejegbfhaa

/- NZi -/
namespace Go.Proofs.Ytbofihejegbfhaa
set_option linter.unusedVariables false
set_option maxRecDepth 2000
set_option linter.unusedSimpArgs false
open Go.RowKit
attribute [local go_sem] nums_length

set_option maxHeartbeats 8000000 in
theorem Adds_core (kf g : Nat → Int) (T : Nat → Nat) (p : Option Addr) (np cp : Nat) (q : Nat → Option Addr) (m t cc : Nat → Nat) (f : Nat → Nat → Int) (KP : Nat) (ht : ∀ k, (if 300 < (m k : Int) then 300 else (m k : Int)) = (t k : Int)) (hKP : KP = min np 6) (hnc : np ≤ cp) (hcm : cp ≤ 9223372036854775807) (hk : ∀ i, i < 32 → inB (kf i)) (hT0 : T 0 = 0) (hT : ∀ k, T (k + 1) = T k + t k) (hT6 : ∀ k, k ≤ KP → T k ≤ 65536) (hTm : ∀ k, k ≤ KP → T k ≤ T KP) (hg : ∀ k j, k < KP → j < t k → g (T k + j) = f k j) (hgb : ∀ i, i < T KP → inB (g i)) (w : World) (hd : Data w p np q m cc f) :
    Calls Try.prog 3 #[(.agg (nums .u8 kf 32).toArray), .slice p np cp] w fun e w' => e = .returned (.bool true) ∧ Below w.heap.size w w' := by
  have HTT := Lib.hid ht; have HKP := Lib.hid hKP; have HNC := Lib.hid hnc; have HCM := Lib.hid hcm; have KB := Lib.hid hk; have HT0 := Lib.hid hT0; have HT := Lib.hid hT; have HT6 := Lib.hid hT6; have HTM := Lib.hid hTm; have HG := Lib.hid hg; have GB := Lib.hid hgb; have HD := Lib.hid hd
  clear ht hKP hnc hcm hk hT0 hT hT6 hTm hg hgb hd
  go_enter Try.func3, Try.ntmps3
  go_upto_region 1 with fail
  obtain ⟨W0, hW⟩ : ∃ W0, W0 = (w.alloc (.cells (nums .u8 kf 32).toArray 22)) := ⟨_, rfl⟩
  have hB0 : Below w.heap.size w W0 := hW ▸ (Below.al (Below.refl _ _))
  have HY : Hid (Own w.heap.size (nums .u8 kf 32) W0) := Lib.hid (hW ▸ (show Own w.heap.size (nums .u8 kf 32) (w.alloc (.cells (nums .u8 kf 32).toArray 22)) from Own.newAt (by simp)))
  rw [← hW]
  clear hW
  obtain ⟨Y, eY⟩ : ∃ X, X = w.heap.size := ⟨_, rfl⟩
  rw [← eY] at HY ⊢
  have Yw : w.heap.size ≤ Y := by omega
  clear eY
  refine wp_region_lit ?_
  refine wpList_load_mid rfl 22 _ rfl Y 0 rfl (nums .u8 kf 32) _ HY.out.cell Try.underlying22 rfl (by kernel_rfl) ?_
  go_wp2_with (fail)
  go_at_call 5
  refine (New_any kf _).mono ?_
  rintro e w1 ⟨rfl, hK, hb, -⟩
  have YK : Y < W0.heap.size := HY.out.lt
  have Kw : w.heap.size ≤ W0.heap.size + 1 := by have := hB0.size; omega
  have HY1 := Lib.hid (HY.out.later hb)
  obtain ⟨K, eK⟩ : ∃ X, X = W0.heap.size + 1 := ⟨_, rfl⟩
  rw [← eK] at hK Kw ⊢
  have nYK : Y ≠ K := by omega
  have HB1 := Lib.hid (Below.go hB0 hb)
  have HK1 := Lib.hid hK
  have HS1 := Lib.hid (show K + 1 ≤ w1.heap.size from hK.lt)
  have HKW := Lib.hid Kw
  have YK1 : Hid (Y < K + 1) := Lib.hid (by omega)
  clear HY hK hb eK hB0 YK Kw Yw
  have HY := HY1
  clear HY1
  have EQS := Lib.hid (fun (h : Nat → Int) w => eq16 h h w)
  have DF : Hid (∀ k, k < np → (∃ D o, p = some ⟨D, o, none⟩) ∧ m k ≤ cc k ∧ cc k ≤ 9223372036854775807 ∧ BytN w (q k) (m k) (f k) K) := Lib.hid fun k hk => by
    obtain ⟨D, o, h1, h2, h3, h4, h5, h6⟩ := HD.out k hk
    refine ⟨⟨D, o, h1⟩, h4, h5, ?_⟩
    rcases h6 with h0 | ⟨b, off, e1, e2⟩
    · exact .inl h0
    · exact .inr ⟨b, off, e1, by have := e2.lt; have := HKW.out; omega, e2⟩
  go_wp2_with (fail)
  go_loopw [6, 7] (fun av iv wr => ∃ (k : Nat) (pa : Option Addr) (ca : Nat) (pm : Option Addr) (cm : Nat), k ≤ KP ∧ av = .slice pa (T k) ca ∧ iv = .int .i64 k ∧ Hid (wr.ownsRow (K + 1) 5 1 (.slice pa (T k) ca) (T k) (nums .u8 g (T k))) ∧ Hid (Own K (macL kf (.slice pm (T k) cm)) wr) ∧ Hid (MD wr pm (T k) cm g K (Value.slice pa (T k) ca).ownBlock) ∧ Hid (Below w.heap.size w wr) ∧ Hid (K + 1 ≤ wr.heap.size) ∧ Hid (Own Y (nums .u8 kf 32) wr)) (fun _ iv _ => (6 - (intOf iv).toNat))
  case atStart =>
    refine ⟨0, none, 0, none, 0, Nat.zero_le _, ?_⟩
    rw [HT0.out]
    exact ⟨rfl, rfl, Lib.hid (World.ownsRow_nil _ _ _ _), HK1, Lib.hid ⟨Nat.le_refl _, by omega, fun _ => rfl, .inl rfl, fun a ha => nomatch ha⟩, HB1, HS1, HY⟩
  case round =>
    clear HK1 HB1 HS1 HY
    obtain ⟨k, pa, ca, pm, cm, hk, rfl, rfl, RA, HK, MM, HB, HS, HY⟩ := hrel
    by_cases hlt : k < KP
    · have hnp : k < np := by have := HKP.out; omega
      have hk6 : k < 6 := by have := HKP.out; omega
      obtain ⟨⟨D, oo, rfl⟩, hmc, hcx, hbn⟩ := DF.out k hnp
      have hcell : wr.cell? ⟨D, oo + k, none⟩ = some (.slice (q k) (m k) (cc k)) := by
        obtain ⟨D', o', h1, _, h3, _⟩ := (HD.out.later HB.out) k hnp
        cases h1
        exact h3
      have i1 : (k : Int) < (np : Int) := by omega
      have i2 : (k : Int) < 6 := by omega
      have i3 : (0 : Int) ≤ (k : Int) := by omega
      have k63 : IntKind.i64.wrap ((k : Int) + 1) = (k : Int) + 1 := IntWalk.i64_in _ (by omega)
      have ht := HTT.out k
      have htm : t k ≤ m k := by split at ht <;> omega
      have GF := Lib.hid (fun j (hj : j < t k) => HG.out k j hlt hj)
      have TS := Lib.hid (HT.out k)
      have T6 := Lib.hid (HT6.out (k + 1) (by omega))
      have GB1 := Lib.hid (fun i (hi : i < T (k + 1)) => GB.out i (Nat.lt_of_lt_of_le hi (HTM.out (k + 1) (by omega))))
      have FW := Lib.hid (fun w => few_any (q k) (m k) (cc k) (t k) ht (by omega) w)
      have BN : Hid (BytN w (q k) (t k) (f k) K) := Lib.hid (by
        rcases hbn with h0 | ⟨b, off, e1, e2, e3⟩
        · exact .inl (by omega)
        · exact .inr ⟨b, off, e1, e2, has_take e3 htm⟩)
      have CC := Lib.hid (show t k ≤ cc k ∧ cc k ≤ 9223372036854775807 by omega)
      have HLT := Lib.hid hlt
      obtain ⟨ta, eT⟩ : ∃ x, T k = x := ⟨_, rfl⟩
      have ET := Lib.hid eT
      obtain ⟨tb, eU⟩ : ∃ x, T (k + 1) = x := ⟨_, rfl⟩
      have EU := Lib.hid eU
      rw [eT] at RA HK MM TS GF
      rw [eT]
      rw [eU] at TS T6 GB1
      clear eT eU ht htm hbn hlt hk hmc hcx
      generalize q k = qk at *
      generalize m k = mk at *
      generalize t k = tk at *
      generalize cc k = ck at *
      generalize f k = fk at *
      have KLT : Hid (K < wr.heap.size) := Lib.hid HS.out
      go_wp2_with (fail)
      go_at_call 6
      refine (FW.out _).mono ?_
      rintro e w2 ⟨rfl, hb⟩
      have MM2 := Lib.hid (MM.out.later hb KLT.out)
      replace RA := Lib.hid (row_later RA.out hb); replace HK := Lib.hid (HK.out.later hb); replace HB := Lib.hid (Below.go HB.out hb); replace HS := Lib.hid (Nat.le_trans HS.out hb.size); replace HY := Lib.hid (HY.out.later hb)
      clear MM KLT hb
      have KLT : Hid (K < w2.heap.size) := Lib.hid HS.out
      go_wp2_with (fail)
      obtain ⟨W3, hW⟩ : ∃ W, W = w2.alloc (.cells #[.slice qk tk ck] 26) := ⟨_, rfl⟩
      have hb : Below w2.heap.size w2 W3 := hW ▸ Below.al (Below.refl _ _)
      have HL : Hid (Own w2.heap.size [.slice qk tk ck] W3) := Lib.hid (hW ▸ Own.newAt rfl)
      rw [← hW]
      clear hW
      obtain ⟨L, eL⟩ : ∃ X, X = w2.heap.size := ⟨_, rfl⟩
      rw [← eL] at HL ⊢
      have nLK : L ≠ K := by have := KLT.out; omega
      clear eL
      have MM := Lib.hid (MM2.out.later hb KLT.out)
      replace RA := Lib.hid (row_later RA.out hb); replace HK := Lib.hid (HK.out.later hb); replace HB := Lib.hid (Below.go HB.out hb); replace HS := Lib.hid (Nat.le_trans HS.out hb.size); replace HY := Lib.hid (HY.out.later hb)
      clear MM2 KLT hb
      have KLT : Hid (K < W3.heap.size) := Lib.hid HS.out
      have PN := Lib.hid (one_partN (K := K) (g := g) (b := tb) HL.out (BN.out.later HB.out) nLK TS.out CC.out.1 CC.out.2 GF.out)
      have T6B : Hid (∀ x, x ≤ 1 → (fun x => if x = 0 then ta else tb) x ≤ 65536) := Lib.hid fun x hx => by
        have h1 := T6.out; have h2 := TS.out
        show (if x = 0 then ta else tb) ≤ 65536
        split <;> omega
      go_at_call 7
      refine (Add_any kf K pm ta cm g (some ⟨L, 0, none⟩) 1 1 (fun x => if x = 0 then ta else tb) MM.out.1 MM.out.2.2.1 rfl T6B.out (Nat.le_refl _) (by decide) _ HK.out MM.out.2.2.2.1 PN.out).mono ?_
      rintro e w4 ⟨v4, rfl, hdat, hK4, hbut⟩
      obtain ⟨pm2, cm2, rfl, hmd⟩ := DatK.md (wb := W3) (row := (Value.slice pa ta ca).ownBlock) (show DatK w4 v4 tb g W3.heap.size K pm from hdat) T6.out MM.out.2.2.2.2 hbut.below.size (fun x hx => (RA.out.lt x hx).2) KLT.out
      replace RA := Lib.hid (row_but RA.out hbut (fun e => by have := row_ge RA.out K e; omega))
      replace HY := Lib.hid (HY.out.but hbut nYK)
      replace HB := Lib.hid (HB.out.trans (hbut.below.mono HKW.out))
      replace HS := Lib.hid (Nat.le_trans HS.out hbut.below.size)
      have HK4 := Lib.hid hK4
      have MM4 := Lib.hid hmd
      clear HK MM PN T6B KLT HL hdat hK4 hbut hmd
      have BY4 := Lib.hid (BN.out.byt.later HB.out)
      have AB := Lib.hid (show ta + tk ≤ 65536 by have := T6.out; have := TS.out; omega)
      have XS := Lib.hid (nums_append .u8 g fk ta tk GF.out)
      go_wp2_with (at_builtin; refine wpList_append_f rfl _ _ rfl (K + 1) _ ta _ rfl RA.out qk tk ck fk rfl BY4.out AB.out HS.out ?_; intro v5 w5 hrow hgr hfr; rw [XS.out, ← TS.out] at hrow; obtain ⟨pa2, ca2, rfl, _⟩ := row_form hrow; have hne1 := row_ne RA.out (show K < K + 1 by omega); have hne2 := row_ne RA.out YK1.out; have HK5 := Lib.hid (HK4.out.grown hgr hne1); have HY5 := Lib.hid (HY.out.grown hgr hne2); have MM5 := Lib.hid (MM4.out.app hgr hfr); have HB5 := Lib.hid (HB.out.grown hgr HB.out.size fun x hx => by have := row_ge RA.out x hx; have := HKW.out; omega); have HS5 := Lib.hid (Nat.le_trans HS.out hgr.size); have RA5 := Lib.hid hrow; clear hrow hgr hfr hne1 hne2 RA HY HB HS HK4 MM4 BY4 XS; go_upto_region 11 with fail)
      have BM5 := Lib.hid MM5.out.2.2.2.1.byt
      have BA5 := Lib.hid (byt_row RA5.out).2
      have CP5 := Lib.hid (row_cap_ RA5.out)
      have SU := Lib.hid (fun w hK hb => Sum_any kf g K pm2 tb cm2 KB.out GB1.out T6.out MM5.out.1 MM5.out.2.1 w hK hb)
      have RT := Lib.hid (fun w hb => RTag_any kf g pa2 tb ca2 KB.out GB1.out T6.out CP5.out.1 CP5.out.2 w hb)
      obtain ⟨T_, eT⟩ : ∃ x, tagN kf g tb = x := ⟨_, rfl⟩
      rw [eT] at SU RT
      clear eT
      have EQ := Lib.hid (fun w => EQS.out (byt T_) w)
      rw [eqB_self] at EQ
      refine wp_region_fun 6 (by kernel_rfl) (by kernel_rfl) rfl (fun s b => ⟨#[.agg (nums .u8 kf 32).toArray, .slice (some ⟨D, oo, none⟩) np cp, .pointer (some ⟨Y, 0, none⟩), undef, u4, .pointer (some ⟨K, 0, none⟩), .slice pa2 tb ca2, .int .i64 k, .slice qk tk ck, undef, undef, .agg (nums .u8 kf 32).toArray, .pointer (some ⟨K, 0, none⟩), .pointer (some ⟨K, 0, none⟩), .bool false, .int .i64 k, .slice (some ⟨D, oo, none⟩) np cp, .int .i64 np, .bool true, .bool true, .int .i64 k, .bool true, .bool true, u23, u24, .slice (some ⟨D, oo, none⟩) np cp, .int .i64 k, .pointer (some ⟨D, (oo + k), none⟩), .slice qk mk ck, .slice qk tk ck, .pointer (some ⟨K, 0, none⟩), .slice qk tk ck, .slice (some ⟨L, 0, none⟩) 1 1, .tuple #[], .slice pa ta ca, .slice qk tk ck, .slice pa2 tb ca2, s 37, s 38, s 39, s 40, s 41, s 42, undef, undef, undef, undef, undef, undef, undef, undef, undef, undef, undef, undef, undef, undef, undef, undef, undef, undef, undef, undef, undef, undef, undef, undef, undef, undef, undef, undef, undef], []⟩) (fun d s b w => (Below w5.heap.size w5 w) ∧ (d 0 = true → s 37 = .pointer (some ⟨K, 0, none⟩)) ∧ (d 1 = true → s 38 = .agg (nums .u8 (byt T_) 16).toArray) ∧ (d 2 = true → s 39 = .agg (nums .u8 kf 32).toArray) ∧ (d 3 = true → s 40 = .slice pa2 tb ca2) ∧ (d 4 = true → s 41 = .agg (nums .u8 (byt T_) 16).toArray) ∧ (d 5 = true → s 42 = .bool false)) rfl ?h0z1 (?stz1 : StepsF _ _ _ _ 6 _ _ [0, 1, 2, 3, 4, 5]) ?dnz1
      case h0z1 => exact ⟨Below.drew (Below.refl _ _), (fun h => nomatch h), (fun h => nomatch h), (fun h => nomatch h), (fun h => nomatch h), (fun h => nomatch h), (fun h => nomatch h)⟩
      case stz1 =>
        refine StepsF.cons (o := _) rfl (ws := []) (by kernel_rfl) (by decide) (fun d s b w hF hd hw K_ hK => ?_) ?_
        · have hB : Below w5.heap.size w5 w := (p0_ hF.out)
          dsimp only
          go_simp
          exact hK.out (ups s 37 (.pointer (some ⟨K, 0, none⟩))) b _ ⟨hB, (fun _ => rfl), (p2_ hF.out), (p3_ hF.out), (p4_ hF.out), (p5_ hF.out), (q6_ hF.out)⟩
        refine StepsF.cons (o := _) rfl (ws := [0]) (by kernel_rfl) (by decide) (fun d s b w hF hd hw K_ hK => ?_) ?_
        · have hB : Below w5.heap.size w5 w := (p0_ hF.out)
          have e0 : s 37 = .pointer (some ⟨K, 0, none⟩) := (p1_ hF.out) (hw 0 (by decide))
          dsimp only
          go_simp
          go_at_call 8
          refine (SU.out _ (HK5.out.later hB) (BM5.out.later hB)).mono ?_
          rintro e w1 ⟨rfl, hb⟩
          exact hK.out (ups (ups s 37 (.pointer (some ⟨K, 0, none⟩))) 38 (.agg (nums .u8 (byt T_) 16).toArray)) b _ ⟨(Below.go hB hb), (fun _ => rfl), (fun _ => rfl), (p3_ hF.out), (p4_ hF.out), (p5_ hF.out), (q6_ hF.out)⟩
        refine StepsF.cons (o := _) rfl (ws := []) (by kernel_rfl) (by decide) (fun d s b w hF hd hw K_ hK => ?_) ?_
        · have hB : Below w5.heap.size w5 w := (p0_ hF.out)
          refine step_load (by simp [Region.wanted]) 22 _ rfl Y 0 rfl (nums .u8 kf 32) _ (HY5.out.later hB).cell Try.underlying22 rfl (by kernel_rfl) ?_
          exact hK.out (ups s 39 (.agg (nums .u8 kf 32).toArray)) b _ ⟨hB, (p1_ hF.out), (p2_ hF.out), (fun _ => rfl), (p4_ hF.out), (p5_ hF.out), (q6_ hF.out)⟩
        refine StepsF.cons (o := _) rfl (ws := []) (by kernel_rfl) (by decide) (fun d s b w hF hd hw K_ hK => ?_) ?_
        · have hB : Below w5.heap.size w5 w := (p0_ hF.out)
          dsimp only
          go_simp
          exact hK.out (ups s 40 (.slice pa2 tb ca2)) b _ ⟨hB, (p1_ hF.out), (p2_ hF.out), (p3_ hF.out), (fun _ => rfl), (p5_ hF.out), (q6_ hF.out)⟩
        refine StepsF.cons (o := _) rfl (ws := [2, 3, 1]) (by kernel_rfl) (by decide) (fun d s b w hF hd hw K_ hK => ?_) ?_
        · have hB : Below w5.heap.size w5 w := (p0_ hF.out)
          have e1 : s 38 = .agg (nums .u8 (byt T_) 16).toArray := (p2_ hF.out) (hw 1 (by decide))
          have e2 : s 39 = .agg (nums .u8 kf 32).toArray := (p3_ hF.out) (hw 2 (by decide))
          have e3 : s 40 = .slice pa2 tb ca2 := (p4_ hF.out) (hw 3 (by decide))
          dsimp only
          go_simp
          go_at_call 9
          refine (RT.out _ (BA5.out.later hB)).mono ?_
          rintro e w1 ⟨rfl, hb⟩
          exact hK.out (ups (ups (ups (ups s 38 (.agg (nums .u8 (byt T_) 16).toArray)) 39 (.agg (nums .u8 kf 32).toArray)) 40 (.slice pa2 tb ca2)) 41 (.agg (nums .u8 (byt T_) 16).toArray)) b _ ⟨(Below.go hB hb), (p1_ hF.out), (fun _ => rfl), (fun _ => rfl), (fun _ => rfl), (fun _ => rfl), (q6_ hF.out)⟩
        refine StepsF.cons (o := _) rfl (ws := [1, 4]) (by kernel_rfl) (by decide) (fun d s b w hF hd hw K_ hK => ?_) ?_
        · have hB : Below w5.heap.size w5 w := (p0_ hF.out)
          have e1 : s 38 = .agg (nums .u8 (byt T_) 16).toArray := (p2_ hF.out) (hw 1 (by decide))
          have e4 : s 41 = .agg (nums .u8 (byt T_) 16).toArray := (p5_ hF.out) (hw 4 (by decide))
          dsimp only
          have hq := EQ.out w
          go_simp
          exact hK.out (ups (ups (ups s 38 (.agg (nums .u8 (byt T_) 16).toArray)) 41 (.agg (nums .u8 (byt T_) 16).toArray)) 42 (.bool false)) b _ ⟨hB, (p1_ hF.out), (fun _ => rfl), (p3_ hF.out), (p4_ hF.out), (fun _ => rfl), (fun _ => rfl)⟩
        exact StepsF.nil
      intro d s b z1 hF hall
      replace hF := Lib.hid hF
      have hB : Below w5.heap.size w5 z1 := (p0_ hF.out)
      try dsimp only
      have e0 : s 37 = .pointer (some ⟨K, 0, none⟩) := (p1_ hF.out) (hall 0 (by decide))
      have e1 : s 38 = .agg (nums .u8 (byt T_) 16).toArray := (p2_ hF.out) (hall 1 (by decide))
      have e2 : s 39 = .agg (nums .u8 kf 32).toArray := (p3_ hF.out) (hall 2 (by decide))
      have e3 : s 40 = .slice pa2 tb ca2 := (p4_ hF.out) (hall 3 (by decide))
      have e4 : s 41 = .agg (nums .u8 (byt T_) 16).toArray := (p5_ hF.out) (hall 4 (by decide))
      have e5 : s 42 = .bool false := (q6_ hF.out) (hall 5 (by decide))
      rw [e0, e1, e2, e3, e4, e5]
      clear hall hF e0 e1 e2 e3 e4 e5
      clear d s b
      have RA6 : Hid (z1.ownsRow (K + 1) 5 1 (.slice pa2 (T (k + 1)) ca2) (T (k + 1)) (nums .u8 g (T (k + 1)))) := Lib.hid (by rw [EU.out]; exact row_later RA5.out hB)
      have HK6 : Hid (Own K (macL kf (.slice pm2 (T (k + 1)) cm2)) z1) := Lib.hid (by rw [EU.out]; exact HK5.out.later hB)
      have MM6 : Hid (MD z1 pm2 (T (k + 1)) cm2 g K (Value.slice pa2 (T (k + 1)) ca2).ownBlock) := Lib.hid (by rw [EU.out]; exact MM5.out.later hB HS5.out)
      have HB6 := Lib.hid (Below.go HB5.out hB); have HS6 := Lib.hid (Nat.le_trans HS5.out hB.size); have HY6 := Lib.hid (HY5.out.later hB)
      clear RA5 HK5 MM5 HB5 HS5 HY5 BM5 BA5 SU RT hB
      go_wp2_with (fail)
      go_roundw
      case rel => (first | exact ⟨k + 1, pa2, ca2, pm2, cm2, HLT.out, by rw [EU.out], by go_num, RA6, HK6, MM6, HB6, HS6, HY6⟩ | ((repeat apply Exists.intro); exact ⟨⟨k + 1, pa2, ca2, pm2, cm2, HLT.out, by rw [EU.out], by go_num, RA6, HK6, MM6, HB6, HS6, HY6⟩, rfl⟩))
      case measure => (have := hk6; simp [intOf]; omega)
    · by_cases hq : k < np
      · obtain rfl : KP = k := by omega
        have i1 : (KP : Int) < (np : Int) := by omega
        have i2 : decide ((KP : Int) < 6) = false := decide_eq_false (by have := HKP.out; omega)
        clear hlt hk hq
        obtain ⟨tb, eT⟩ : ∃ x, T KP = x := ⟨_, rfl⟩
        have T6 := Lib.hid (show tb ≤ 65536 by rw [← eT]; exact HT6.out KP (Nat.le_refl _))
        have GB1 : Hid (∀ i, i < tb → inB (g i)) := Lib.hid (by rw [← eT]; exact GB.out)
        rw [eT] at RA HK MM
        rw [eT]
        clear eT HT6 HTM HG GB HTT HT HT0 DF HD
        go_upto_region 14 with fail
        obtain ⟨W6, hW⟩ : ∃ W, W = wr.alloc (.cells #[.int .u8 0, .int .u8 0, .int .u8 0, .int .u8 0, .int .u8 0, .int .u8 0, .int .u8 0, .int .u8 0, .int .u8 0, .int .u8 0, .int .u8 0, .int .u8 0, .int .u8 0, .int .u8 0, .int .u8 0, .int .u8 0, .int .u8 0, .int .u8 0, .int .u8 0, .int .u8 0, .int .u8 0, .int .u8 0, .int .u8 0, .int .u8 0, .int .u8 0, .int .u8 0, .int .u8 0, .int .u8 0, .int .u8 0, .int .u8 0, .int .u8 0, .int .u8 0, .bool false, .slice none 0 0] 35) := ⟨_, rfl⟩
        have hb : Below wr.heap.size wr W6 := hW ▸ Below.al (Below.refl _ _)
        have HN : Hid (Own wr.heap.size [.int .u8 0, .int .u8 0, .int .u8 0, .int .u8 0, .int .u8 0, .int .u8 0, .int .u8 0, .int .u8 0, .int .u8 0, .int .u8 0, .int .u8 0, .int .u8 0, .int .u8 0, .int .u8 0, .int .u8 0, .int .u8 0, .int .u8 0, .int .u8 0, .int .u8 0, .int .u8 0, .int .u8 0, .int .u8 0, .int .u8 0, .int .u8 0, .int .u8 0, .int .u8 0, .int .u8 0, .int .u8 0, .int .u8 0, .int .u8 0, .int .u8 0, .int .u8 0, .bool false, .slice none 0 0] W6) := Lib.hid (hW ▸ Own.newAt rfl)
        rw [← hW]
        clear hW
        obtain ⟨N_, eN⟩ : ∃ X, X = wr.heap.size := ⟨_, rfl⟩
        rw [← eN] at HN ⊢
        clear eN
        replace RA := Lib.hid (row_later RA.out hb); replace HK := Lib.hid (HK.out.later hb); replace MM := Lib.hid (MM.out.later hb HS.out); replace HB := Lib.hid (Below.go HB.out hb); replace HS := Lib.hid (Nat.le_trans HS.out hb.size); replace HY := Lib.hid (HY.out.later hb)
        clear hb
        refine wp_region_lit ?_
        refine wpList_slN rfl 26 5 1 _ rfl .u8 [120] (fun _ => 120) Try.underlying26 (by kernel_rfl) (by kernel_rfl) rfl (by decide) (by decide) (by kernel_rfl) (by kernel_rfl) ?_
        refine wpList_conv rfl _ rfl rfl ?_
        obtain ⟨W7, hW⟩ : ∃ W, W = (W6.alloc (.cells (nums .u8 (fun _ => 120) 1).toArray 5 ((nums .u8 (fun _ => 120) 1).toArray.size, (nums .u8 (fun _ => 120) 1).toArray.size + 1))) := ⟨_, rfl⟩
        have hb : Below W6.heap.size W6 W7 := hW ▸ Below.al (Below.refl _ _)
        rw [← hW]
        clear hW
        obtain ⟨A_, eA⟩ : ∃ X, X = W6.heap.size := ⟨_, rfl⟩
        rw [← eA]
        clear eA
        replace RA := Lib.hid (row_later RA.out hb); replace HK := Lib.hid (HK.out.later hb); replace MM := Lib.hid (MM.out.later hb HS.out); replace HB := Lib.hid (Below.go HB.out hb); replace HS := Lib.hid (Nat.le_trans HS.out hb.size); replace HY := Lib.hid (HY.out.later hb)
        replace HN := Lib.hid (HN.out.later hb)
        clear hb
        go_wp2_with (fail)
        obtain ⟨W8, hW⟩ : ∃ W, W = W7.alloc (.cells #[.slice (some ⟨A_, 0, none⟩) 1 1] 26) := ⟨_, rfl⟩
        have hb : Below W7.heap.size W7 W8 := hW ▸ Below.al (Below.refl _ _)
        rw [← hW]
        clear hW
        obtain ⟨A_2, eA⟩ : ∃ X, X = W7.heap.size := ⟨_, rfl⟩
        rw [← eA]
        clear eA
        replace RA := Lib.hid (row_later RA.out hb); replace HK := Lib.hid (HK.out.later hb); replace MM := Lib.hid (MM.out.later hb HS.out); replace HB := Lib.hid (Below.go HB.out hb); replace HS := Lib.hid (Nat.le_trans HS.out hb.size); replace HY := Lib.hid (HY.out.later hb)
        replace HN := Lib.hid (HN.out.later hb)
        clear hb
        go_at_call 7
        refine (Add_none N_ _ _ (HN.out.at 32 _ rfl)).mono ?_
        rintro e w9 ⟨rfl, rfl⟩
        go_upto_region 16 with fail
        refine wp_region_lit ?_
        refine wpList_move rfl _ rfl ?_
        refine wpList_slN rfl 26 5 1 _ rfl .u8 [120] (fun _ => 120) Try.underlying26 (by kernel_rfl) (by kernel_rfl) rfl (by decide) (by decide) (by kernel_rfl) (by kernel_rfl) ?_
        refine wpList_conv rfl _ rfl rfl ?_
        obtain ⟨W9, hW⟩ : ∃ W, W = (w9.alloc (.cells (nums .u8 (fun _ => 120) 1).toArray 5 ((nums .u8 (fun _ => 120) 1).toArray.size, (nums .u8 (fun _ => 120) 1).toArray.size + 1))) := ⟨_, rfl⟩
        have hb : Below w9.heap.size w9 W9 := hW ▸ Below.al (Below.refl _ _)
        rw [← hW]
        clear hW
        obtain ⟨C_, eA⟩ : ∃ X, X = w9.heap.size := ⟨_, rfl⟩
        rw [← eA]
        clear eA
        replace RA := Lib.hid (row_later RA.out hb); replace HK := Lib.hid (HK.out.later hb); replace MM := Lib.hid (MM.out.later hb HS.out); replace HB := Lib.hid (Below.go HB.out hb); replace HS := Lib.hid (Nat.le_trans HS.out hb.size); replace HY := Lib.hid (HY.out.later hb)
        replace HN := Lib.hid (HN.out.later hb)
        clear hb
        go_wp2_with (fail)
        obtain ⟨X1, hW⟩ : ∃ W, W = W9.alloc (.cells #[.slice (some ⟨C_, 0, none⟩) 1 1] 26) := ⟨_, rfl⟩
        have hb : Below W9.heap.size W9 X1 := hW ▸ Below.al (Below.refl _ _)
        rw [← hW]
        clear hW
        obtain ⟨C_2, eA⟩ : ∃ X, X = W9.heap.size := ⟨_, rfl⟩
        rw [← eA]
        clear eA
        replace RA := Lib.hid (row_later RA.out hb); replace HK := Lib.hid (HK.out.later hb); replace MM := Lib.hid (MM.out.later hb HS.out); replace HB := Lib.hid (Below.go HB.out hb); replace HS := Lib.hid (Nat.le_trans HS.out hb.size); replace HY := Lib.hid (HY.out.later hb)
        replace HN := Lib.hid (HN.out.later hb)
        clear hb
        go_at_call 7
        refine (Add_nil _ _).mono ?_
        rintro e w10 ⟨rfl, rfl⟩
        go_upto_region 17 with fail
        have KLT := HS.out
        have BM5 := Lib.hid MM.out.2.2.2.1.byt
        have BA5 := Lib.hid (byt_row RA.out).2
        have CP5 := Lib.hid (row_cap_ RA.out)
        have SU := Lib.hid (fun w hK hb => Sum_any kf g K pm tb cm KB.out GB1.out T6.out MM.out.1 MM.out.2.1 w hK hb)
        have RT := Lib.hid (fun w hb => RTag_any kf g pa tb ca KB.out GB1.out T6.out CP5.out.1 CP5.out.2 w hb)
        obtain ⟨T_, eT⟩ : ∃ x, tagN kf g tb = x := ⟨_, rfl⟩
        rw [eT] at SU RT
        clear eT
        have EQ := Lib.hid (fun w => EQS.out (byt T_) w)
        have EZ := Lib.hid (fun w => EQS.out (fun _ => 0) w)
        rw [eqB_self] at EQ EZ
        refine wp_region_fun 21 (by kernel_rfl) (by kernel_rfl) rfl (fun s b => ⟨#[.agg (nums .u8 kf 32).toArray, .slice p np cp, .pointer (some ⟨Y, 0, none⟩), undef, s 4, .pointer (some ⟨K, 0, none⟩), .slice pa tb ca, .int .i64 KP, u8, .pointer (some ⟨N_, 0, none⟩), .pointer none, .agg (nums .u8 kf 32).toArray, .pointer (some ⟨K, 0, none⟩), .pointer (some ⟨K, 0, none⟩), .bool false, .int .i64 KP, .slice p np cp, .int .i64 np, .bool true, .bool true, .int .i64 KP, .bool false, .bool false, u23, u24, u25, u26, u27, u28, u29, u30, u31, u32, u33, u34, u35, u36, u37, u38, u39, u40, u41, u42, .slice (some ⟨A_, 0, none⟩) 1 1, .slice (some ⟨A_, 0, none⟩) 1 1, .slice (some ⟨A_2, 0, none⟩) 1 1, .tuple #[], .pointer none, .slice (some ⟨C_, 0, none⟩) 1 1, .slice (some ⟨C_, 0, none⟩) 1 1, .slice (some ⟨C_2, 0, none⟩) 1 1, .tuple #[], s 52, s 53, s 54, s 55, s 56, s 57, s 58, s 59, s 60, s 61, s 62, s 63, s 64, s 65, s 66, s 67, s 68, s 69, s 70, s 71], []⟩) (fun d s b w => (Below w10.heap.size w10 w) ∧ (d 0 = true → s 52 = .pointer (some ⟨K, 0, none⟩)) ∧ (d 1 = true → s 53 = .agg (nums .u8 (byt T_) 16).toArray) ∧ (d 2 = true → s 54 = .agg (nums .u8 kf 32).toArray) ∧ (d 3 = true → s 55 = .slice pa tb ca) ∧ (d 4 = true → s 56 = .agg (nums .u8 (byt T_) 16).toArray) ∧ (d 5 = true → s 57 = .bool true) ∧ (d 6 = true → s 58 = .bool true) ∧ (d 7 = true → s 59 = .agg (nums .u8 (fun _ => 0) 16).toArray) ∧ (d 8 = true → s 60 = .agg (nums .u8 (fun _ => 0) 16).toArray) ∧ (d 9 = true → s 61 = .bool true) ∧ (d 10 = true → s 62 = .bool true) ∧ (d 11 = true → s 63 = .bool true) ∧ (d 12 = true → s 64 = .pointer none) ∧ (d 13 = true → s 65 = .agg (nums .u8 (fun _ => 0) 16).toArray) ∧ (d 14 = true → s 66 = .agg (nums .u8 (fun _ => 0) 16).toArray) ∧ (d 15 = true → s 67 = .bool true) ∧ (d 16 = true → s 68 = .bool true) ∧ (d 17 = true → s 69 = .bool true) ∧ (d 18 = true → s 70 = .bool true) ∧ (d 19 = true → s 71 = .bool true) ∧ (d 20 = true → s 4 = .bool true)) rfl ?h0ya (?stya : StepsF _ _ _ _ 21 _ _ [0, 1, 2, 3, 4, 5, 6, 7, 8, 9, 10, 11, 12, 13, 14, 15, 16, 17, 18, 19, 20]) ?dnya
        case h0ya => exact ⟨Below.drew (Below.refl _ _), (fun h => nomatch h), (fun h => nomatch h), (fun h => nomatch h), (fun h => nomatch h), (fun h => nomatch h), (fun h => nomatch h), (fun h => nomatch h), (fun h => nomatch h), (fun h => nomatch h), (fun h => nomatch h), (fun h => nomatch h), (fun h => nomatch h), (fun h => nomatch h), (fun h => nomatch h), (fun h => nomatch h), (fun h => nomatch h), (fun h => nomatch h), (fun h => nomatch h), (fun h => nomatch h), (fun h => nomatch h), (fun h => nomatch h)⟩
        case stya =>
          refine StepsF.cons (o := _) rfl (ws := []) (by kernel_rfl) (by decide) (fun d s b w hF hd hw K_ hK => ?_) ?_
          · have hB : Below w10.heap.size w10 w := (p0_ hF.out)
            dsimp only
            go_simp
            exact hK.out (ups s 52 (.pointer (some ⟨K, 0, none⟩))) b _ ⟨hB, (fun _ => rfl), (p2_ hF.out), (p3_ hF.out), (p4_ hF.out), (p5_ hF.out), (p6_ hF.out), (p7_ hF.out), (p8_ hF.out), (p9_ hF.out), (p10_ hF.out), (p11_ hF.out), (p12_ hF.out), (p13_ hF.out), (p14_ hF.out), (p15_ hF.out), (p16_ hF.out), (p17_ hF.out), (p18_ hF.out), (p19_ hF.out), (p20_ hF.out), (q21_ hF.out)⟩
          refine StepsF.cons (o := _) rfl (ws := [0]) (by kernel_rfl) (by decide) (fun d s b w hF hd hw K_ hK => ?_) ?_
          · have hB : Below w10.heap.size w10 w := (p0_ hF.out)
            have e0 : s 52 = .pointer (some ⟨K, 0, none⟩) := (p1_ hF.out) (hw 0 (by decide))
            dsimp only
            go_simp
            go_at_call 8
            refine (SU.out _ (HK.out.later hB) (BM5.out.later hB)).mono ?_
            rintro e w1 ⟨rfl, hb⟩
            exact hK.out (ups (ups s 52 (.pointer (some ⟨K, 0, none⟩))) 53 (.agg (nums .u8 (byt T_) 16).toArray)) b _ ⟨(Below.go hB hb), (fun _ => rfl), (fun _ => rfl), (p3_ hF.out), (p4_ hF.out), (p5_ hF.out), (p6_ hF.out), (p7_ hF.out), (p8_ hF.out), (p9_ hF.out), (p10_ hF.out), (p11_ hF.out), (p12_ hF.out), (p13_ hF.out), (p14_ hF.out), (p15_ hF.out), (p16_ hF.out), (p17_ hF.out), (p18_ hF.out), (p19_ hF.out), (p20_ hF.out), (q21_ hF.out)⟩
          refine StepsF.cons (o := _) rfl (ws := []) (by kernel_rfl) (by decide) (fun d s b w hF hd hw K_ hK => ?_) ?_
          · have hB : Below w10.heap.size w10 w := (p0_ hF.out)
            refine step_load (by simp [Region.wanted]) 22 _ rfl Y 0 rfl (nums .u8 kf 32) _ (HY.out.later hB).cell Try.underlying22 rfl (by kernel_rfl) ?_
            exact hK.out (ups s 54 (.agg (nums .u8 kf 32).toArray)) b _ ⟨hB, (p1_ hF.out), (p2_ hF.out), (fun _ => rfl), (p4_ hF.out), (p5_ hF.out), (p6_ hF.out), (p7_ hF.out), (p8_ hF.out), (p9_ hF.out), (p10_ hF.out), (p11_ hF.out), (p12_ hF.out), (p13_ hF.out), (p14_ hF.out), (p15_ hF.out), (p16_ hF.out), (p17_ hF.out), (p18_ hF.out), (p19_ hF.out), (p20_ hF.out), (q21_ hF.out)⟩
          refine StepsF.cons (o := _) rfl (ws := []) (by kernel_rfl) (by decide) (fun d s b w hF hd hw K_ hK => ?_) ?_
          · have hB : Below w10.heap.size w10 w := (p0_ hF.out)
            dsimp only
            go_simp
            exact hK.out (ups s 55 (.slice pa tb ca)) b _ ⟨hB, (p1_ hF.out), (p2_ hF.out), (p3_ hF.out), (fun _ => rfl), (p5_ hF.out), (p6_ hF.out), (p7_ hF.out), (p8_ hF.out), (p9_ hF.out), (p10_ hF.out), (p11_ hF.out), (p12_ hF.out), (p13_ hF.out), (p14_ hF.out), (p15_ hF.out), (p16_ hF.out), (p17_ hF.out), (p18_ hF.out), (p19_ hF.out), (p20_ hF.out), (q21_ hF.out)⟩
          refine StepsF.cons (o := _) rfl (ws := [2, 3, 1]) (by kernel_rfl) (by decide) (fun d s b w hF hd hw K_ hK => ?_) ?_
          · have hB : Below w10.heap.size w10 w := (p0_ hF.out)
            have e1 : s 53 = .agg (nums .u8 (byt T_) 16).toArray := (p2_ hF.out) (hw 1 (by decide))
            have e2 : s 54 = .agg (nums .u8 kf 32).toArray := (p3_ hF.out) (hw 2 (by decide))
            have e3 : s 55 = .slice pa tb ca := (p4_ hF.out) (hw 3 (by decide))
            dsimp only
            go_simp
            go_at_call 9
            refine (RT.out _ (BA5.out.later hB)).mono ?_
            rintro e w1 ⟨rfl, hb⟩
            exact hK.out (ups (ups (ups (ups s 53 (.agg (nums .u8 (byt T_) 16).toArray)) 54 (.agg (nums .u8 kf 32).toArray)) 55 (.slice pa tb ca)) 56 (.agg (nums .u8 (byt T_) 16).toArray)) b _ ⟨(Below.go hB hb), (p1_ hF.out), (fun _ => rfl), (fun _ => rfl), (fun _ => rfl), (fun _ => rfl), (p6_ hF.out), (p7_ hF.out), (p8_ hF.out), (p9_ hF.out), (p10_ hF.out), (p11_ hF.out), (p12_ hF.out), (p13_ hF.out), (p14_ hF.out), (p15_ hF.out), (p16_ hF.out), (p17_ hF.out), (p18_ hF.out), (p19_ hF.out), (p20_ hF.out), (q21_ hF.out)⟩
          refine StepsF.cons (o := _) rfl (ws := [1, 4]) (by kernel_rfl) (by decide) (fun d s b w hF hd hw K_ hK => ?_) ?_
          · have hB : Below w10.heap.size w10 w := (p0_ hF.out)
            have e1 : s 53 = .agg (nums .u8 (byt T_) 16).toArray := (p2_ hF.out) (hw 1 (by decide))
            have e4 : s 56 = .agg (nums .u8 (byt T_) 16).toArray := (p5_ hF.out) (hw 4 (by decide))
            dsimp only
            have hq := EQ.out w
            go_simp
            exact hK.out (ups (ups (ups s 53 (.agg (nums .u8 (byt T_) 16).toArray)) 56 (.agg (nums .u8 (byt T_) 16).toArray)) 57 (.bool true)) b _ ⟨hB, (p1_ hF.out), (fun _ => rfl), (p3_ hF.out), (p4_ hF.out), (fun _ => rfl), (fun _ => rfl), (p7_ hF.out), (p8_ hF.out), (p9_ hF.out), (p10_ hF.out), (p11_ hF.out), (p12_ hF.out), (p13_ hF.out), (p14_ hF.out), (p15_ hF.out), (p16_ hF.out), (p17_ hF.out), (p18_ hF.out), (p19_ hF.out), (p20_ hF.out), (q21_ hF.out)⟩
          refine StepsF.cons (o := _) rfl (ws := [5, 4]) (by kernel_rfl) (by decide) (fun d s b w hF hd hw K_ hK => ?_) ?_
          · have hB : Below w10.heap.size w10 w := (p0_ hF.out)
            have e4 : s 56 = .agg (nums .u8 (byt T_) 16).toArray := (p5_ hF.out) (hw 4 (by decide))
            have e5 : s 57 = .bool true := (p6_ hF.out) (hw 5 (by decide))
            dsimp only
            go_simp
            exact hK.out (ups (ups (ups s 56 (.agg (nums .u8 (byt T_) 16).toArray)) 57 (.bool true)) 58 (.bool true)) b _ ⟨hB, (p1_ hF.out), (p2_ hF.out), (p3_ hF.out), (p4_ hF.out), (fun _ => rfl), (fun _ => rfl), (fun _ => rfl), (p8_ hF.out), (p9_ hF.out), (p10_ hF.out), (p11_ hF.out), (p12_ hF.out), (p13_ hF.out), (p14_ hF.out), (p15_ hF.out), (p16_ hF.out), (p17_ hF.out), (p18_ hF.out), (p19_ hF.out), (p20_ hF.out), (q21_ hF.out)⟩
          refine StepsF.cons (o := _) rfl (ws := [6, 6]) (by kernel_rfl) (by decide) (fun d s b w hF hd hw K_ hK => ?_) ?_
          · have hB : Below w10.heap.size w10 w := (p0_ hF.out)
            have e6 : s 58 = .bool true := (p7_ hF.out) (hw 6 (by decide))
            dsimp only
            go_simp
            go_at_call 8
            refine (Sum_none N_ _ (HN.out.later hB).lt ((HN.out.later hB).at 32 _ rfl)).mono ?_
            rintro e w1 ⟨rfl, hb⟩
            exact hK.out (ups (ups s 58 (.bool true)) 59 (.agg (nums .u8 (fun _ => 0) 16).toArray)) b _ ⟨(Below.go hB hb), (p1_ hF.out), (p2_ hF.out), (p3_ hF.out), (p4_ hF.out), (p5_ hF.out), (p6_ hF.out), (fun _ => rfl), (fun _ => rfl), (p9_ hF.out), (p10_ hF.out), (p11_ hF.out), (p12_ hF.out), (p13_ hF.out), (p14_ hF.out), (p15_ hF.out), (p16_ hF.out), (p17_ hF.out), (p18_ hF.out), (p19_ hF.out), (p20_ hF.out), (q21_ hF.out)⟩
          refine StepsF.cons (o := _) rfl (ws := [6]) (by kernel_rfl) (by decide) (fun d s b w hF hd hw K_ hK => ?_) ?_
          · have hB : Below w10.heap.size w10 w := (p0_ hF.out)
            have e6 : s 58 = .bool true := (p7_ hF.out) (hw 6 (by decide))
            dsimp only
            go_simp
            exact hK.out (ups (ups s 58 (.bool true)) 60 (.agg (nums .u8 (fun _ => 0) 16).toArray)) b _ ⟨hB, (p1_ hF.out), (p2_ hF.out), (p3_ hF.out), (p4_ hF.out), (p5_ hF.out), (p6_ hF.out), (fun _ => rfl), (p8_ hF.out), (fun _ => rfl), (p10_ hF.out), (p11_ hF.out), (p12_ hF.out), (p13_ hF.out), (p14_ hF.out), (p15_ hF.out), (p16_ hF.out), (p17_ hF.out), (p18_ hF.out), (p19_ hF.out), (p20_ hF.out), (q21_ hF.out)⟩
          refine StepsF.cons (o := _) rfl (ws := [7, 8, 6]) (by kernel_rfl) (by decide) (fun d s b w hF hd hw K_ hK => ?_) ?_
          · have hB : Below w10.heap.size w10 w := (p0_ hF.out)
            have e6 : s 58 = .bool true := (p7_ hF.out) (hw 6 (by decide))
            have e7 : s 59 = .agg (nums .u8 (fun _ => 0) 16).toArray := (p8_ hF.out) (hw 7 (by decide))
            have e8 : s 60 = .agg (nums .u8 (fun _ => 0) 16).toArray := (p9_ hF.out) (hw 8 (by decide))
            dsimp only
            have hq := EZ.out w
            go_simp
            exact hK.out (ups (ups (ups (ups s 58 (.bool true)) 59 (.agg (nums .u8 (fun _ => 0) 16).toArray)) 60 (.agg (nums .u8 (fun _ => 0) 16).toArray)) 61 (.bool true)) b _ ⟨hB, (p1_ hF.out), (p2_ hF.out), (p3_ hF.out), (p4_ hF.out), (p5_ hF.out), (p6_ hF.out), (fun _ => rfl), (fun _ => rfl), (fun _ => rfl), (fun _ => rfl), (p11_ hF.out), (p12_ hF.out), (p13_ hF.out), (p14_ hF.out), (p15_ hF.out), (p16_ hF.out), (p17_ hF.out), (p18_ hF.out), (p19_ hF.out), (p20_ hF.out), (q21_ hF.out)⟩
          refine StepsF.cons (o := _) rfl (ws := [6, 9]) (by kernel_rfl) (by decide) (fun d s b w hF hd hw K_ hK => ?_) ?_
          · have hB : Below w10.heap.size w10 w := (p0_ hF.out)
            have e6 : s 58 = .bool true := (p7_ hF.out) (hw 6 (by decide))
            have e9 : s 61 = .bool true := (p10_ hF.out) (hw 9 (by decide))
            dsimp only
            go_simp
            exact hK.out (ups (ups (ups s 58 (.bool true)) 61 (.bool true)) 62 (.bool true)) b _ ⟨hB, (p1_ hF.out), (p2_ hF.out), (p3_ hF.out), (p4_ hF.out), (p5_ hF.out), (p6_ hF.out), (fun _ => rfl), (p8_ hF.out), (p9_ hF.out), (fun _ => rfl), (fun _ => rfl), (p12_ hF.out), (p13_ hF.out), (p14_ hF.out), (p15_ hF.out), (p16_ hF.out), (p17_ hF.out), (p18_ hF.out), (p19_ hF.out), (p20_ hF.out), (q21_ hF.out)⟩
          refine StepsF.cons (o := _) rfl (ws := [10, 7]) (by kernel_rfl) (by decide) (fun d s b w hF hd hw K_ hK => ?_) ?_
          · have hB : Below w10.heap.size w10 w := (p0_ hF.out)
            have e7 : s 59 = .agg (nums .u8 (fun _ => 0) 16).toArray := (p8_ hF.out) (hw 7 (by decide))
            have e10 : s 62 = .bool true := (p11_ hF.out) (hw 10 (by decide))
            dsimp only
            go_simp
            exact hK.out (ups (ups (ups s 59 (.agg (nums .u8 (fun _ => 0) 16).toArray)) 62 (.bool true)) 63 (.bool true)) b _ ⟨hB, (p1_ hF.out), (p2_ hF.out), (p3_ hF.out), (p4_ hF.out), (p5_ hF.out), (p6_ hF.out), (p7_ hF.out), (fun _ => rfl), (p9_ hF.out), (p10_ hF.out), (fun _ => rfl), (fun _ => rfl), (p13_ hF.out), (p14_ hF.out), (p15_ hF.out), (p16_ hF.out), (p17_ hF.out), (p18_ hF.out), (p19_ hF.out), (p20_ hF.out), (q21_ hF.out)⟩
          refine StepsF.cons (o := _) rfl (ws := [11]) (by kernel_rfl) (by decide) (fun d s b w hF hd hw K_ hK => ?_) ?_
          · have hB : Below w10.heap.size w10 w := (p0_ hF.out)
            have e11 : s 63 = .bool true := (p12_ hF.out) (hw 11 (by decide))
            dsimp only
            go_simp
            exact hK.out (ups (ups s 63 (.bool true)) 64 (.pointer none)) b _ ⟨hB, (p1_ hF.out), (p2_ hF.out), (p3_ hF.out), (p4_ hF.out), (p5_ hF.out), (p6_ hF.out), (p7_ hF.out), (p8_ hF.out), (p9_ hF.out), (p10_ hF.out), (p11_ hF.out), (fun _ => rfl), (fun _ => rfl), (p14_ hF.out), (p15_ hF.out), (p16_ hF.out), (p17_ hF.out), (p18_ hF.out), (p19_ hF.out), (p20_ hF.out), (q21_ hF.out)⟩
          refine StepsF.cons (o := _) rfl (ws := [12, 11, 11]) (by kernel_rfl) (by decide) (fun d s b w hF hd hw K_ hK => ?_) ?_
          · have hB : Below w10.heap.size w10 w := (p0_ hF.out)
            have e11 : s 63 = .bool true := (p12_ hF.out) (hw 11 (by decide))
            have e12 : s 64 = .pointer none := (p13_ hF.out) (hw 12 (by decide))
            dsimp only
            go_simp
            go_at_call 8
            refine (Sum_nil _).mono ?_
            rintro e w1 ⟨rfl, hb⟩
            exact hK.out (ups (ups (ups s 63 (.bool true)) 64 (.pointer none)) 65 (.agg (nums .u8 (fun _ => 0) 16).toArray)) b _ ⟨(Below.go hB hb), (p1_ hF.out), (p2_ hF.out), (p3_ hF.out), (p4_ hF.out), (p5_ hF.out), (p6_ hF.out), (p7_ hF.out), (p8_ hF.out), (p9_ hF.out), (p10_ hF.out), (p11_ hF.out), (fun _ => rfl), (fun _ => rfl), (fun _ => rfl), (p15_ hF.out), (p16_ hF.out), (p17_ hF.out), (p18_ hF.out), (p19_ hF.out), (p20_ hF.out), (q21_ hF.out)⟩
          refine StepsF.cons (o := _) rfl (ws := [11]) (by kernel_rfl) (by decide) (fun d s b w hF hd hw K_ hK => ?_) ?_
          · have hB : Below w10.heap.size w10 w := (p0_ hF.out)
            have e11 : s 63 = .bool true := (p12_ hF.out) (hw 11 (by decide))
            dsimp only
            go_simp
            exact hK.out (ups (ups s 63 (.bool true)) 66 (.agg (nums .u8 (fun _ => 0) 16).toArray)) b _ ⟨hB, (p1_ hF.out), (p2_ hF.out), (p3_ hF.out), (p4_ hF.out), (p5_ hF.out), (p6_ hF.out), (p7_ hF.out), (p8_ hF.out), (p9_ hF.out), (p10_ hF.out), (p11_ hF.out), (fun _ => rfl), (p13_ hF.out), (p14_ hF.out), (fun _ => rfl), (p16_ hF.out), (p17_ hF.out), (p18_ hF.out), (p19_ hF.out), (p20_ hF.out), (q21_ hF.out)⟩
          refine StepsF.cons (o := _) rfl (ws := [13, 14, 11]) (by kernel_rfl) (by decide) (fun d s b w hF hd hw K_ hK => ?_) ?_
          · have hB : Below w10.heap.size w10 w := (p0_ hF.out)
            have e11 : s 63 = .bool true := (p12_ hF.out) (hw 11 (by decide))
            have e13 : s 65 = .agg (nums .u8 (fun _ => 0) 16).toArray := (p14_ hF.out) (hw 13 (by decide))
            have e14 : s 66 = .agg (nums .u8 (fun _ => 0) 16).toArray := (p15_ hF.out) (hw 14 (by decide))
            dsimp only
            have hq := EZ.out w
            go_simp
            exact hK.out (ups (ups (ups (ups s 63 (.bool true)) 65 (.agg (nums .u8 (fun _ => 0) 16).toArray)) 66 (.agg (nums .u8 (fun _ => 0) 16).toArray)) 67 (.bool true)) b _ ⟨hB, (p1_ hF.out), (p2_ hF.out), (p3_ hF.out), (p4_ hF.out), (p5_ hF.out), (p6_ hF.out), (p7_ hF.out), (p8_ hF.out), (p9_ hF.out), (p10_ hF.out), (p11_ hF.out), (fun _ => rfl), (p13_ hF.out), (fun _ => rfl), (fun _ => rfl), (fun _ => rfl), (p17_ hF.out), (p18_ hF.out), (p19_ hF.out), (p20_ hF.out), (q21_ hF.out)⟩
          refine StepsF.cons (o := _) rfl (ws := [11, 15]) (by kernel_rfl) (by decide) (fun d s b w hF hd hw K_ hK => ?_) ?_
          · have hB : Below w10.heap.size w10 w := (p0_ hF.out)
            have e11 : s 63 = .bool true := (p12_ hF.out) (hw 11 (by decide))
            have e15 : s 67 = .bool true := (p16_ hF.out) (hw 15 (by decide))
            dsimp only
            go_simp
            exact hK.out (ups (ups (ups s 63 (.bool true)) 67 (.bool true)) 68 (.bool true)) b _ ⟨hB, (p1_ hF.out), (p2_ hF.out), (p3_ hF.out), (p4_ hF.out), (p5_ hF.out), (p6_ hF.out), (p7_ hF.out), (p8_ hF.out), (p9_ hF.out), (p10_ hF.out), (p11_ hF.out), (fun _ => rfl), (p13_ hF.out), (p14_ hF.out), (p15_ hF.out), (fun _ => rfl), (fun _ => rfl), (p18_ hF.out), (p19_ hF.out), (p20_ hF.out), (q21_ hF.out)⟩
          refine StepsF.cons (o := _) rfl (ws := [16, 13]) (by kernel_rfl) (by decide) (fun d s b w hF hd hw K_ hK => ?_) ?_
          · have hB : Below w10.heap.size w10 w := (p0_ hF.out)
            have e13 : s 65 = .agg (nums .u8 (fun _ => 0) 16).toArray := (p14_ hF.out) (hw 13 (by decide))
            have e16 : s 68 = .bool true := (p17_ hF.out) (hw 16 (by decide))
            dsimp only
            go_simp
            exact hK.out (ups (ups (ups s 65 (.agg (nums .u8 (fun _ => 0) 16).toArray)) 68 (.bool true)) 69 (.bool true)) b _ ⟨hB, (p1_ hF.out), (p2_ hF.out), (p3_ hF.out), (p4_ hF.out), (p5_ hF.out), (p6_ hF.out), (p7_ hF.out), (p8_ hF.out), (p9_ hF.out), (p10_ hF.out), (p11_ hF.out), (p12_ hF.out), (p13_ hF.out), (fun _ => rfl), (p15_ hF.out), (p16_ hF.out), (fun _ => rfl), (fun _ => rfl), (p19_ hF.out), (p20_ hF.out), (q21_ hF.out)⟩
          refine StepsF.cons (o := _) rfl (ws := [17, 17]) (by kernel_rfl) (by decide) (fun d s b w hF hd hw K_ hK => ?_) ?_
          · have hB : Below w10.heap.size w10 w := (p0_ hF.out)
            have e17 : s 69 = .bool true := (p18_ hF.out) (hw 17 (by decide))
            dsimp only
            go_simp
            go_at_call 10
            refine (works_any _).mono ?_
            rintro e w1 ⟨rfl, hb⟩
            exact hK.out (ups (ups s 69 (.bool true)) 70 (.bool true)) b _ ⟨(Below.go hB hb), (p1_ hF.out), (p2_ hF.out), (p3_ hF.out), (p4_ hF.out), (p5_ hF.out), (p6_ hF.out), (p7_ hF.out), (p8_ hF.out), (p9_ hF.out), (p10_ hF.out), (p11_ hF.out), (p12_ hF.out), (p13_ hF.out), (p14_ hF.out), (p15_ hF.out), (p16_ hF.out), (p17_ hF.out), (fun _ => rfl), (fun _ => rfl), (p20_ hF.out), (q21_ hF.out)⟩
          refine StepsF.cons (o := _) rfl (ws := [17, 18]) (by kernel_rfl) (by decide) (fun d s b w hF hd hw K_ hK => ?_) ?_
          · have hB : Below w10.heap.size w10 w := (p0_ hF.out)
            have e17 : s 69 = .bool true := (p18_ hF.out) (hw 17 (by decide))
            have e18 : s 70 = .bool true := (p19_ hF.out) (hw 18 (by decide))
            dsimp only
            go_simp
            exact hK.out (ups (ups (ups s 69 (.bool true)) 70 (.bool true)) 71 (.bool true)) b _ ⟨hB, (p1_ hF.out), (p2_ hF.out), (p3_ hF.out), (p4_ hF.out), (p5_ hF.out), (p6_ hF.out), (p7_ hF.out), (p8_ hF.out), (p9_ hF.out), (p10_ hF.out), (p11_ hF.out), (p12_ hF.out), (p13_ hF.out), (p14_ hF.out), (p15_ hF.out), (p16_ hF.out), (p17_ hF.out), (fun _ => rfl), (fun _ => rfl), (fun _ => rfl), (q21_ hF.out)⟩
          refine StepsF.cons (o := _) rfl (ws := [19, 18, 0, 1, 2, 3, 4, 5, 6, 7, 8, 9, 10, 11, 12, 13, 14, 15, 16, 17, 18, 19]) (by kernel_rfl) (by decide) (fun d s b w hF hd hw K_ hK => ?_) ?_
          · have hB : Below w10.heap.size w10 w := (p0_ hF.out)
            have e0 : s 52 = .pointer (some ⟨K, 0, none⟩) := (p1_ hF.out) (hw 0 (by decide))
            have e1 : s 53 = .agg (nums .u8 (byt T_) 16).toArray := (p2_ hF.out) (hw 1 (by decide))
            have e2 : s 54 = .agg (nums .u8 kf 32).toArray := (p3_ hF.out) (hw 2 (by decide))
            have e3 : s 55 = .slice pa tb ca := (p4_ hF.out) (hw 3 (by decide))
            have e4 : s 56 = .agg (nums .u8 (byt T_) 16).toArray := (p5_ hF.out) (hw 4 (by decide))
            have e5 : s 57 = .bool true := (p6_ hF.out) (hw 5 (by decide))
            have e6 : s 58 = .bool true := (p7_ hF.out) (hw 6 (by decide))
            have e7 : s 59 = .agg (nums .u8 (fun _ => 0) 16).toArray := (p8_ hF.out) (hw 7 (by decide))
            have e8 : s 60 = .agg (nums .u8 (fun _ => 0) 16).toArray := (p9_ hF.out) (hw 8 (by decide))
            have e9 : s 61 = .bool true := (p10_ hF.out) (hw 9 (by decide))
            have e10 : s 62 = .bool true := (p11_ hF.out) (hw 10 (by decide))
            have e11 : s 63 = .bool true := (p12_ hF.out) (hw 11 (by decide))
            have e12 : s 64 = .pointer none := (p13_ hF.out) (hw 12 (by decide))
            have e13 : s 65 = .agg (nums .u8 (fun _ => 0) 16).toArray := (p14_ hF.out) (hw 13 (by decide))
            have e14 : s 66 = .agg (nums .u8 (fun _ => 0) 16).toArray := (p15_ hF.out) (hw 14 (by decide))
            have e15 : s 67 = .bool true := (p16_ hF.out) (hw 15 (by decide))
            have e16 : s 68 = .bool true := (p17_ hF.out) (hw 16 (by decide))
            have e17 : s 69 = .bool true := (p18_ hF.out) (hw 17 (by decide))
            have e18 : s 70 = .bool true := (p19_ hF.out) (hw 18 (by decide))
            have e19 : s 71 = .bool true := (p20_ hF.out) (hw 19 (by decide))
            dsimp only
            go_simp
            exact hK.out (ups (ups (ups (ups (ups (ups (ups (ups (ups (ups (ups (ups (ups (ups (ups (ups (ups (ups (ups (ups (ups s 52 (.pointer (some ⟨K, 0, none⟩))) 53 (.agg (nums .u8 (byt T_) 16).toArray)) 54 (.agg (nums .u8 kf 32).toArray)) 55 (.slice pa tb ca)) 56 (.agg (nums .u8 (byt T_) 16).toArray)) 57 (.bool true)) 58 (.bool true)) 59 (.agg (nums .u8 (fun _ => 0) 16).toArray)) 60 (.agg (nums .u8 (fun _ => 0) 16).toArray)) 61 (.bool true)) 62 (.bool true)) 63 (.bool true)) 64 (.pointer none)) 65 (.agg (nums .u8 (fun _ => 0) 16).toArray)) 66 (.agg (nums .u8 (fun _ => 0) 16).toArray)) 67 (.bool true)) 68 (.bool true)) 69 (.bool true)) 70 (.bool true)) 71 (.bool true)) 4 (.bool true)) b _ ⟨hB, (fun _ => rfl), (fun _ => rfl), (fun _ => rfl), (fun _ => rfl), (fun _ => rfl), (fun _ => rfl), (fun _ => rfl), (fun _ => rfl), (fun _ => rfl), (fun _ => rfl), (fun _ => rfl), (fun _ => rfl), (fun _ => rfl), (fun _ => rfl), (fun _ => rfl), (fun _ => rfl), (fun _ => rfl), (fun _ => rfl), (fun _ => rfl), (fun _ => rfl), (fun _ => rfl)⟩
          exact StepsF.nil
        intro d s b ya hF hall
        replace hF := Lib.hid hF
        have hB : Below w10.heap.size w10 ya := (p0_ hF.out)
        try dsimp only
        have e0 : s 52 = .pointer (some ⟨K, 0, none⟩) := (p1_ hF.out) (hall 0 (by decide))
        have e1 : s 53 = .agg (nums .u8 (byt T_) 16).toArray := (p2_ hF.out) (hall 1 (by decide))
        have e2 : s 54 = .agg (nums .u8 kf 32).toArray := (p3_ hF.out) (hall 2 (by decide))
        have e3 : s 55 = .slice pa tb ca := (p4_ hF.out) (hall 3 (by decide))
        have e4 : s 56 = .agg (nums .u8 (byt T_) 16).toArray := (p5_ hF.out) (hall 4 (by decide))
        have e5 : s 57 = .bool true := (p6_ hF.out) (hall 5 (by decide))
        have e6 : s 58 = .bool true := (p7_ hF.out) (hall 6 (by decide))
        have e7 : s 59 = .agg (nums .u8 (fun _ => 0) 16).toArray := (p8_ hF.out) (hall 7 (by decide))
        have e8 : s 60 = .agg (nums .u8 (fun _ => 0) 16).toArray := (p9_ hF.out) (hall 8 (by decide))
        have e9 : s 61 = .bool true := (p10_ hF.out) (hall 9 (by decide))
        have e10 : s 62 = .bool true := (p11_ hF.out) (hall 10 (by decide))
        have e11 : s 63 = .bool true := (p12_ hF.out) (hall 11 (by decide))
        have e12 : s 64 = .pointer none := (p13_ hF.out) (hall 12 (by decide))
        have e13 : s 65 = .agg (nums .u8 (fun _ => 0) 16).toArray := (p14_ hF.out) (hall 13 (by decide))
        have e14 : s 66 = .agg (nums .u8 (fun _ => 0) 16).toArray := (p15_ hF.out) (hall 14 (by decide))
        have e15 : s 67 = .bool true := (p16_ hF.out) (hall 15 (by decide))
        have e16 : s 68 = .bool true := (p17_ hF.out) (hall 16 (by decide))
        have e17 : s 69 = .bool true := (p18_ hF.out) (hall 17 (by decide))
        have e18 : s 70 = .bool true := (p19_ hF.out) (hall 18 (by decide))
        have e19 : s 71 = .bool true := (p20_ hF.out) (hall 19 (by decide))
        have e20 : s 4 = .bool true := (q21_ hF.out) (hall 20 (by decide))
        rw [e0, e1, e2, e3, e4, e5, e6, e7, e8, e9, e10, e11, e12, e13, e14, e15, e16, e17, e18, e19, e20]
        clear hall hF e0 e1 e2 e3 e4 e5 e6 e7 e8 e9 e10 e11 e12 e13 e14 e15 e16 e17 e18 e19 e20
        clear d s b
        go_wp2_with (fail)
        go_ret
        exact ⟨rfl, Below.go HB.out hB⟩
      · obtain rfl : KP = k := by omega
        have i1 : decide ((KP : Int) < (np : Int)) = false := decide_eq_false (by omega)
        have i1n : decide (KP < np) = false := decide_eq_false hq
        have i3 : ¬ (KP : Int) < (np : Int) := by omega
        clear hlt hk hq
        obtain ⟨tb, eT⟩ : ∃ x, T KP = x := ⟨_, rfl⟩
        have T6 := Lib.hid (show tb ≤ 65536 by rw [← eT]; exact HT6.out KP (Nat.le_refl _))
        have GB1 : Hid (∀ i, i < tb → inB (g i)) := Lib.hid (by rw [← eT]; exact GB.out)
        rw [eT] at RA HK MM
        rw [eT]
        clear eT HT6 HTM HG GB HTT HT HT0 DF HD
        go_upto_region 14 with fail
        obtain ⟨W6, hW⟩ : ∃ W, W = wr.alloc (.cells #[.int .u8 0, .int .u8 0, .int .u8 0, .int .u8 0, .int .u8 0, .int .u8 0, .int .u8 0, .int .u8 0, .int .u8 0, .int .u8 0, .int .u8 0, .int .u8 0, .int .u8 0, .int .u8 0, .int .u8 0, .int .u8 0, .int .u8 0, .int .u8 0, .int .u8 0, .int .u8 0, .int .u8 0, .int .u8 0, .int .u8 0, .int .u8 0, .int .u8 0, .int .u8 0, .int .u8 0, .int .u8 0, .int .u8 0, .int .u8 0, .int .u8 0, .int .u8 0, .bool false, .slice none 0 0] 35) := ⟨_, rfl⟩
        have hb : Below wr.heap.size wr W6 := hW ▸ Below.al (Below.refl _ _)
        have HN : Hid (Own wr.heap.size [.int .u8 0, .int .u8 0, .int .u8 0, .int .u8 0, .int .u8 0, .int .u8 0, .int .u8 0, .int .u8 0, .int .u8 0, .int .u8 0, .int .u8 0, .int .u8 0, .int .u8 0, .int .u8 0, .int .u8 0, .int .u8 0, .int .u8 0, .int .u8 0, .int .u8 0, .int .u8 0, .int .u8 0, .int .u8 0, .int .u8 0, .int .u8 0, .int .u8 0, .int .u8 0, .int .u8 0, .int .u8 0, .int .u8 0, .int .u8 0, .int .u8 0, .int .u8 0, .bool false, .slice none 0 0] W6) := Lib.hid (hW ▸ Own.newAt rfl)
        rw [← hW]
        clear hW
        obtain ⟨N_, eN⟩ : ∃ X, X = wr.heap.size := ⟨_, rfl⟩
        rw [← eN] at HN ⊢
        clear eN
        replace RA := Lib.hid (row_later RA.out hb); replace HK := Lib.hid (HK.out.later hb); replace MM := Lib.hid (MM.out.later hb HS.out); replace HB := Lib.hid (Below.go HB.out hb); replace HS := Lib.hid (Nat.le_trans HS.out hb.size); replace HY := Lib.hid (HY.out.later hb)
        clear hb
        refine wp_region_lit ?_
        refine wpList_slN rfl 26 5 1 _ rfl .u8 [120] (fun _ => 120) Try.underlying26 (by kernel_rfl) (by kernel_rfl) rfl (by decide) (by decide) (by kernel_rfl) (by kernel_rfl) ?_
        refine wpList_conv rfl _ rfl rfl ?_
        obtain ⟨W7, hW⟩ : ∃ W, W = (W6.alloc (.cells (nums .u8 (fun _ => 120) 1).toArray 5 ((nums .u8 (fun _ => 120) 1).toArray.size, (nums .u8 (fun _ => 120) 1).toArray.size + 1))) := ⟨_, rfl⟩
        have hb : Below W6.heap.size W6 W7 := hW ▸ Below.al (Below.refl _ _)
        rw [← hW]
        clear hW
        obtain ⟨A_, eA⟩ : ∃ X, X = W6.heap.size := ⟨_, rfl⟩
        rw [← eA]
        clear eA
        replace RA := Lib.hid (row_later RA.out hb); replace HK := Lib.hid (HK.out.later hb); replace MM := Lib.hid (MM.out.later hb HS.out); replace HB := Lib.hid (Below.go HB.out hb); replace HS := Lib.hid (Nat.le_trans HS.out hb.size); replace HY := Lib.hid (HY.out.later hb)
        replace HN := Lib.hid (HN.out.later hb)
        clear hb
        go_wp2_with (fail)
        obtain ⟨W8, hW⟩ : ∃ W, W = W7.alloc (.cells #[.slice (some ⟨A_, 0, none⟩) 1 1] 26) := ⟨_, rfl⟩
        have hb : Below W7.heap.size W7 W8 := hW ▸ Below.al (Below.refl _ _)
        rw [← hW]
        clear hW
        obtain ⟨A_2, eA⟩ : ∃ X, X = W7.heap.size := ⟨_, rfl⟩
        rw [← eA]
        clear eA
        replace RA := Lib.hid (row_later RA.out hb); replace HK := Lib.hid (HK.out.later hb); replace MM := Lib.hid (MM.out.later hb HS.out); replace HB := Lib.hid (Below.go HB.out hb); replace HS := Lib.hid (Nat.le_trans HS.out hb.size); replace HY := Lib.hid (HY.out.later hb)
        replace HN := Lib.hid (HN.out.later hb)
        clear hb
        go_at_call 7
        refine (Add_none N_ _ _ (HN.out.at 32 _ rfl)).mono ?_
        rintro e w9 ⟨rfl, rfl⟩
        go_upto_region 16 with fail
        refine wp_region_lit ?_
        refine wpList_move rfl _ rfl ?_
        refine wpList_slN rfl 26 5 1 _ rfl .u8 [120] (fun _ => 120) Try.underlying26 (by kernel_rfl) (by kernel_rfl) rfl (by decide) (by decide) (by kernel_rfl) (by kernel_rfl) ?_
        refine wpList_conv rfl _ rfl rfl ?_
        obtain ⟨W9, hW⟩ : ∃ W, W = (w9.alloc (.cells (nums .u8 (fun _ => 120) 1).toArray 5 ((nums .u8 (fun _ => 120) 1).toArray.size, (nums .u8 (fun _ => 120) 1).toArray.size + 1))) := ⟨_, rfl⟩
        have hb : Below w9.heap.size w9 W9 := hW ▸ Below.al (Below.refl _ _)
        rw [← hW]
        clear hW
        obtain ⟨C_, eA⟩ : ∃ X, X = w9.heap.size := ⟨_, rfl⟩
        rw [← eA]
        clear eA
        replace RA := Lib.hid (row_later RA.out hb); replace HK := Lib.hid (HK.out.later hb); replace MM := Lib.hid (MM.out.later hb HS.out); replace HB := Lib.hid (Below.go HB.out hb); replace HS := Lib.hid (Nat.le_trans HS.out hb.size); replace HY := Lib.hid (HY.out.later hb)
        replace HN := Lib.hid (HN.out.later hb)
        clear hb
        go_wp2_with (fail)
        obtain ⟨X1, hW⟩ : ∃ W, W = W9.alloc (.cells #[.slice (some ⟨C_, 0, none⟩) 1 1] 26) := ⟨_, rfl⟩
        have hb : Below W9.heap.size W9 X1 := hW ▸ Below.al (Below.refl _ _)
        rw [← hW]
        clear hW
        obtain ⟨C_2, eA⟩ : ∃ X, X = W9.heap.size := ⟨_, rfl⟩
        rw [← eA]
        clear eA
        replace RA := Lib.hid (row_later RA.out hb); replace HK := Lib.hid (HK.out.later hb); replace MM := Lib.hid (MM.out.later hb HS.out); replace HB := Lib.hid (Below.go HB.out hb); replace HS := Lib.hid (Nat.le_trans HS.out hb.size); replace HY := Lib.hid (HY.out.later hb)
        replace HN := Lib.hid (HN.out.later hb)
        clear hb
        go_at_call 7
        refine (Add_nil _ _).mono ?_
        rintro e w10 ⟨rfl, rfl⟩
        go_upto_region 17 with fail
        have KLT := HS.out
        have BM5 := Lib.hid MM.out.2.2.2.1.byt
        have BA5 := Lib.hid (byt_row RA.out).2
        have CP5 := Lib.hid (row_cap_ RA.out)
        have SU := Lib.hid (fun w hK hb => Sum_any kf g K pm tb cm KB.out GB1.out T6.out MM.out.1 MM.out.2.1 w hK hb)
        have RT := Lib.hid (fun w hb => RTag_any kf g pa tb ca KB.out GB1.out T6.out CP5.out.1 CP5.out.2 w hb)
        obtain ⟨T_, eT⟩ : ∃ x, tagN kf g tb = x := ⟨_, rfl⟩
        rw [eT] at SU RT
        clear eT
        have EQ := Lib.hid (fun w => EQS.out (byt T_) w)
        have EZ := Lib.hid (fun w => EQS.out (fun _ => 0) w)
        rw [eqB_self] at EQ EZ
        refine wp_region_fun 21 (by kernel_rfl) (by kernel_rfl) rfl (fun s b => ⟨#[.agg (nums .u8 kf 32).toArray, .slice p np cp, .pointer (some ⟨Y, 0, none⟩), undef, s 4, .pointer (some ⟨K, 0, none⟩), .slice pa tb ca, .int .i64 KP, u8, .pointer (some ⟨N_, 0, none⟩), .pointer none, .agg (nums .u8 kf 32).toArray, .pointer (some ⟨K, 0, none⟩), .pointer (some ⟨K, 0, none⟩), .bool false, .int .i64 KP, .slice p np cp, .int .i64 np, .bool false, .bool false, undef, undef, .bool false, u23, u24, u25, u26, u27, u28, u29, u30, u31, u32, u33, u34, u35, u36, u37, u38, u39, u40, u41, u42, .slice (some ⟨A_, 0, none⟩) 1 1, .slice (some ⟨A_, 0, none⟩) 1 1, .slice (some ⟨A_2, 0, none⟩) 1 1, .tuple #[], .pointer none, .slice (some ⟨C_, 0, none⟩) 1 1, .slice (some ⟨C_, 0, none⟩) 1 1, .slice (some ⟨C_2, 0, none⟩) 1 1, .tuple #[], s 52, s 53, s 54, s 55, s 56, s 57, s 58, s 59, s 60, s 61, s 62, s 63, s 64, s 65, s 66, s 67, s 68, s 69, s 70, s 71], []⟩) (fun d s b w => (Below w10.heap.size w10 w) ∧ (d 0 = true → s 52 = .pointer (some ⟨K, 0, none⟩)) ∧ (d 1 = true → s 53 = .agg (nums .u8 (byt T_) 16).toArray) ∧ (d 2 = true → s 54 = .agg (nums .u8 kf 32).toArray) ∧ (d 3 = true → s 55 = .slice pa tb ca) ∧ (d 4 = true → s 56 = .agg (nums .u8 (byt T_) 16).toArray) ∧ (d 5 = true → s 57 = .bool true) ∧ (d 6 = true → s 58 = .bool true) ∧ (d 7 = true → s 59 = .agg (nums .u8 (fun _ => 0) 16).toArray) ∧ (d 8 = true → s 60 = .agg (nums .u8 (fun _ => 0) 16).toArray) ∧ (d 9 = true → s 61 = .bool true) ∧ (d 10 = true → s 62 = .bool true) ∧ (d 11 = true → s 63 = .bool true) ∧ (d 12 = true → s 64 = .pointer none) ∧ (d 13 = true → s 65 = .agg (nums .u8 (fun _ => 0) 16).toArray) ∧ (d 14 = true → s 66 = .agg (nums .u8 (fun _ => 0) 16).toArray) ∧ (d 15 = true → s 67 = .bool true) ∧ (d 16 = true → s 68 = .bool true) ∧ (d 17 = true → s 69 = .bool true) ∧ (d 18 = true → s 70 = .bool true) ∧ (d 19 = true → s 71 = .bool true) ∧ (d 20 = true → s 4 = .bool true)) rfl ?h0yb (?styb : StepsF _ _ _ _ 21 _ _ [0, 1, 2, 3, 4, 5, 6, 7, 8, 9, 10, 11, 12, 13, 14, 15, 16, 17, 18, 19, 20]) ?dnyb
        case h0yb => exact ⟨Below.drew (Below.refl _ _), (fun h => nomatch h), (fun h => nomatch h), (fun h => nomatch h), (fun h => nomatch h), (fun h => nomatch h), (fun h => nomatch h), (fun h => nomatch h), (fun h => nomatch h), (fun h => nomatch h), (fun h => nomatch h), (fun h => nomatch h), (fun h => nomatch h), (fun h => nomatch h), (fun h => nomatch h), (fun h => nomatch h), (fun h => nomatch h), (fun h => nomatch h), (fun h => nomatch h), (fun h => nomatch h), (fun h => nomatch h), (fun h => nomatch h)⟩
        case styb =>
          refine StepsF.cons (o := _) rfl (ws := []) (by kernel_rfl) (by decide) (fun d s b w hF hd hw K_ hK => ?_) ?_
          · have hB : Below w10.heap.size w10 w := (p0_ hF.out)
            dsimp only
            go_simp
            exact hK.out (ups s 52 (.pointer (some ⟨K, 0, none⟩))) b _ ⟨hB, (fun _ => rfl), (p2_ hF.out), (p3_ hF.out), (p4_ hF.out), (p5_ hF.out), (p6_ hF.out), (p7_ hF.out), (p8_ hF.out), (p9_ hF.out), (p10_ hF.out), (p11_ hF.out), (p12_ hF.out), (p13_ hF.out), (p14_ hF.out), (p15_ hF.out), (p16_ hF.out), (p17_ hF.out), (p18_ hF.out), (p19_ hF.out), (p20_ hF.out), (q21_ hF.out)⟩
          refine StepsF.cons (o := _) rfl (ws := [0]) (by kernel_rfl) (by decide) (fun d s b w hF hd hw K_ hK => ?_) ?_
          · have hB : Below w10.heap.size w10 w := (p0_ hF.out)
            have e0 : s 52 = .pointer (some ⟨K, 0, none⟩) := (p1_ hF.out) (hw 0 (by decide))
            dsimp only
            go_simp
            go_at_call 8
            refine (SU.out _ (HK.out.later hB) (BM5.out.later hB)).mono ?_
            rintro e w1 ⟨rfl, hb⟩
            exact hK.out (ups (ups s 52 (.pointer (some ⟨K, 0, none⟩))) 53 (.agg (nums .u8 (byt T_) 16).toArray)) b _ ⟨(Below.go hB hb), (fun _ => rfl), (fun _ => rfl), (p3_ hF.out), (p4_ hF.out), (p5_ hF.out), (p6_ hF.out), (p7_ hF.out), (p8_ hF.out), (p9_ hF.out), (p10_ hF.out), (p11_ hF.out), (p12_ hF.out), (p13_ hF.out), (p14_ hF.out), (p15_ hF.out), (p16_ hF.out), (p17_ hF.out), (p18_ hF.out), (p19_ hF.out), (p20_ hF.out), (q21_ hF.out)⟩
          refine StepsF.cons (o := _) rfl (ws := []) (by kernel_rfl) (by decide) (fun d s b w hF hd hw K_ hK => ?_) ?_
          · have hB : Below w10.heap.size w10 w := (p0_ hF.out)
            refine step_load (by simp [Region.wanted]) 22 _ rfl Y 0 rfl (nums .u8 kf 32) _ (HY.out.later hB).cell Try.underlying22 rfl (by kernel_rfl) ?_
            exact hK.out (ups s 54 (.agg (nums .u8 kf 32).toArray)) b _ ⟨hB, (p1_ hF.out), (p2_ hF.out), (fun _ => rfl), (p4_ hF.out), (p5_ hF.out), (p6_ hF.out), (p7_ hF.out), (p8_ hF.out), (p9_ hF.out), (p10_ hF.out), (p11_ hF.out), (p12_ hF.out), (p13_ hF.out), (p14_ hF.out), (p15_ hF.out), (p16_ hF.out), (p17_ hF.out), (p18_ hF.out), (p19_ hF.out), (p20_ hF.out), (q21_ hF.out)⟩
          refine StepsF.cons (o := _) rfl (ws := []) (by kernel_rfl) (by decide) (fun d s b w hF hd hw K_ hK => ?_) ?_
          · have hB : Below w10.heap.size w10 w := (p0_ hF.out)
            dsimp only
            go_simp
            exact hK.out (ups s 55 (.slice pa tb ca)) b _ ⟨hB, (p1_ hF.out), (p2_ hF.out), (p3_ hF.out), (fun _ => rfl), (p5_ hF.out), (p6_ hF.out), (p7_ hF.out), (p8_ hF.out), (p9_ hF.out), (p10_ hF.out), (p11_ hF.out), (p12_ hF.out), (p13_ hF.out), (p14_ hF.out), (p15_ hF.out), (p16_ hF.out), (p17_ hF.out), (p18_ hF.out), (p19_ hF.out), (p20_ hF.out), (q21_ hF.out)⟩
          refine StepsF.cons (o := _) rfl (ws := [2, 3, 1]) (by kernel_rfl) (by decide) (fun d s b w hF hd hw K_ hK => ?_) ?_
          · have hB : Below w10.heap.size w10 w := (p0_ hF.out)
            have e1 : s 53 = .agg (nums .u8 (byt T_) 16).toArray := (p2_ hF.out) (hw 1 (by decide))
            have e2 : s 54 = .agg (nums .u8 kf 32).toArray := (p3_ hF.out) (hw 2 (by decide))
            have e3 : s 55 = .slice pa tb ca := (p4_ hF.out) (hw 3 (by decide))
            dsimp only
            go_simp
            go_at_call 9
            refine (RT.out _ (BA5.out.later hB)).mono ?_
            rintro e w1 ⟨rfl, hb⟩
            exact hK.out (ups (ups (ups (ups s 53 (.agg (nums .u8 (byt T_) 16).toArray)) 54 (.agg (nums .u8 kf 32).toArray)) 55 (.slice pa tb ca)) 56 (.agg (nums .u8 (byt T_) 16).toArray)) b _ ⟨(Below.go hB hb), (p1_ hF.out), (fun _ => rfl), (fun _ => rfl), (fun _ => rfl), (fun _ => rfl), (p6_ hF.out), (p7_ hF.out), (p8_ hF.out), (p9_ hF.out), (p10_ hF.out), (p11_ hF.out), (p12_ hF.out), (p13_ hF.out), (p14_ hF.out), (p15_ hF.out), (p16_ hF.out), (p17_ hF.out), (p18_ hF.out), (p19_ hF.out), (p20_ hF.out), (q21_ hF.out)⟩
          refine StepsF.cons (o := _) rfl (ws := [1, 4]) (by kernel_rfl) (by decide) (fun d s b w hF hd hw K_ hK => ?_) ?_
          · have hB : Below w10.heap.size w10 w := (p0_ hF.out)
            have e1 : s 53 = .agg (nums .u8 (byt T_) 16).toArray := (p2_ hF.out) (hw 1 (by decide))
            have e4 : s 56 = .agg (nums .u8 (byt T_) 16).toArray := (p5_ hF.out) (hw 4 (by decide))
            dsimp only
            have hq := EQ.out w
            go_simp
            exact hK.out (ups (ups (ups s 53 (.agg (nums .u8 (byt T_) 16).toArray)) 56 (.agg (nums .u8 (byt T_) 16).toArray)) 57 (.bool true)) b _ ⟨hB, (p1_ hF.out), (fun _ => rfl), (p3_ hF.out), (p4_ hF.out), (fun _ => rfl), (fun _ => rfl), (p7_ hF.out), (p8_ hF.out), (p9_ hF.out), (p10_ hF.out), (p11_ hF.out), (p12_ hF.out), (p13_ hF.out), (p14_ hF.out), (p15_ hF.out), (p16_ hF.out), (p17_ hF.out), (p18_ hF.out), (p19_ hF.out), (p20_ hF.out), (q21_ hF.out)⟩
          refine StepsF.cons (o := _) rfl (ws := [5, 4]) (by kernel_rfl) (by decide) (fun d s b w hF hd hw K_ hK => ?_) ?_
          · have hB : Below w10.heap.size w10 w := (p0_ hF.out)
            have e4 : s 56 = .agg (nums .u8 (byt T_) 16).toArray := (p5_ hF.out) (hw 4 (by decide))
            have e5 : s 57 = .bool true := (p6_ hF.out) (hw 5 (by decide))
            dsimp only
            go_simp
            exact hK.out (ups (ups (ups s 56 (.agg (nums .u8 (byt T_) 16).toArray)) 57 (.bool true)) 58 (.bool true)) b _ ⟨hB, (p1_ hF.out), (p2_ hF.out), (p3_ hF.out), (p4_ hF.out), (fun _ => rfl), (fun _ => rfl), (fun _ => rfl), (p8_ hF.out), (p9_ hF.out), (p10_ hF.out), (p11_ hF.out), (p12_ hF.out), (p13_ hF.out), (p14_ hF.out), (p15_ hF.out), (p16_ hF.out), (p17_ hF.out), (p18_ hF.out), (p19_ hF.out), (p20_ hF.out), (q21_ hF.out)⟩
          refine StepsF.cons (o := _) rfl (ws := [6, 6]) (by kernel_rfl) (by decide) (fun d s b w hF hd hw K_ hK => ?_) ?_
          · have hB : Below w10.heap.size w10 w := (p0_ hF.out)
            have e6 : s 58 = .bool true := (p7_ hF.out) (hw 6 (by decide))
            dsimp only
            go_simp
            go_at_call 8
            refine (Sum_none N_ _ (HN.out.later hB).lt ((HN.out.later hB).at 32 _ rfl)).mono ?_
            rintro e w1 ⟨rfl, hb⟩
            exact hK.out (ups (ups s 58 (.bool true)) 59 (.agg (nums .u8 (fun _ => 0) 16).toArray)) b _ ⟨(Below.go hB hb), (p1_ hF.out), (p2_ hF.out), (p3_ hF.out), (p4_ hF.out), (p5_ hF.out), (p6_ hF.out), (fun _ => rfl), (fun _ => rfl), (p9_ hF.out), (p10_ hF.out), (p11_ hF.out), (p12_ hF.out), (p13_ hF.out), (p14_ hF.out), (p15_ hF.out), (p16_ hF.out), (p17_ hF.out), (p18_ hF.out), (p19_ hF.out), (p20_ hF.out), (q21_ hF.out)⟩
          refine StepsF.cons (o := _) rfl (ws := [6]) (by kernel_rfl) (by decide) (fun d s b w hF hd hw K_ hK => ?_) ?_
          · have hB : Below w10.heap.size w10 w := (p0_ hF.out)
            have e6 : s 58 = .bool true := (p7_ hF.out) (hw 6 (by decide))
            dsimp only
            go_simp
            exact hK.out (ups (ups s 58 (.bool true)) 60 (.agg (nums .u8 (fun _ => 0) 16).toArray)) b _ ⟨hB, (p1_ hF.out), (p2_ hF.out), (p3_ hF.out), (p4_ hF.out), (p5_ hF.out), (p6_ hF.out), (fun _ => rfl), (p8_ hF.out), (fun _ => rfl), (p10_ hF.out), (p11_ hF.out), (p12_ hF.out), (p13_ hF.out), (p14_ hF.out), (p15_ hF.out), (p16_ hF.out), (p17_ hF.out), (p18_ hF.out), (p19_ hF.out), (p20_ hF.out), (q21_ hF.out)⟩
          refine StepsF.cons (o := _) rfl (ws := [7, 8, 6]) (by kernel_rfl) (by decide) (fun d s b w hF hd hw K_ hK => ?_) ?_
          · have hB : Below w10.heap.size w10 w := (p0_ hF.out)
            have e6 : s 58 = .bool true := (p7_ hF.out) (hw 6 (by decide))
            have e7 : s 59 = .agg (nums .u8 (fun _ => 0) 16).toArray := (p8_ hF.out) (hw 7 (by decide))
            have e8 : s 60 = .agg (nums .u8 (fun _ => 0) 16).toArray := (p9_ hF.out) (hw 8 (by decide))
            dsimp only
            have hq := EZ.out w
            go_simp
            exact hK.out (ups (ups (ups (ups s 58 (.bool true)) 59 (.agg (nums .u8 (fun _ => 0) 16).toArray)) 60 (.agg (nums .u8 (fun _ => 0) 16).toArray)) 61 (.bool true)) b _ ⟨hB, (p1_ hF.out), (p2_ hF.out), (p3_ hF.out), (p4_ hF.out), (p5_ hF.out), (p6_ hF.out), (fun _ => rfl), (fun _ => rfl), (fun _ => rfl), (fun _ => rfl), (p11_ hF.out), (p12_ hF.out), (p13_ hF.out), (p14_ hF.out), (p15_ hF.out), (p16_ hF.out), (p17_ hF.out), (p18_ hF.out), (p19_ hF.out), (p20_ hF.out), (q21_ hF.out)⟩
          refine StepsF.cons (o := _) rfl (ws := [6, 9]) (by kernel_rfl) (by decide) (fun d s b w hF hd hw K_ hK => ?_) ?_
          · have hB : Below w10.heap.size w10 w := (p0_ hF.out)
            have e6 : s 58 = .bool true := (p7_ hF.out) (hw 6 (by decide))
            have e9 : s 61 = .bool true := (p10_ hF.out) (hw 9 (by decide))
            dsimp only
            go_simp
            exact hK.out (ups (ups (ups s 58 (.bool true)) 61 (.bool true)) 62 (.bool true)) b _ ⟨hB, (p1_ hF.out), (p2_ hF.out), (p3_ hF.out), (p4_ hF.out), (p5_ hF.out), (p6_ hF.out), (fun _ => rfl), (p8_ hF.out), (p9_ hF.out), (fun _ => rfl), (fun _ => rfl), (p12_ hF.out), (p13_ hF.out), (p14_ hF.out), (p15_ hF.out), (p16_ hF.out), (p17_ hF.out), (p18_ hF.out), (p19_ hF.out), (p20_ hF.out), (q21_ hF.out)⟩
          refine StepsF.cons (o := _) rfl (ws := [10, 7]) (by kernel_rfl) (by decide) (fun d s b w hF hd hw K_ hK => ?_) ?_
          · have hB : Below w10.heap.size w10 w := (p0_ hF.out)
            have e7 : s 59 = .agg (nums .u8 (fun _ => 0) 16).toArray := (p8_ hF.out) (hw 7 (by decide))
            have e10 : s 62 = .bool true := (p11_ hF.out) (hw 10 (by decide))
            dsimp only
            go_simp
            exact hK.out (ups (ups (ups s 59 (.agg (nums .u8 (fun _ => 0) 16).toArray)) 62 (.bool true)) 63 (.bool true)) b _ ⟨hB, (p1_ hF.out), (p2_ hF.out), (p3_ hF.out), (p4_ hF.out), (p5_ hF.out), (p6_ hF.out), (p7_ hF.out), (fun _ => rfl), (p9_ hF.out), (p10_ hF.out), (fun _ => rfl), (fun _ => rfl), (p13_ hF.out), (p14_ hF.out), (p15_ hF.out), (p16_ hF.out), (p17_ hF.out), (p18_ hF.out), (p19_ hF.out), (p20_ hF.out), (q21_ hF.out)⟩
          refine StepsF.cons (o := _) rfl (ws := [11]) (by kernel_rfl) (by decide) (fun d s b w hF hd hw K_ hK => ?_) ?_
          · have hB : Below w10.heap.size w10 w := (p0_ hF.out)
            have e11 : s 63 = .bool true := (p12_ hF.out) (hw 11 (by decide))
            dsimp only
            go_simp
            exact hK.out (ups (ups s 63 (.bool true)) 64 (.pointer none)) b _ ⟨hB, (p1_ hF.out), (p2_ hF.out), (p3_ hF.out), (p4_ hF.out), (p5_ hF.out), (p6_ hF.out), (p7_ hF.out), (p8_ hF.out), (p9_ hF.out), (p10_ hF.out), (p11_ hF.out), (fun _ => rfl), (fun _ => rfl), (p14_ hF.out), (p15_ hF.out), (p16_ hF.out), (p17_ hF.out), (p18_ hF.out), (p19_ hF.out), (p20_ hF.out), (q21_ hF.out)⟩
          refine StepsF.cons (o := _) rfl (ws := [12, 11, 11]) (by kernel_rfl) (by decide) (fun d s b w hF hd hw K_ hK => ?_) ?_
          · have hB : Below w10.heap.size w10 w := (p0_ hF.out)
            have e11 : s 63 = .bool true := (p12_ hF.out) (hw 11 (by decide))
            have e12 : s 64 = .pointer none := (p13_ hF.out) (hw 12 (by decide))
            dsimp only
            go_simp
            go_at_call 8
            refine (Sum_nil _).mono ?_
            rintro e w1 ⟨rfl, hb⟩
            exact hK.out (ups (ups (ups s 63 (.bool true)) 64 (.pointer none)) 65 (.agg (nums .u8 (fun _ => 0) 16).toArray)) b _ ⟨(Below.go hB hb), (p1_ hF.out), (p2_ hF.out), (p3_ hF.out), (p4_ hF.out), (p5_ hF.out), (p6_ hF.out), (p7_ hF.out), (p8_ hF.out), (p9_ hF.out), (p10_ hF.out), (p11_ hF.out), (fun _ => rfl), (fun _ => rfl), (fun _ => rfl), (p15_ hF.out), (p16_ hF.out), (p17_ hF.out), (p18_ hF.out), (p19_ hF.out), (p20_ hF.out), (q21_ hF.out)⟩
          refine StepsF.cons (o := _) rfl (ws := [11]) (by kernel_rfl) (by decide) (fun d s b w hF hd hw K_ hK => ?_) ?_
          · have hB : Below w10.heap.size w10 w := (p0_ hF.out)
            have e11 : s 63 = .bool true := (p12_ hF.out) (hw 11 (by decide))
            dsimp only
            go_simp
            exact hK.out (ups (ups s 63 (.bool true)) 66 (.agg (nums .u8 (fun _ => 0) 16).toArray)) b _ ⟨hB, (p1_ hF.out), (p2_ hF.out), (p3_ hF.out), (p4_ hF.out), (p5_ hF.out), (p6_ hF.out), (p7_ hF.out), (p8_ hF.out), (p9_ hF.out), (p10_ hF.out), (p11_ hF.out), (fun _ => rfl), (p13_ hF.out), (p14_ hF.out), (fun _ => rfl), (p16_ hF.out), (p17_ hF.out), (p18_ hF.out), (p19_ hF.out), (p20_ hF.out), (q21_ hF.out)⟩
          refine StepsF.cons (o := _) rfl (ws := [13, 14, 11]) (by kernel_rfl) (by decide) (fun d s b w hF hd hw K_ hK => ?_) ?_
          · have hB : Below w10.heap.size w10 w := (p0_ hF.out)
            have e11 : s 63 = .bool true := (p12_ hF.out) (hw 11 (by decide))
            have e13 : s 65 = .agg (nums .u8 (fun _ => 0) 16).toArray := (p14_ hF.out) (hw 13 (by decide))
            have e14 : s 66 = .agg (nums .u8 (fun _ => 0) 16).toArray := (p15_ hF.out) (hw 14 (by decide))
            dsimp only
            have hq := EZ.out w
            go_simp
            exact hK.out (ups (ups (ups (ups s 63 (.bool true)) 65 (.agg (nums .u8 (fun _ => 0) 16).toArray)) 66 (.agg (nums .u8 (fun _ => 0) 16).toArray)) 67 (.bool true)) b _ ⟨hB, (p1_ hF.out), (p2_ hF.out), (p3_ hF.out), (p4_ hF.out), (p5_ hF.out), (p6_ hF.out), (p7_ hF.out), (p8_ hF.out), (p9_ hF.out), (p10_ hF.out), (p11_ hF.out), (fun _ => rfl), (p13_ hF.out), (fun _ => rfl), (fun _ => rfl), (fun _ => rfl), (p17_ hF.out), (p18_ hF.out), (p19_ hF.out), (p20_ hF.out), (q21_ hF.out)⟩
          refine StepsF.cons (o := _) rfl (ws := [11, 15]) (by kernel_rfl) (by decide) (fun d s b w hF hd hw K_ hK => ?_) ?_
          · have hB : Below w10.heap.size w10 w := (p0_ hF.out)
            have e11 : s 63 = .bool true := (p12_ hF.out) (hw 11 (by decide))
            have e15 : s 67 = .bool true := (p16_ hF.out) (hw 15 (by decide))
            dsimp only
            go_simp
            exact hK.out (ups (ups (ups s 63 (.bool true)) 67 (.bool true)) 68 (.bool true)) b _ ⟨hB, (p1_ hF.out), (p2_ hF.out), (p3_ hF.out), (p4_ hF.out), (p5_ hF.out), (p6_ hF.out), (p7_ hF.out), (p8_ hF.out), (p9_ hF.out), (p10_ hF.out), (p11_ hF.out), (fun _ => rfl), (p13_ hF.out), (p14_ hF.out), (p15_ hF.out), (fun _ => rfl), (fun _ => rfl), (p18_ hF.out), (p19_ hF.out), (p20_ hF.out), (q21_ hF.out)⟩
          refine StepsF.cons (o := _) rfl (ws := [16, 13]) (by kernel_rfl) (by decide) (fun d s b w hF hd hw K_ hK => ?_) ?_
          · have hB : Below w10.heap.size w10 w := (p0_ hF.out)
            have e13 : s 65 = .agg (nums .u8 (fun _ => 0) 16).toArray := (p14_ hF.out) (hw 13 (by decide))
            have e16 : s 68 = .bool true := (p17_ hF.out) (hw 16 (by decide))
            dsimp only
            go_simp
            exact hK.out (ups (ups (ups s 65 (.agg (nums .u8 (fun _ => 0) 16).toArray)) 68 (.bool true)) 69 (.bool true)) b _ ⟨hB, (p1_ hF.out), (p2_ hF.out), (p3_ hF.out), (p4_ hF.out), (p5_ hF.out), (p6_ hF.out), (p7_ hF.out), (p8_ hF.out), (p9_ hF.out), (p10_ hF.out), (p11_ hF.out), (p12_ hF.out), (p13_ hF.out), (fun _ => rfl), (p15_ hF.out), (p16_ hF.out), (fun _ => rfl), (fun _ => rfl), (p19_ hF.out), (p20_ hF.out), (q21_ hF.out)⟩
          refine StepsF.cons (o := _) rfl (ws := [17, 17]) (by kernel_rfl) (by decide) (fun d s b w hF hd hw K_ hK => ?_) ?_
          · have hB : Below w10.heap.size w10 w := (p0_ hF.out)
            have e17 : s 69 = .bool true := (p18_ hF.out) (hw 17 (by decide))
            dsimp only
            go_simp
            go_at_call 10
            refine (works_any _).mono ?_
            rintro e w1 ⟨rfl, hb⟩
            exact hK.out (ups (ups s 69 (.bool true)) 70 (.bool true)) b _ ⟨(Below.go hB hb), (p1_ hF.out), (p2_ hF.out), (p3_ hF.out), (p4_ hF.out), (p5_ hF.out), (p6_ hF.out), (p7_ hF.out), (p8_ hF.out), (p9_ hF.out), (p10_ hF.out), (p11_ hF.out), (p12_ hF.out), (p13_ hF.out), (p14_ hF.out), (p15_ hF.out), (p16_ hF.out), (p17_ hF.out), (fun _ => rfl), (fun _ => rfl), (p20_ hF.out), (q21_ hF.out)⟩
          refine StepsF.cons (o := _) rfl (ws := [17, 18]) (by kernel_rfl) (by decide) (fun d s b w hF hd hw K_ hK => ?_) ?_
          · have hB : Below w10.heap.size w10 w := (p0_ hF.out)
            have e17 : s 69 = .bool true := (p18_ hF.out) (hw 17 (by decide))
            have e18 : s 70 = .bool true := (p19_ hF.out) (hw 18 (by decide))
            dsimp only
            go_simp
            exact hK.out (ups (ups (ups s 69 (.bool true)) 70 (.bool true)) 71 (.bool true)) b _ ⟨hB, (p1_ hF.out), (p2_ hF.out), (p3_ hF.out), (p4_ hF.out), (p5_ hF.out), (p6_ hF.out), (p7_ hF.out), (p8_ hF.out), (p9_ hF.out), (p10_ hF.out), (p11_ hF.out), (p12_ hF.out), (p13_ hF.out), (p14_ hF.out), (p15_ hF.out), (p16_ hF.out), (p17_ hF.out), (fun _ => rfl), (fun _ => rfl), (fun _ => rfl), (q21_ hF.out)⟩
          refine StepsF.cons (o := _) rfl (ws := [19, 18, 0, 1, 2, 3, 4, 5, 6, 7, 8, 9, 10, 11, 12, 13, 14, 15, 16, 17, 18, 19]) (by kernel_rfl) (by decide) (fun d s b w hF hd hw K_ hK => ?_) ?_
          · have hB : Below w10.heap.size w10 w := (p0_ hF.out)
            have e0 : s 52 = .pointer (some ⟨K, 0, none⟩) := (p1_ hF.out) (hw 0 (by decide))
            have e1 : s 53 = .agg (nums .u8 (byt T_) 16).toArray := (p2_ hF.out) (hw 1 (by decide))
            have e2 : s 54 = .agg (nums .u8 kf 32).toArray := (p3_ hF.out) (hw 2 (by decide))
            have e3 : s 55 = .slice pa tb ca := (p4_ hF.out) (hw 3 (by decide))
            have e4 : s 56 = .agg (nums .u8 (byt T_) 16).toArray := (p5_ hF.out) (hw 4 (by decide))
            have e5 : s 57 = .bool true := (p6_ hF.out) (hw 5 (by decide))
            have e6 : s 58 = .bool true := (p7_ hF.out) (hw 6 (by decide))
            have e7 : s 59 = .agg (nums .u8 (fun _ => 0) 16).toArray := (p8_ hF.out) (hw 7 (by decide))
            have e8 : s 60 = .agg (nums .u8 (fun _ => 0) 16).toArray := (p9_ hF.out) (hw 8 (by decide))
            have e9 : s 61 = .bool true := (p10_ hF.out) (hw 9 (by decide))
            have e10 : s 62 = .bool true := (p11_ hF.out) (hw 10 (by decide))
            have e11 : s 63 = .bool true := (p12_ hF.out) (hw 11 (by decide))
            have e12 : s 64 = .pointer none := (p13_ hF.out) (hw 12 (by decide))
            have e13 : s 65 = .agg (nums .u8 (fun _ => 0) 16).toArray := (p14_ hF.out) (hw 13 (by decide))
            have e14 : s 66 = .agg (nums .u8 (fun _ => 0) 16).toArray := (p15_ hF.out) (hw 14 (by decide))
            have e15 : s 67 = .bool true := (p16_ hF.out) (hw 15 (by decide))
            have e16 : s 68 = .bool true := (p17_ hF.out) (hw 16 (by decide))
            have e17 : s 69 = .bool true := (p18_ hF.out) (hw 17 (by decide))
            have e18 : s 70 = .bool true := (p19_ hF.out) (hw 18 (by decide))
            have e19 : s 71 = .bool true := (p20_ hF.out) (hw 19 (by decide))
            dsimp only
            go_simp
            exact hK.out (ups (ups (ups (ups (ups (ups (ups (ups (ups (ups (ups (ups (ups (ups (ups (ups (ups (ups (ups (ups (ups s 52 (.pointer (some ⟨K, 0, none⟩))) 53 (.agg (nums .u8 (byt T_) 16).toArray)) 54 (.agg (nums .u8 kf 32).toArray)) 55 (.slice pa tb ca)) 56 (.agg (nums .u8 (byt T_) 16).toArray)) 57 (.bool true)) 58 (.bool true)) 59 (.agg (nums .u8 (fun _ => 0) 16).toArray)) 60 (.agg (nums .u8 (fun _ => 0) 16).toArray)) 61 (.bool true)) 62 (.bool true)) 63 (.bool true)) 64 (.pointer none)) 65 (.agg (nums .u8 (fun _ => 0) 16).toArray)) 66 (.agg (nums .u8 (fun _ => 0) 16).toArray)) 67 (.bool true)) 68 (.bool true)) 69 (.bool true)) 70 (.bool true)) 71 (.bool true)) 4 (.bool true)) b _ ⟨hB, (fun _ => rfl), (fun _ => rfl), (fun _ => rfl), (fun _ => rfl), (fun _ => rfl), (fun _ => rfl), (fun _ => rfl), (fun _ => rfl), (fun _ => rfl), (fun _ => rfl), (fun _ => rfl), (fun _ => rfl), (fun _ => rfl), (fun _ => rfl), (fun _ => rfl), (fun _ => rfl), (fun _ => rfl), (fun _ => rfl), (fun _ => rfl), (fun _ => rfl), (fun _ => rfl)⟩
          exact StepsF.nil
        intro d s b yb hF hall
        replace hF := Lib.hid hF
        have hB : Below w10.heap.size w10 yb := (p0_ hF.out)
        try dsimp only
        have e0 : s 52 = .pointer (some ⟨K, 0, none⟩) := (p1_ hF.out) (hall 0 (by decide))
        have e1 : s 53 = .agg (nums .u8 (byt T_) 16).toArray := (p2_ hF.out) (hall 1 (by decide))
        have e2 : s 54 = .agg (nums .u8 kf 32).toArray := (p3_ hF.out) (hall 2 (by decide))
        have e3 : s 55 = .slice pa tb ca := (p4_ hF.out) (hall 3 (by decide))
        have e4 : s 56 = .agg (nums .u8 (byt T_) 16).toArray := (p5_ hF.out) (hall 4 (by decide))
        have e5 : s 57 = .bool true := (p6_ hF.out) (hall 5 (by decide))
        have e6 : s 58 = .bool true := (p7_ hF.out) (hall 6 (by decide))
        have e7 : s 59 = .agg (nums .u8 (fun _ => 0) 16).toArray := (p8_ hF.out) (hall 7 (by decide))
        have e8 : s 60 = .agg (nums .u8 (fun _ => 0) 16).toArray := (p9_ hF.out) (hall 8 (by decide))
        have e9 : s 61 = .bool true := (p10_ hF.out) (hall 9 (by decide))
        have e10 : s 62 = .bool true := (p11_ hF.out) (hall 10 (by decide))
        have e11 : s 63 = .bool true := (p12_ hF.out) (hall 11 (by decide))
        have e12 : s 64 = .pointer none := (p13_ hF.out) (hall 12 (by decide))
        have e13 : s 65 = .agg (nums .u8 (fun _ => 0) 16).toArray := (p14_ hF.out) (hall 13 (by decide))
        have e14 : s 66 = .agg (nums .u8 (fun _ => 0) 16).toArray := (p15_ hF.out) (hall 14 (by decide))
        have e15 : s 67 = .bool true := (p16_ hF.out) (hall 15 (by decide))
        have e16 : s 68 = .bool true := (p17_ hF.out) (hall 16 (by decide))
        have e17 : s 69 = .bool true := (p18_ hF.out) (hall 17 (by decide))
        have e18 : s 70 = .bool true := (p19_ hF.out) (hall 18 (by decide))
        have e19 : s 71 = .bool true := (p20_ hF.out) (hall 19 (by decide))
        have e20 : s 4 = .bool true := (q21_ hF.out) (hall 20 (by decide))
        rw [e0, e1, e2, e3, e4, e5, e6, e7, e8, e9, e10, e11, e12, e13, e14, e15, e16, e17, e18, e19, e20]
        clear hall hF e0 e1 e2 e3 e4 e5 e6 e7 e8 e9 e10 e11 e12 e13 e14 e15 e16 e17 e18 e19 e20
        clear d s b
        go_wp2_with (fail)
        go_ret
        exact ⟨rfl, Below.go HB.out hB⟩
end Go.Proofs.Ytbofihejegbfhaa

/- NZl -/
namespace Go.Proofs.Ytbofihejegbfhaa
set_option linter.unusedVariables false
set_option maxRecDepth 2000
set_option linter.unusedSimpArgs false
open Go.RowKit
theorem catF_in (t : Nat → Nat) (f : Nat → Nat → Int) : ∀ K, (∀ k j, k < K → j < t k → inB (f k j)) → ∀ x, x < sumT t K → inB (catF t f K x)
  | 0, _, x, hx => absurd hx (Nat.not_lt_zero x)
  | K + 1, h, x, hx => by
    unfold catF
    by_cases hl : x < sumT t K
    · rw [if_pos hl]
      exact catF_in t f K (fun k j hk hj => h k j (by omega) hj) x hl
    · rw [if_neg hl]
      exact h K _ (by omega) (by simp only [sumT] at hx; omega)
theorem Adds_law (kf : Nat → Int) (p : Option Addr) (np cp : Nat) (q : Nat → Option Addr) (m cc : Nat → Nat) (f : Nat → Nat → Int) (hk : ∀ i, i < 32 → inB (kf i)) (hnc : np ≤ cp) (hcm : cp ≤ 9223372036854775807) (w : World) (hd : Data w p np q m cc f) (hb : ∀ k, k < np → ∀ j, j < m k → inB (f k j)) :
    Calls Try.prog 3 #[(.agg (nums .u8 kf 32).toArray), .slice p np cp] w fun e w' => e = .returned (.bool true) ∧ Below w.heap.size w w' := by
  obtain ⟨t, ht⟩ : ∃ t : Nat → Nat, ∀ k, t k = min (m k) 300 := ⟨_, fun _ => rfl⟩
  have tm := sumT_max t 300 (fun k => by have := ht k; omega)
  exact Adds_core kf (catF t f (min np 6)) (sumT t) p np cp q m t cc f (min np 6) (fun k => by have := ht k; split <;> omega) rfl hnc hcm hk rfl (fun _ => rfl)
    (fun k hk => by have := tm k; omega) (fun k hk => sumT_le t hk) (fun k j hk hj => catF_at t f _ k j hk hj) (catF_in t f _ fun k j hk hj => hb k (by omega) j (by have := ht k; omega)) w hd
end Go.Proofs.Ytbofihejegbfhaa

/- PNAdds -/
namespace Go.Proofs.Ytbofihejegbfhaa.polyAdds
set_option linter.unusedVariables false
set_option maxRecDepth 2000
open Go.ChangeShapes Go.WideShapes Go.ChangeAt Go.RowKit Go.Joins

theorem own : ownKnob Try.prog.godebug = none := by kernel_rfl
theorem laidOut : laidOutB Try.prog = true := by kernel_rfl

set_option maxRecDepth 100000 in
theorem lifted (os : Os) (started : os.Started) (H : Type) (enc : TypeId × Value → H) :
    ReturnsInHanded {} Try.checked os 3 .any (Rows.polyAddsSpec.pre6 enc Try.prog Try.f3 Rows.polyAddsRow.domain false) (Rows.polyAddsSpec.post enc Try.prog Try.f3 false true false false) := by
  refine returnsInHanded_of_change (C := Try.checked) own started (by kernel_rfl) Try.func3
    (ChangeSpec.witness6 (enc := enc) (C := Try.checked) false ⟨#[], #[.agg #[.int .u8 0, .int .u8 0, .int .u8 0, .int .u8 0, .int .u8 0, .int .u8 0, .int .u8 0, .int .u8 0, .int .u8 0, .int .u8 0, .int .u8 0, .int .u8 0, .int .u8 0, .int .u8 0, .int .u8 0, .int .u8 0, .int .u8 0, .int .u8 0, .int .u8 0, .int .u8 0, .int .u8 0, .int .u8 0, .int .u8 0, .int .u8 0, .int .u8 0, .int .u8 0, .int .u8 0, .int .u8 0, .int .u8 0, .int .u8 0, .int .u8 0, .int .u8 0], .slice none 0 0], []⟩ 8 (by kernel_rfl) (by kernel_rfl) (by kernel_rfl) (by kernel_rfl)) ?_
  intro W base args ds gs before hval0 hW _ _
  have hval : ∀ (j : Nat) t v, Try.f3.params[j]? = some t → args[j]? = some v → Value.okWide Try.prog W .any base t v := hval0
  have hW' := hW
  obtain ⟨p, q, hA0, hV, rfl, _, _⟩ := hW
  have hA : DataW.TrodAll enc Try.prog W 0 (fun _ => true) true Try.f3.params.toList args.toList ds p := hA0
  rw [Try.params3] at hA hval
  obtain ⟨v0, v1, d0, d1, p0, p1, rfl, rfl, rfl, g0, g1⟩ := trodAll_two hA
  obtain ⟨rfl, rfl⟩ := trodVars_none hV
  simp only [List.append_nil] at hW'
  obtain ⟨f0, rfl, k0⟩ := open_nums (n := 32) (k := .u8) Try.underlying22 Try.underlying5 (by kernel_rfl) (by kernel_rfl) (hval 0 22 v0 rfl rfl) g0
  replace k0 := fun j hj => u8_wf (k0 j hj)
  clear hA0
  have lt0 : ∀ x ∈ p0, x.block < W.heap.size := fun x hx => by simpa using hW'.lt x (by simp [hx])
  have st0 := fun (W' : World) (hn : Below W.heap.size W W') => Below.trod laidOut (by kernel_rfl) (of_decide_eq_true (by kernel_rfl)) g0 hn lt0
  have lt1 : ∀ x ∈ p1, x.block < W.heap.size := fun x hx => by simpa using hW'.lt x (by simp [hx])
  have st1 := fun (W' : World) (hn : Below W.heap.size W W') => Below.trod laidOut (by kernel_rfl) (of_decide_eq_true (by kernel_rfl)) g1 hn lt1
  obtain ⟨p1_, n1, c1, f1, rfl, sl1⟩ := open_sl (S := 1) (isSb W) Try.underlying23 (by kernel_rfl) (by decide) (fun fuel cs x hx hl => cs_slb hx) (hval 1 23 v1 rfl rfl) g1 lt1
  obtain ⟨q, m, cc, g, hdt, hib⟩ := sl_datab sl1
  clear hval hval0
  refine (Adds_law f0 p1_ n1 c1 q m cc g k0 sl1.le sl1.max W hdt hib).mono fun e W' ⟨he, hg⟩ => ?_
  subst he
  exact ⟨_, rfl, _, _, _, [], _, [], hW', trodAll_mk1 (shut_bool Try.underlying4 _), trodAll_mk2 (st0 _ hg) (st1 _ hg), rfl, hg.frame _, fun h => by cases h⟩

theorem proved : Rows.PolyAddsSaid :=
  OpenClaim.holds_of_wide 3 Try.f3 rfl rfl rfl rfl rfl rfl rfl ⟨rfl, rfl, rfl, rfl, rfl⟩ rfl rfl rfl rfl rfl (by kernel_rfl) Try.func3 (by kernel_rfl)
    (of_decide_eq_true (by kernel_rfl)) (by unfold Func.isWrapper; first | (rw [if_pos (by decide +kernel)]; kernel_rfl) | (rw [if_neg (by decide +kernel)]; exact ⟨rfl, rfl⟩))
    (fun os started H enc _ => lifted os started H enc)
end Go.Proofs.Ytbofihejegbfhaa.polyAdds
