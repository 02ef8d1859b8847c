/- NU NV NW, in one text. -/
import Derived.Test.YtjkeaiihjbcfgaaDoorYQL
import Derived.Lib.Hide
import Derived.Deep.Onto
import Derived.ArgAppend
import Derived.LoopN
import Derived.LoopTactic
/- NU -/
namespace Go.Proofs.YtjkeaiihjbcfgaaDoor
set_option linter.unusedVariables false
set_option maxRecDepth 2000
set_option linter.unusedSimpArgs false
open Go.RowKit
/-- what is done to one elder block K, and to no other one -/
structure But (K : Nat) (w w' : World) : Prop where
  below : Below K w w'
  heap : ∀ b, b < w.heap.size → b ≠ K → w'.heap[b]? = w.heap[b]?
theorem But.refl (K : Nat) (w : World) : But K w w := ⟨Below.refl _ _, fun _ _ _ => rfl⟩
theorem But.trans {K : Nat} {a b c : World} (h : But K a b) (k : But K b c) : But K a c := ⟨h.below.trans k.below, fun i hi hn => (k.heap i (Nat.lt_of_lt_of_le hi h.below.size) hn).trans (h.heap i hi hn)⟩
theorem But.of {K : Nat} {a b : World} (h : Below a.heap.size a b) (hK : K < a.heap.size) : But K a b := ⟨h.mono (Nat.le_of_lt hK), fun i hi _ => h.block i hi⟩
theorem But.store {K o : Nat} {a : World} {vs : List Value} : But K a (a.setCells K o vs) := ⟨Below.setCells (Below.refl _ _) (Nat.le_refl _) vs o, fun i hi hn => World.heap_setCells_other a K o vs hi hn⟩
theorem But.drew {K : Nat} {a : World} (hK : K < a.heap.size) : But K a a.drew := But.of (Below.refl _ _).drew hK
theorem Has.but {b o K : Nat} {cs : List Value} {w w' : World} (h : Has b o cs w) (hb : But K w w') (hn : b ≠ K) : Has b o cs w' where
  lt := Nat.lt_of_lt_of_le h.lt hb.below.size
  cell := fun j v hv => by rw [World.cell?_of_block (w := w) (a := ⟨b, o + j, none⟩) (hb.heap b h.lt hn)]; exact h.cell j v hv
theorem Own.but {b K : Nat} {cs : List Value} {w w' : World} (h : Own b cs w) (hb : But K w w') (hn : b ≠ K) : Own b cs w' where
  lt := Nat.lt_of_lt_of_le h.lt hb.below.size
  cell := fun j v hv => by rw [World.cell?_of_block (w := w) (a := ⟨b, 0 + j, none⟩) (hb.heap b h.lt hn)]; exact h.cell j v hv
  free := fun j hj => by
    rw [World.cell?_of_block (w := w) (a := ⟨b, 0 + j, none⟩) (hb.heap b h.lt hn), World.frozen?_of_block (w := w) (a := ⟨b, 0 + j, none⟩) (hb.heap b h.lt hn)]
    exact h.free j hj
/-- a slice that holds f's first n bytes, not in K -/
def BytN (w : World) (q : Option Addr) (n : Nat) (f : Nat → Int) (K : Nat) : Prop := n = 0 ∨ ∃ b off, q = some ⟨b, off, none⟩ ∧ b ≠ K ∧ Has b off (nums .u8 f n) w
theorem BytN.but {w w' : World} {q : Option Addr} {n K : Nat} {f : Nat → Int} (h : BytN w q n f K) (hb : But K w w') : BytN w' q n f K := by
  rcases h with h | ⟨b, off, h1, h2, h3⟩
  · exact .inl h
  · exact .inr ⟨b, off, h1, h2, h3.but hb h2⟩
theorem BytN.byt {w : World} {q : Option Addr} {n K : Nat} {f : Nat → Int} (h : BytN w q n f K) : Byt w q n f := by
  rcases h with h | ⟨b, off, h1, _, h3⟩
  · exact .inl h
  · exact .inr ⟨b, off, h1, h3⟩
/-- parts, none of them in K -/
def PartsN (w : World) (p : Option Addr) (np : Nat) (g : Nat → Int) (T : Nat → Nat) (K : Nat) : Prop := ∀ k, k < np → ∃ D o q m c, p = some ⟨D, o, none⟩ ∧ D ≠ K ∧ D < w.heap.size ∧ w.cell? ⟨D, o + k, none⟩ = some (.slice q m c) ∧ m ≤ c ∧ c ≤ 9223372036854775807 ∧ T (k + 1) = T k + m ∧ BytN w q m (fun j => g (T k + j)) K
theorem PartsN.but {w w' : World} {p : Option Addr} {np K : Nat} {g : Nat → Int} {T : Nat → Nat} (h : PartsN w p np g T K) (hb : But K w w') : PartsN w' p np g T K := fun k hk => by
  obtain ⟨D, o, q, m, c, h1, h2, h3, h4, h5, h6, h7, h8⟩ := h k hk
  exact ⟨D, o, q, m, c, h1, h2, Nat.lt_of_lt_of_le h3 hb.below.size, (World.cell?_of_block (w := w) (a := ⟨D, o + k, none⟩) (hb.heap D h3 h2)).trans h4, h5, h6, h7, h8.but hb⟩
/-- the data of a kept: what a caller left, cut to its length, or the call's own row -/
def DatK (w : World) (v : Value) (n : Nat) (g : Nat → Int) (base K : Nat) : Prop :=
  (∃ p, v = .slice p n n ∧ (p = none → n = 0) ∧ BytN w p n g K) ∨ w.ownsRow base 5 1 v n (nums .u8 g n)
theorem DatK.later {w w' : World} {v : Value} {n base K : Nat} {g : Nat → Int} (h : DatK w v n g base K) (hb : Below w.heap.size w w') (hK : K < w.heap.size) : DatK w' v n g base K := by
  rcases h with ⟨p, h1, h2, h3⟩ | h
  · exact .inl ⟨p, h1, h2, h3.but (But.of hb hK)⟩
  · exact .inr (row_later h hb)
theorem DatK.far {w : World} {v : Value} {n base K o : Nat} {g : Nat → Int} {vs : List Value} (h : DatK w v n g base K) (hK : K < base) : DatK (w.setCells K o vs) v n g base K := by
  rcases h with ⟨p, h1, h2, h3⟩ | h
  · exact .inl ⟨p, h1, h2, h3.but But.store⟩
  · exact .inr (row_far h (fun he => by have := (h.lt K he).1; omega) o vs)
theorem DatK.form {w : World} {v : Value} {n base K : Nat} {g : Nat → Int} (h : DatK w v n g base K) : ∃ p c, v = .slice p n c ∧ n ≤ c ∧ c ≤ maxLen ∨ ∃ p, v = .slice p n n := by
  rcases h with ⟨p, h1, _, _⟩ | h
  · exact ⟨p, n, .inr ⟨p, h1⟩⟩
  · rcases h.2 with ⟨rfl, rfl⟩ | ⟨g, cap, cur, rfl, _, _, hc, hm, _⟩
    · exact ⟨none, 0, .inr ⟨none, rfl⟩⟩
    · exact ⟨_, cap, .inl ⟨rfl, hc, hm⟩⟩
theorem run_append_none {P : Program} {w : World} {t ty n c : Nat} {e : TypeId} {i : TypeInfo} (p : Option Addr) (hnc : n ≤ c) (ht : P.underlying t = some (.slice e)) (hi : P.info? e = some i) (q : Option Addr) (c' : Nat) :
    (Builtin.append_ #[t, t] ty #[.slice p n c, .slice q 0 c']).run P w = .ok (.slice p n c) w := by
  have hl : ∀ (x : Addr), (loadCells x 0).run P w = .ok #[] w := fun x => by simpa using run_loadCells_list (P := P) w x [] (by simp)
  cases p <;> cases q <;> simp [Builtin.append_, run_underlying ht, sizeOf, typeInfo, hi, Builtin.lenOf, Builtin.firstCells, hnc, storeCells, hl]
/-- bytes behind the data -/
theorem run_append_dat {w : World} {v : Value} {n base K : Nat} {g : Nat → Int} (h : DatK w v n g base K) (q : Option Addr) (m c ty : Nat) (hq : BytN w q m (fun j => g (n + j)) K) (hnm : n + m ≤ 65536) (hb : base ≤ w.heap.size) :
    ∃ v' w', (Builtin.append_ #[26, 26] ty #[v, .slice q m c]).run Tryd.prog w = .ok v' w' ∧ DatK w' v' (n + m) g base K ∧ (∃ row, w.grownBy w' row ∧ ∀ k, row = some k → base ≤ k) := by
  obtain ⟨i0, hi, hz0, hz1, hz2⟩ := infoB_parts
  have ap := nums_append .u8 g (fun j => g (n + j)) n m (fun j _ => rfl)
  by_cases hm : m = 0
  · subst hm
    obtain ⟨p, c1, hf⟩ := h.form
    refine ⟨v, w, ?_, h, none, ⟨rfl, rfl, rfl, Nat.le_refl _, fun _ _ _ => rfl⟩, fun _ hk => nomatch hk⟩
    rcases hf with ⟨rfl, h1, _⟩ | ⟨p', rfl⟩
    · exact run_append_none p h1 Tryd.underlying26 hi q c
    · exact run_append_none p' (Nat.le_refl _) Tryd.underlying26 hi q c
  · obtain ⟨b, off, rfl, _, hs⟩ := hq.resolve_left hm
    have nw : ∀ j u, (nums .u8 (fun j => g (n + j)) m)[j]? = some u → w.cell? ((⟨b, off, none⟩ : Addr).add j) = some u := fun j u hj => by rw [Addr.add_mid]; exact hs.cell j u hj
    rcases h with ⟨p, rfl, hp, hB⟩ | h
    · cases p with
      | none =>
        obtain rfl : n = 0 := hp rfl
        obtain ⟨v', w', hrun, r1, r2, _⟩ := run_append_own (P := Tryd.prog) w base 26 ty 5 i0 (.int .u8 0) 1 1 Tryd.underlying26 hi hz0 hz1 hz2 rfl (by decide) (.slice none 0 0) 0 [] (World.ownsRow_nil _ _ _ _) ⟨b, off, none⟩ m c _ (by rw [nums_length, Nat.mul_one]) nw (nums_one _ _ _) (by unfold maxLen; omega) (by omega) hb
        refine ⟨v', w', hrun, .inr ?_, _, r2, fun k hk => nomatch hk⟩
        rw [← ap]
        exact r1
      | some a =>
        have hB' : ∃ b' off', (a = ⟨b', off', none⟩ ∨ n = 0) ∧ (n = 0 ∨ Has b' off' (nums .u8 g n) w) := by
          rcases hB with h0 | ⟨b', off', e, _, h3⟩
          · exact ⟨0, 0, .inr h0, .inl h0⟩
          · cases e; exact ⟨b', off', .inl rfl, .inr h3⟩
        have olds : ∀ j u, (nums .u8 g n)[j]? = some u → w.cell? (a.add j) = some u := fun j u hj => by
          have hj' : j < n := by have := (List.getElem?_eq_some_iff.1 hj).1; rwa [nums_length] at this
          obtain ⟨b', off', h1, h2⟩ := hB'
          rcases h1 with rfl | h1
          · rcases h2 with h2 | h2
            · omega
            · rw [Addr.add_mid]; exact h2.cell j u hj
          · omega
        obtain ⟨v', w', hrun, r1, r2⟩ := run_append_arg_grows (P := Tryd.prog) w 26 ty 5 i0 (.int .u8 0) 1 1 Tryd.underlying26 hi hz0 hz1 hz2 rfl (by decide) a n n _ (by rw [nums_length, Nat.mul_one]) olds ⟨b, off, none⟩ m c _ (by rw [nums_length, Nat.mul_one]) nw (by omega) (by unfold maxLen; omega) (by omega)
        refine ⟨v', w', hrun, .inr ?_, _, r2, fun k hk => nomatch hk⟩
        rw [← ap]
        exact r1.mono hb
    · obtain ⟨v', w', hrun, r1, r2, _⟩ := run_append_own (P := Tryd.prog) w base 26 ty 5 i0 (.int .u8 0) 1 1 Tryd.underlying26 hi hz0 hz1 hz2 rfl (by decide) v n _ h ⟨b, off, none⟩ m c _ (by rw [nums_length, Nat.mul_one]) nw (nums_one _ _ _) (by unfold maxLen; omega) (by omega) hb
      refine ⟨v', w', hrun, .inr ?_, _, r2, fun k hk => row_ge h k hk⟩
      rw [← ap]
      exact r1
theorem step_run_append {P : Program} {ops : Array Oper} {o : Oper} {a : Act} {w : World} {K : Act → World → Prop} {Q : Exit → Act → World → Prop} {E : Prop}
    (hg : o.guard = none) (s x : Operand) (t : TypeId) (hop : o.op = Op.call { callee := Callee.builtin Builtin.append, args := #[s, x], argTypes := #[t, t] }) {v vx v' : Value} {w' : World} (hs : a.eval s = v) (hx : a.eval x = vx)
    (hrun : (Builtin.append_ #[t, t] o.type #[v, vx]).run P w = .ok v' w') (hK : K (a.put o.dst v') w') : if Region.wanted o (yielded ops a.tmps) = true then Oper.wp P o a w K Q else E := by
  have hw : Region.wanted o (yielded ops a.tmps) = true := by simp [Region.wanted, hg]
  rw [if_pos hw]
  unfold Oper.wp
  simp [execOp, hop, resolve, invoke, builtin, hs, hx, hrun, Result.andThen]
  exact hK
theorem Clip_any (p : Option Addr) (n c : Nat) (hn : n ≤ c) (w : World) :
    Calls Tryd.prog 49 #[.slice p n c] w fun e w' => e = .returned (.slice p n n) ∧ Below w.heap.size w w' := by
  have n1 : (n : Int) ≤ (c : Int) := by omega
  go_enter Tryd.func49, Tryd.ntmps49
  go_wp2_with (fail)
  go_ret
  exact ⟨by first | rfl | simp [sliced_head], Below.refl _ _⟩
end Go.Proofs.YtjkeaiihjbcfgaaDoor

/- NV -/
namespace Go.Proofs.YtjkeaiihjbcfgaaDoor
set_option linter.unusedVariables false
set_option maxRecDepth 2000
set_option linter.unusedSimpArgs false
open Go.RowKit
theorem DatK.slice {w : World} {v : Value} {n base K : Nat} {g : Nat → Int} (h : DatK w v n g base K) : ∃ p c, v = .slice p n c := by
  rcases h with ⟨p, h1, _, _⟩ | h
  · exact ⟨p, n, h1⟩
  · obtain ⟨p, c, h1, _⟩ := row_form h
    exact ⟨p, c, h1⟩
theorem over_set (cs : List Value) (o : Nat) (a : Value) (h : o < cs.length) : over cs o [a] = cs.set o a := by
  rw [List.set_eq_take_append_cons_drop, if_pos h]; simp [over]
theorem over_over (cs : List Value) (o : Nat) (a b : Value) (h : o < cs.length) : over (over cs o [a]) o [b] = over cs o [b] := by
  rw [over_set cs o a h, over_set cs o b h, over_set _ o b (by simpa using h), List.set_set]
theorem over_at (cs : List Value) (o : Nat) (a : Value) (h : o < cs.length) : (over cs o [a])[o]? = some a := by
  unfold over
  simp [List.getElem?_append, Nat.min_eq_left (Nat.le_of_lt h)]
theorem over_len (cs : List Value) (o : Nat) (a : Value) (h : o < cs.length) : (over cs o [a]).length = cs.length := over_length cs o [a] (by simp; omega)
theorem Own.over1 {K : Nat} {cs : List Value} {W : World} {o : Nat} {a b : Value} (h : Own K (over cs o [a]) W) (ho : o < cs.length) : Own K (over cs o [b]) (W.setCells K o [b]) := by
  have := Own.part (o := o) (vs := [b]) h (by rw [over_len cs o a ho]; simp; omega)
  rwa [over_over cs o a b ho] at this
theorem But.grown {K : Nat} {E a w' : World} {row : Option Nat} (h : But K E a) (hg : a.grownBy w' row) (hr : ∀ k, row = some k → E.heap.size ≤ k) (hK : K < E.heap.size) : But K E w' :=
  ⟨h.below.grown hg (Nat.le_trans (Nat.le_of_lt hK) h.below.size) (fun k hk => Nat.le_trans (Nat.le_of_lt hK) (hr k hk)), fun b hb hn => by
    rw [hg.block b (Nat.lt_of_lt_of_le hb h.below.size) (fun e => by have := hr b e.symm; omega)]
    exact h.heap b hb hn⟩
attribute [local go_sem ↓ high] sliced_head

set_option maxHeartbeats 4000000 in
theorem keep_any (K off : Nat) (cs : List Value) (p0 : Option Addr) (n c0 : Nat) (g : Nat → Int) (P_ : Option Addr) (np cp : Nat) (T : Nat → Nat) (hoff : cs[off]? = some (.slice p0 n c0)) (hnc : n ≤ c0) (hp0 : p0 = none → n = 0) (hT0 : T 0 = n) (hT : ∀ k, k ≤ np → T k ≤ 65536) (hnp : np ≤ cp) (hcp : cp ≤ 9223372036854775807) (w : World) (hK : Own K cs w) (hb : BytN w p0 n g K) (hP : PartsN w P_ np g T K) :
    Calls Tryd.prog 34 #[.pointer (some ⟨K, off, none⟩), .slice P_ np cp] w fun e w' => ∃ v', e = .returned (.tuple #[]) ∧ DatK w' v' (T np) g w.heap.size K ∧ Own K (over cs off [v']) w' ∧ But K w w' := by
  have hof : off < cs.length := (List.getElem?_eq_some_iff.1 hoff).1
  have x0 := hK.at off _ hoff
  have HT := Lib.hid hT; have HT0 := Lib.hid hT0; have HP0 := Lib.hid hp0; have HNP := Lib.hid hnp; have HCP := Lib.hid hcp
  have OF := Lib.hid hof
  have HK := Lib.hid hK; have HB := Lib.hid hb; have HP := Lib.hid hP
  have CL := Lib.hid (fun w => Clip_any p0 n c0 hnc w)
  clear hoff hnc hp0 hT0 hT hnp hcp hK hb hP hof
  go_enter Tryd.func34, Tryd.ntmps34
  go_wp2_with (fail)
  go_at_call 49
  refine (CL.out _).mono ?_
  rintro e w1 ⟨rfl, hb⟩
  have Kl := HK.out.lt
  have k1 := HK.out.later hb
  have xf := k1.ok off OF.out
  have Kl1 := k1.lt
  obtain ⟨v0, ev0⟩ : ∃ v, Value.slice p0 n n = v := ⟨_, rfl⟩
  have x1 : ∃ u, w1.cell? ⟨K, off, none⟩ = some u := ⟨_, k1.at off _ (List.getElem?_eq_getElem OF.out)⟩
  obtain ⟨u0, x1⟩ := x1
  have bu := But.of hb Kl
  have HKn := Lib.hid (show Own K (over cs off [Value.slice p0 n n]) (w1.setCells K off [Value.slice p0 n n]) from Own.part k1 (by simp; exact OF.out))
  have BU := Lib.hid (bu.trans (But.store (K := K) (o := off) (a := w1) (vs := [Value.slice p0 n n])))
  have DK : Hid (DatK (w1.setCells K off [Value.slice p0 n n]) (Value.slice p0 n n) (T 0) g w.heap.size K) := Lib.hid (by
    rw [HT0.out]
    exact .inl ⟨p0, rfl, HP0.out, HB.out.but BU.out⟩)
  clear HK HB k1 bu hb ev0
  go_wp2_with (fail)
  go_loopw [17] (fun iv wr => ∃ (k : Nat) (v : Value), k ≤ np ∧ iv = .int .i64 k ∧ Hid (DatK wr v (T k) g w.heap.size K) ∧ Hid (Own K (over cs off [v]) wr) ∧ Hid (But K w wr) ) (fun iv _ => (np - (intOf iv).toNat))
  case atStart => exact ⟨0, _, Nat.zero_le _, rfl, DK, HKn, BU⟩
  case round =>
    clear DK HKn BU x1 xf x0 Kl1
    obtain ⟨k, v, hk, rfl, DK, HK, BU⟩ := hrel
    by_cases hlt : k < np
    · obtain ⟨D, o, q, m, c, rfl, hDK, hD, hcell, hmc, hcx, hTk, hby⟩ := (HP.out.but BU.out) k hlt
      have BYq := Lib.hid hby
      have NDK := Lib.hid hDK
      have hki : (k : Int) < (np : Int) := by omega
      have k0 : (0 : Int) ≤ (k : Int) := by omega
      have k63 : IntKind.i64.wrap ((k : Int) + 1) = (k : Int) + 1 := IntWalk.i64_in _ (by have := HNP.out; have := HCP.out; omega)
      have hT1 := HT.out k (by omega)
      have hT2 := HT.out (k + 1) (by omega)
      have HTk := Lib.hid hTk
      obtain ⟨t, et⟩ : ∃ t, T k = t := ⟨_, rfl⟩
      rw [et] at hTk hT1 DK HTk BYq
      have TM := Lib.hid (show t + m ≤ 65536 by omega)
      obtain ⟨r, er⟩ : ∃ r : Nat, r = 65536 - t := ⟨_, rfl⟩
      have e1 : (65536 : Int) - (t : Int) = (r : Int) := by omega
      have e2 : IntKind.i64.wrap (r : Int) = (r : Int) := IntWalk.i64_in _ (by omega)
      have e3 : (if (r : Int) < (m : Int) then (r : Int) else (m : Int)) = (m : Int) := by rw [if_neg (by omega)]
      have e3n : (if r < m then (r : Int) else (m : Int)) = (m : Int) := by rw [if_neg (by omega)]
      have m0 : (0 : Int) ≤ (m : Int) := by omega
      have m1 : (m : Int) ≤ (c : Int) := by omega
      obtain ⟨p1, c1, ev⟩ := DK.out.slice
      subst ev
      have vc := HK.out.at off _ (over_at cs off _ OF.out)
      have vf := HK.out.ok off (by rw [over_len cs off _ OF.out]; exact OF.out)
      have Kl2 := HK.out.lt
      have DW : D < wr.heap.size := hD
      have HLT := Lib.hid hlt
      clear hk hlt hby hTk hT1 hT2 et er hmc hcx hDK hD
      obtain ⟨E, eE⟩ : ∃ E, E = w := ⟨_, rfl⟩
      subst eE
      go_wp2_with (fail)
      refine wp_region_fun 15 (by kernel_rfl) (by kernel_rfl) rfl (fun s b => ⟨#[.pointer (some ⟨K, off, none⟩), .slice (some ⟨D, o, none⟩) np cp, undef, undef, undef, .slice q m c, .int .i64 r, .pointer (some ⟨K, off, none⟩), .pointer (some ⟨K, off, none⟩), .pointer (some ⟨K, off, none⟩), .pointer (some ⟨K, off, none⟩), .slice p0 n c0, .slice p0 n n, .pointer (some ⟨K, off, none⟩), .pointer (some ⟨K, off, none⟩), .slice (some ⟨D, o, none⟩) np cp, .int .i64 np, .int .i64 k, .bool true, .pointer (some ⟨D, (o + k), none⟩), .slice q m c, .pointer (some ⟨K, off, none⟩), .pointer (some ⟨K, off, none⟩), .pointer (some ⟨K, off, none⟩), .slice p1 t c1, .int .i64 t, .int .i64 r, s 27, s 28, s 29, s 30, s 31, s 32, s 33, s 34, s 35, s 36, s 37, s 38, s 39, s 40, u41], []⟩) (fun d s b w => (True) ∧ (d 0 = true → s 27 = .pointer (some ⟨K, off, none⟩)) ∧ (d 1 = true → s 28 = .pointer (some ⟨K, off, none⟩)) ∧ (d 2 = true → s 29 = .pointer (some ⟨K, off, none⟩)) ∧ (d 3 = true → s 30 = .pointer (some ⟨K, off, none⟩)) ∧ (d 4 = true → s 31 = .slice p1 t c1) ∧ (d 5 = true → s 32 = .slice q m c) ∧ (d 6 = true → s 33 = .slice q m c) ∧ (d 7 = true → s 34 = .int .i64 m) ∧ (d 8 = true → s 35 = .int .i64 r) ∧ (d 9 = true → s 36 = .int .i64 m) ∧ (d 10 = true → s 37 = .slice q m c) ∧ (d 11 = false → w = wr.drew) ∧ (d 11 = true → d 14 = false → DatK w (s 38) (t + m) g E.heap.size K ∧ Own K (over cs off [.slice p1 t c1]) w ∧ But K E w) ∧ (d 12 = true → s 39 = .pointer (some ⟨K, off, none⟩)) ∧ (d 13 = true → s 40 = .pointer (some ⟨K, off, none⟩)) ∧ (d 14 = true → ∃ w2, (DatK w2 (s 38) (t + m) g E.heap.size K ∧ Own K (over cs off [.slice p1 t c1]) w2 ∧ But K E w2) ∧ w = w2.setCells K off [s 38]) ∧ (d 11 = true → d 4 = true) ∧ (d 14 = true → d 11 = true)) rfl ?h0z1 (?stz1 : StepsF _ _ _ _ 15 _ _ [0, 1, 2, 3, 4, 5, 6, 7, 8, 9, 10, 11, 12, 13, 14]) ?dnz1
      case h0z1 => exact ⟨trivial, (fun h => nomatch h), (fun h => nomatch h), (fun h => nomatch h), (fun h => nomatch h), (fun h => nomatch h), (fun h => nomatch h), (fun h => nomatch h), (fun h => nomatch h), (fun h => nomatch h), (fun h => nomatch h), (fun h => nomatch h), (fun _ => rfl), (fun h => nomatch h), (fun h => nomatch h), (fun h => nomatch h), (fun h => nomatch h), (fun h => nomatch h), (fun h => nomatch h)⟩
      case stz1 =>
        refine StepsF.cons (o := _) rfl (ws := []) (by kernel_rfl) (by decide) (fun d s b w hF hd hw K_ hK => ?_) ?_
        · have hB : True := trivial
          dsimp only
          go_simp
          exact hK.out (ups s 27 (.pointer (some ⟨K, off, none⟩))) b _ ⟨hB, (fun _ => rfl), (p2_ hF.out), (p3_ hF.out), (p4_ hF.out), (p5_ hF.out), (p6_ hF.out), (p7_ hF.out), (p8_ hF.out), (p9_ hF.out), (p10_ hF.out), (p11_ hF.out), (p12_ hF.out), (p13_ hF.out), (p14_ hF.out), (p15_ hF.out), (p16_ hF.out), (p17_ hF.out), (q18_ hF.out)⟩
        refine StepsF.cons (o := _) rfl (ws := []) (by kernel_rfl) (by decide) (fun d s b w hF hd hw K_ hK => ?_) ?_
        · have hB : True := trivial
          dsimp only
          go_simp
          exact hK.out (ups s 28 (.pointer (some ⟨K, off, none⟩))) b _ ⟨hB, (p1_ hF.out), (fun _ => rfl), (p3_ hF.out), (p4_ hF.out), (p5_ hF.out), (p6_ hF.out), (p7_ hF.out), (p8_ hF.out), (p9_ hF.out), (p10_ hF.out), (p11_ hF.out), (p12_ hF.out), (p13_ hF.out), (p14_ hF.out), (p15_ hF.out), (p16_ hF.out), (p17_ hF.out), (q18_ hF.out)⟩
        refine StepsF.cons (o := _) rfl (ws := [1]) (by kernel_rfl) (by decide) (fun d s b w hF hd hw K_ hK => ?_) ?_
        · have hB : True := trivial
          have e1 : s 28 = .pointer (some ⟨K, off, none⟩) := (p2_ hF.out) (hw 1 (by decide))
          dsimp only
          go_simp
          exact hK.out (ups (ups s 28 (.pointer (some ⟨K, off, none⟩))) 29 (.pointer (some ⟨K, off, none⟩))) b _ ⟨hB, (p1_ hF.out), (fun _ => rfl), (fun _ => rfl), (p4_ hF.out), (p5_ hF.out), (p6_ hF.out), (p7_ hF.out), (p8_ hF.out), (p9_ hF.out), (p10_ hF.out), (p11_ hF.out), (p12_ hF.out), (p13_ hF.out), (p14_ hF.out), (p15_ hF.out), (p16_ hF.out), (p17_ hF.out), (q18_ hF.out)⟩
        refine StepsF.cons (o := _) rfl (ws := [2]) (by kernel_rfl) (by decide) (fun d s b w hF hd hw K_ hK => ?_) ?_
        · have hB : True := trivial
          have e2 : s 29 = .pointer (some ⟨K, off, none⟩) := (p3_ hF.out) (hw 2 (by decide))
          dsimp only
          go_simp
          exact hK.out (ups (ups s 29 (.pointer (some ⟨K, off, none⟩))) 30 (.pointer (some ⟨K, off, none⟩))) b _ ⟨hB, (p1_ hF.out), (p2_ hF.out), (fun _ => rfl), (fun _ => rfl), (p5_ hF.out), (p6_ hF.out), (p7_ hF.out), (p8_ hF.out), (p9_ hF.out), (p10_ hF.out), (p11_ hF.out), (p12_ hF.out), (p13_ hF.out), (p14_ hF.out), (p15_ hF.out), (p16_ hF.out), (p17_ hF.out), (q18_ hF.out)⟩
        refine StepsF.cons (o := _) rfl (ws := [3]) (by kernel_rfl) (by decide) (fun d s b w hF hd hw K_ hK => ?_) ?_
        · have hB : True := trivial
          have e3 : s 30 = .pointer (some ⟨K, off, none⟩) := (p4_ hF.out) (hw 3 (by decide))
          dsimp only
          have cX : w.cell? ⟨K, off, none⟩ = some (.slice p1 t c1) := by rw [((p12_ hF.out) (by cases e : d 11 with | false => rfl | true => exact absurd ((p17_ hF.out) e) (by simp [hd])))]; exact HK.out.drew.at off _ (over_at cs off _ OF.out)
          go_simp
          exact hK.out (ups (ups s 30 (.pointer (some ⟨K, off, none⟩))) 31 (.slice p1 t c1)) b _ ⟨hB, (p1_ hF.out), (p2_ hF.out), (p3_ hF.out), (fun _ => rfl), (fun _ => rfl), (p6_ hF.out), (p7_ hF.out), (p8_ hF.out), (p9_ hF.out), (p10_ hF.out), (p11_ hF.out), (p12_ hF.out), (p13_ hF.out), (p14_ hF.out), (p15_ hF.out), (p16_ hF.out), (fun _ => rfl), (q18_ hF.out)⟩
        refine StepsF.cons (o := _) rfl (ws := []) (by kernel_rfl) (by decide) (fun d s b w hF hd hw K_ hK => ?_) ?_
        · have hB : True := trivial
          dsimp only
          go_simp
          exact hK.out (ups s 32 (.slice q m c)) b _ ⟨hB, (p1_ hF.out), (p2_ hF.out), (p3_ hF.out), (p4_ hF.out), (p5_ hF.out), (fun _ => rfl), (p7_ hF.out), (p8_ hF.out), (p9_ hF.out), (p10_ hF.out), (p11_ hF.out), (p12_ hF.out), (p13_ hF.out), (p14_ hF.out), (p15_ hF.out), (p16_ hF.out), (p17_ hF.out), (q18_ hF.out)⟩
        refine StepsF.cons (o := _) rfl (ws := []) (by kernel_rfl) (by decide) (fun d s b w hF hd hw K_ hK => ?_) ?_
        · have hB : True := trivial
          dsimp only
          go_simp
          exact hK.out (ups s 33 (.slice q m c)) b _ ⟨hB, (p1_ hF.out), (p2_ hF.out), (p3_ hF.out), (p4_ hF.out), (p5_ hF.out), (p6_ hF.out), (fun _ => rfl), (p8_ hF.out), (p9_ hF.out), (p10_ hF.out), (p11_ hF.out), (p12_ hF.out), (p13_ hF.out), (p14_ hF.out), (p15_ hF.out), (p16_ hF.out), (p17_ hF.out), (q18_ hF.out)⟩
        refine StepsF.cons (o := _) rfl (ws := [6]) (by kernel_rfl) (by decide) (fun d s b w hF hd hw K_ hK => ?_) ?_
        · have hB : True := trivial
          have e6 : s 33 = .slice q m c := (p7_ hF.out) (hw 6 (by decide))
          dsimp only
          go_simp
          exact hK.out (ups (ups s 33 (.slice q m c)) 34 (.int .i64 m)) b _ ⟨hB, (p1_ hF.out), (p2_ hF.out), (p3_ hF.out), (p4_ hF.out), (p5_ hF.out), (p6_ hF.out), (fun _ => rfl), (fun _ => rfl), (p9_ hF.out), (p10_ hF.out), (p11_ hF.out), (p12_ hF.out), (p13_ hF.out), (p14_ hF.out), (p15_ hF.out), (p16_ hF.out), (p17_ hF.out), (q18_ hF.out)⟩
        refine StepsF.cons (o := _) rfl (ws := []) (by kernel_rfl) (by decide) (fun d s b w hF hd hw K_ hK => ?_) ?_
        · have hB : True := trivial
          dsimp only
          go_simp
          exact hK.out (ups s 35 (.int .i64 r)) b _ ⟨hB, (p1_ hF.out), (p2_ hF.out), (p3_ hF.out), (p4_ hF.out), (p5_ hF.out), (p6_ hF.out), (p7_ hF.out), (p8_ hF.out), (fun _ => rfl), (p10_ hF.out), (p11_ hF.out), (p12_ hF.out), (p13_ hF.out), (p14_ hF.out), (p15_ hF.out), (p16_ hF.out), (p17_ hF.out), (q18_ hF.out)⟩
        refine StepsF.cons (o := _) rfl (ws := [7, 8]) (by kernel_rfl) (by decide) (fun d s b w hF hd hw K_ hK => ?_) ?_
        · have hB : True := trivial
          have e7 : s 34 = .int .i64 m := (p8_ hF.out) (hw 7 (by decide))
          have e8 : s 35 = .int .i64 r := (p9_ hF.out) (hw 8 (by decide))
          dsimp only
          go_simp
          exact hK.out (ups (ups (ups s 34 (.int .i64 m)) 35 (.int .i64 r)) 36 (.int .i64 m)) b _ ⟨hB, (p1_ hF.out), (p2_ hF.out), (p3_ hF.out), (p4_ hF.out), (p5_ hF.out), (p6_ hF.out), (p7_ hF.out), (fun _ => rfl), (fun _ => rfl), (fun _ => rfl), (p11_ hF.out), (p12_ hF.out), (p13_ hF.out), (p14_ hF.out), (p15_ hF.out), (p16_ hF.out), (p17_ hF.out), (q18_ hF.out)⟩
        refine StepsF.cons (o := _) rfl (ws := [5, 9]) (by kernel_rfl) (by decide) (fun d s b w hF hd hw K_ hK => ?_) ?_
        · have hB : True := trivial
          have e5 : s 32 = .slice q m c := (p6_ hF.out) (hw 5 (by decide))
          have e9 : s 36 = .int .i64 m := (p10_ hF.out) (hw 9 (by decide))
          dsimp only
          go_simp
          exact hK.out (ups (ups (ups s 32 (.slice q m c)) 36 (.int .i64 m)) 37 (.slice q m c)) b _ ⟨hB, (p1_ hF.out), (p2_ hF.out), (p3_ hF.out), (p4_ hF.out), (p5_ hF.out), (fun _ => rfl), (p7_ hF.out), (p8_ hF.out), (p9_ hF.out), (fun _ => rfl), (fun _ => rfl), (p12_ hF.out), (p13_ hF.out), (p14_ hF.out), (p15_ hF.out), (p16_ hF.out), (p17_ hF.out), (q18_ hF.out)⟩
        refine StepsF.cons (o := _) rfl (ws := [4, 10]) (by kernel_rfl) (by decide) (fun d s b w hF hd hw K_ hK => ?_) ?_
        · have hB : True := trivial
          have e4 : s 31 = .slice p1 t c1 := (p5_ hF.out) (hw 4 (by decide))
          have e10 : s 37 = .slice q m c := (p11_ hF.out) (hw 10 (by decide))
          have hq : w = wr.drew := (p12_ hF.out) hd
          subst hq
          obtain ⟨v', w6, hrun, hdat, row, hgr, hrow⟩ := run_append_dat (DK.out.later (Below.refl _ _).drew Kl2) q m c _ (BYq.out.but (But.drew Kl2)) TM.out (Nat.le_trans BU.out.below.size (Below.refl wr.heap.size wr).drew.size)
          have hrel : DatK w6 v' (t + m) g E.heap.size K ∧ Own K (over cs off [.slice p1 t c1]) w6 ∧ But K E w6 := ⟨hdat, HK.out.drew.grown hgr (fun e => by have := hrow K e; have := Kl; omega), (BU.out.trans (But.drew Kl2)).grown hgr hrow Kl⟩
          refine step_run_append rfl (.tmp 31) (.tmp 37) 26 rfl ?a1 ?a2 hrun ?_
          case a1 => exact e4
          case a2 => exact e10
          exact hK.out (ups s 38 (v')) b _ ⟨hB, (p1_ hF.out), (p2_ hF.out), (p3_ hF.out), (p4_ hF.out), (p5_ hF.out), (p6_ hF.out), (p7_ hF.out), (p8_ hF.out), (p9_ hF.out), (p10_ hF.out), (p11_ hF.out), (fun h => nomatch h), (fun _ _ => hrel), (p14_ hF.out), (p15_ hF.out), (fun h => absurd ((q18_ hF.out) h) (by simp [hd])), (fun _ => hw 4 (by decide)), (fun _ => rfl)⟩
        refine StepsF.cons (o := _) rfl (ws := [0, 0, 1, 2, 3, 4, 5, 6, 7, 8, 9, 10, 11]) (by kernel_rfl) (by decide) (fun d s b w hF hd hw K_ hK => ?_) ?_
        · have hB : True := trivial
          have e0 : s 27 = .pointer (some ⟨K, off, none⟩) := (p1_ hF.out) (hw 0 (by decide))
          have e1 : s 28 = .pointer (some ⟨K, off, none⟩) := (p2_ hF.out) (hw 1 (by decide))
          have e2 : s 29 = .pointer (some ⟨K, off, none⟩) := (p3_ hF.out) (hw 2 (by decide))
          have e3 : s 30 = .pointer (some ⟨K, off, none⟩) := (p4_ hF.out) (hw 3 (by decide))
          have e4 : s 31 = .slice p1 t c1 := (p5_ hF.out) (hw 4 (by decide))
          have e5 : s 32 = .slice q m c := (p6_ hF.out) (hw 5 (by decide))
          have e6 : s 33 = .slice q m c := (p7_ hF.out) (hw 6 (by decide))
          have e7 : s 34 = .int .i64 m := (p8_ hF.out) (hw 7 (by decide))
          have e8 : s 35 = .int .i64 r := (p9_ hF.out) (hw 8 (by decide))
          have e9 : s 36 = .int .i64 m := (p10_ hF.out) (hw 9 (by decide))
          have e10 : s 37 = .slice q m c := (p11_ hF.out) (hw 10 (by decide))
          dsimp only
          go_simp
          exact hK.out (ups (ups (ups (ups (ups (ups (ups (ups (ups (ups (ups (ups s 27 (.pointer (some ⟨K, off, none⟩))) 28 (.pointer (some ⟨K, off, none⟩))) 29 (.pointer (some ⟨K, off, none⟩))) 30 (.pointer (some ⟨K, off, none⟩))) 31 (.slice p1 t c1)) 32 (.slice q m c)) 33 (.slice q m c)) 34 (.int .i64 m)) 35 (.int .i64 r)) 36 (.int .i64 m)) 37 (.slice q m c)) 39 (.pointer (some ⟨K, off, none⟩))) b _ ⟨hB, (fun _ => rfl), (fun _ => rfl), (fun _ => rfl), (fun _ => rfl), (fun _ => rfl), (fun _ => rfl), (fun _ => rfl), (fun _ => rfl), (fun _ => rfl), (fun _ => rfl), (fun _ => rfl), (p12_ hF.out), (p13_ hF.out), (fun _ => rfl), (p15_ hF.out), (p16_ hF.out), (p17_ hF.out), (q18_ hF.out)⟩
        refine StepsF.cons (o := _) rfl (ws := [12, 0, 1, 2, 3, 4, 5, 6, 7, 8, 9, 10, 11]) (by kernel_rfl) (by decide) (fun d s b w hF hd hw K_ hK => ?_) ?_
        · have hB : True := trivial
          have e0 : s 27 = .pointer (some ⟨K, off, none⟩) := (p1_ hF.out) (hw 0 (by decide))
          have e1 : s 28 = .pointer (some ⟨K, off, none⟩) := (p2_ hF.out) (hw 1 (by decide))
          have e2 : s 29 = .pointer (some ⟨K, off, none⟩) := (p3_ hF.out) (hw 2 (by decide))
          have e3 : s 30 = .pointer (some ⟨K, off, none⟩) := (p4_ hF.out) (hw 3 (by decide))
          have e4 : s 31 = .slice p1 t c1 := (p5_ hF.out) (hw 4 (by decide))
          have e5 : s 32 = .slice q m c := (p6_ hF.out) (hw 5 (by decide))
          have e6 : s 33 = .slice q m c := (p7_ hF.out) (hw 6 (by decide))
          have e7 : s 34 = .int .i64 m := (p8_ hF.out) (hw 7 (by decide))
          have e8 : s 35 = .int .i64 r := (p9_ hF.out) (hw 8 (by decide))
          have e9 : s 36 = .int .i64 m := (p10_ hF.out) (hw 9 (by decide))
          have e10 : s 37 = .slice q m c := (p11_ hF.out) (hw 10 (by decide))
          have e12 : s 39 = .pointer (some ⟨K, off, none⟩) := (p14_ hF.out) (hw 12 (by decide))
          dsimp only
          go_simp
          exact hK.out (ups (ups (ups (ups (ups (ups (ups (ups (ups (ups (ups (ups (ups s 27 (.pointer (some ⟨K, off, none⟩))) 28 (.pointer (some ⟨K, off, none⟩))) 29 (.pointer (some ⟨K, off, none⟩))) 30 (.pointer (some ⟨K, off, none⟩))) 31 (.slice p1 t c1)) 32 (.slice q m c)) 33 (.slice q m c)) 34 (.int .i64 m)) 35 (.int .i64 r)) 36 (.int .i64 m)) 37 (.slice q m c)) 39 (.pointer (some ⟨K, off, none⟩))) 40 (.pointer (some ⟨K, off, none⟩))) b _ ⟨hB, (fun _ => rfl), (fun _ => rfl), (fun _ => rfl), (fun _ => rfl), (fun _ => rfl), (fun _ => rfl), (fun _ => rfl), (fun _ => rfl), (fun _ => rfl), (fun _ => rfl), (fun _ => rfl), (p12_ hF.out), (p13_ hF.out), (fun _ => rfl), (fun _ => rfl), (p16_ hF.out), (p17_ hF.out), (q18_ hF.out)⟩
        refine StepsF.cons (o := _) rfl (ws := [13, 11, 11, 0, 1, 2, 3, 4, 5, 6, 7, 8, 9, 10, 11]) (by kernel_rfl) (by decide) (fun d s b w hF hd hw K_ hK => ?_) ?_
        · have hB : True := trivial
          have e0 : s 27 = .pointer (some ⟨K, off, none⟩) := (p1_ hF.out) (hw 0 (by decide))
          have e1 : s 28 = .pointer (some ⟨K, off, none⟩) := (p2_ hF.out) (hw 1 (by decide))
          have e2 : s 29 = .pointer (some ⟨K, off, none⟩) := (p3_ hF.out) (hw 2 (by decide))
          have e3 : s 30 = .pointer (some ⟨K, off, none⟩) := (p4_ hF.out) (hw 3 (by decide))
          have e4 : s 31 = .slice p1 t c1 := (p5_ hF.out) (hw 4 (by decide))
          have e5 : s 32 = .slice q m c := (p6_ hF.out) (hw 5 (by decide))
          have e6 : s 33 = .slice q m c := (p7_ hF.out) (hw 6 (by decide))
          have e7 : s 34 = .int .i64 m := (p8_ hF.out) (hw 7 (by decide))
          have e8 : s 35 = .int .i64 r := (p9_ hF.out) (hw 8 (by decide))
          have e9 : s 36 = .int .i64 m := (p10_ hF.out) (hw 9 (by decide))
          have e10 : s 37 = .slice q m c := (p11_ hF.out) (hw 10 (by decide))
          have e13 : s 40 = .pointer (some ⟨K, off, none⟩) := (p15_ hF.out) (hw 13 (by decide))
          dsimp only
          have hr := (p13_ hF.out) (hw 11 (by decide)) hd
          obtain ⟨p2, c2, e2⟩ := hr.1.slice
          rw [e2] at hr
          have fr := hr.2.1.ok off (by rw [over_len cs off _ OF.out]; exact OF.out)
          have ce := hr.2.1.at off _ (over_at cs off _ OF.out)
          have Kl3 := hr.2.1.lt
          go_simp
          exact hK.out (ups (ups (ups (ups (ups (ups (ups (ups (ups (ups (ups (ups (ups s 27 (.pointer (some ⟨K, off, none⟩))) 28 (.pointer (some ⟨K, off, none⟩))) 29 (.pointer (some ⟨K, off, none⟩))) 30 (.pointer (some ⟨K, off, none⟩))) 31 (.slice p1 t c1)) 32 (.slice q m c)) 33 (.slice q m c)) 34 (.int .i64 m)) 35 (.int .i64 r)) 36 (.int .i64 m)) 37 (.slice q m c)) 40 (.pointer (some ⟨K, off, none⟩))) 38 (.slice p2 (t + m) c2)) b _ ⟨hB, (fun _ => rfl), (fun _ => rfl), (fun _ => rfl), (fun _ => rfl), (fun _ => rfl), (fun _ => rfl), (fun _ => rfl), (fun _ => rfl), (fun _ => rfl), (fun _ => rfl), (fun _ => rfl), (fun h => nomatch ((hw 11 (by decide)).symm.trans h)), (fun _ h => nomatch h), (p14_ hF.out), (fun _ => rfl), (fun _ => ⟨w, hr, rfl⟩), (p17_ hF.out), (fun _ => hw 11 (by decide))⟩
        exact StepsF.nil
      intro d s b z1 hF hall
      replace hF := Lib.hid hF
      have hB : True := trivial
      try dsimp only
      have e0 : s 27 = .pointer (some ⟨K, off, none⟩) := (p1_ hF.out) (hall 0 (by decide))
      have e1 : s 28 = .pointer (some ⟨K, off, none⟩) := (p2_ hF.out) (hall 1 (by decide))
      have e2 : s 29 = .pointer (some ⟨K, off, none⟩) := (p3_ hF.out) (hall 2 (by decide))
      have e3 : s 30 = .pointer (some ⟨K, off, none⟩) := (p4_ hF.out) (hall 3 (by decide))
      have e4 : s 31 = .slice p1 t c1 := (p5_ hF.out) (hall 4 (by decide))
      have e5 : s 32 = .slice q m c := (p6_ hF.out) (hall 5 (by decide))
      have e6 : s 33 = .slice q m c := (p7_ hF.out) (hall 6 (by decide))
      have e7 : s 34 = .int .i64 m := (p8_ hF.out) (hall 7 (by decide))
      have e8 : s 35 = .int .i64 r := (p9_ hF.out) (hall 8 (by decide))
      have e9 : s 36 = .int .i64 m := (p10_ hF.out) (hall 9 (by decide))
      have e10 : s 37 = .slice q m c := (p11_ hF.out) (hall 10 (by decide))
      have e12 : s 39 = .pointer (some ⟨K, off, none⟩) := (p14_ hF.out) (hall 12 (by decide))
      have e13 : s 40 = .pointer (some ⟨K, off, none⟩) := (p15_ hF.out) (hall 13 (by decide))
      have f14 := (p16_ hF.out) (hall 14 (by decide))
      rw [e0, e1, e2, e3, e4, e5, e6, e7, e8, e9, e10, e12, e13]
      clear hall hF e0 e1 e2 e3 e4 e5 e6 e7 e8 e9 e10 e12 e13
      obtain ⟨u1, hz⟩ : ∃ x, x = s 38 := ⟨_, rfl⟩
      rw [← hz] at f14 ⊢
      clear hz
      clear d s b
      obtain ⟨w2, hr, rfl⟩ := f14
      have O1 := Lib.hid (hr.1.far (o := off) (vs := [u1]) Kl)
      rw [← HTk.out] at O1
      have O2 := Lib.hid (Own.over1 (b := u1) hr.2.1 OF.out)
      have O3 := Lib.hid (hr.2.2.trans (But.store (K := K) (o := off) (a := w2) (vs := [u1])))
      clear DK HK BU hr hB BYq vc vf
      go_wp2_with (fail)
      go_roundw
      case rel => (first | exact ⟨k + 1, _, HLT.out, by go_num, O1, O2, O3⟩ | ((repeat apply Exists.intro); exact ⟨⟨k + 1, _, HLT.out, by go_num, O1, O2, O3⟩, rfl⟩))
      case measure => (have := HLT.out; simp [intOf]; omega)
    · have hkm : k = np := by omega
      subst hkm
      clear hk hlt
      go_wp2_with (fail)
      refine bodyPost_end (results_none rfl _ _ _) rfl ?_
      exact ⟨_, rfl, DK.out, HK.out, BU.out⟩
end Go.Proofs.YtjkeaiihjbcfgaaDoor

/- NW -/
namespace Go.Proofs.YtjkeaiihjbcfgaaDoor
set_option linter.unusedVariables false
set_option maxRecDepth 2000
set_option linter.unusedSimpArgs false
open Go.RowKit
theorem Parts.away {w w' : World} {p : Option Addr} {np K : Nat} {g : Nat → Int} {T : Nat → Nat} (h : Parts w p np g T) (hb : Below w.heap.size w w') (hK : w.heap.size ≤ K) : PartsN w' p np g T K := fun k hk => by
  obtain ⟨D, o, q, m, c, h1, h2, h3, h4, h5, h6, h7⟩ := h k hk
  refine ⟨D, o, q, m, c, h1, by omega, Nat.lt_of_lt_of_le h2 hb.size, (hb.cell (p := ⟨D, o + k, none⟩) h2).trans h3, h4, h5, h6, ?_⟩
  rcases h7 with h0 | ⟨b, off, e1, e2⟩
  · exact .inl h0
  · exact .inr ⟨b, off, e1, by have := e2.lt; omega, e2.later hb⟩
theorem DatK.byt {w : World} {v : Value} {n base K : Nat} {g : Nat → Int} (h : DatK w v n g base K) (hn : n ≤ 65536) : ∃ p c, v = .slice p n c ∧ n ≤ c ∧ c ≤ 9223372036854775807 ∧ Byt w p n g := by
  rcases h with ⟨p, h1, _, h3⟩ | h
  · exact ⟨p, n, h1, Nat.le_refl _, by omega, h3.byt⟩
  · rcases h.2 with ⟨rfl, rfl⟩ | ⟨G, cap, cur, rfl, hG, hh, hc, hm, _⟩
    · exact ⟨none, 0, rfl, Nat.le_refl _, by omega, .inl rfl⟩
    · exact ⟨_, cap, rfl, hc, hm, .inr ⟨G, 0, rfl, (row_has' h).1⟩⟩
attribute [local go_sem] nums_length

set_option maxHeartbeats 4000000 in
theorem Tag_any (kf g : Nat → Int) (P_ : Option Addr) (np cp : Nat) (T : Nat → Nat) (hk : ∀ i, i < 32 → inB (kf i)) (hg : ∀ i, i < T np → inB (g i)) (hT0 : T 0 = 0) (hT : ∀ k, k ≤ np → T k ≤ 65536) (hnp : np ≤ cp) (hcp : cp ≤ 9223372036854775807) (w : World) (hP : Parts w P_ np g T) :
    Calls Tryd.prog 21 #[(.agg (nums .u8 kf 32).toArray), .slice P_ np cp] w fun e w' => e = .returned (.agg (nums .u8 (byt (tagN kf g (T np))) 16).toArray) ∧ Below w.heap.size w w' := by
  have KB := Lib.hid hk; have GB := Lib.hid hg; have HT0 := Lib.hid hT0; have HT := Lib.hid hT; have HNP := Lib.hid hnp; have HCP := Lib.hid hcp; have HP := Lib.hid hP
  clear hk hg hT0 hT hnp hcp hP
  go_enter Tryd.func21, Tryd.ntmps21
  go_upto_region 2 with fail
  obtain ⟨W0, hW⟩ : ∃ W0, W0 = (((w.alloc (.cells (nums .u8 kf 32).toArray 22)).alloc (.cells #[.int .u8 0, .int .u8 0, .int .u8 0, .int .u8 0, .int .u8 0, .int .u8 0, .int .u8 0, .int .u8 0, .int .u8 0, .int .u8 0, .int .u8 0, .int .u8 0, .int .u8 0, .int .u8 0, .int .u8 0, .int .u8 0] 29)).alloc (.cells #[.slice none 0 0] 54)) := ⟨_, rfl⟩
  have hB0 : Below w.heap.size w W0 := hW ▸ (Below.al (Below.al (Below.al (Below.refl _ _))))
  have HY : Hid (Own w.heap.size (nums .u8 kf 32) W0) := Lib.hid (hW ▸ (show Own w.heap.size (nums .u8 kf 32) (w.alloc (.cells (nums .u8 kf 32).toArray 22)) from Own.newAt (by simp)).alloc.alloc)
  have HR : Hid (Own (w.heap.size + 1) (nums .u8 (fun _ => 0) 16) W0) := Lib.hid (hW ▸ (show Own (w.heap.size + 1) (nums .u8 (fun _ => 0) 16) ((w.alloc (.cells (nums .u8 kf 32).toArray 22)).alloc (.cells #[.int .u8 0, .int .u8 0, .int .u8 0, .int .u8 0, .int .u8 0, .int .u8 0, .int .u8 0, .int .u8 0, .int .u8 0, .int .u8 0, .int .u8 0, .int .u8 0, .int .u8 0, .int .u8 0, .int .u8 0, .int .u8 0] 29)) from Own.newAt (by simp)).alloc)
  have HK : Hid (Own ((w.heap.size + 1) + 1) ([.slice none 0 0]) W0) := Lib.hid (hW ▸ (show Own ((w.heap.size + 1) + 1) ([.slice none 0 0]) (((w.alloc (.cells (nums .u8 kf 32).toArray 22)).alloc (.cells #[.int .u8 0, .int .u8 0, .int .u8 0, .int .u8 0, .int .u8 0, .int .u8 0, .int .u8 0, .int .u8 0, .int .u8 0, .int .u8 0, .int .u8 0, .int .u8 0, .int .u8 0, .int .u8 0, .int .u8 0, .int .u8 0] 29)).alloc (.cells #[.slice none 0 0] 54)) from Own.newAt (by simp)))
  rw [← hW]
  clear hW
  obtain ⟨K, eK⟩ : ∃ X, X = ((w.heap.size + 1) + 1) := ⟨_, rfl⟩
  rw [← eK] at HK ⊢
  have Kw : w.heap.size ≤ K := by omega
  obtain ⟨R, eR⟩ : ∃ X, X = (w.heap.size + 1) := ⟨_, rfl⟩
  rw [← eR] at HR ⊢
  have Rw : w.heap.size ≤ R := by omega
  obtain ⟨Y, eY⟩ : ∃ X, X = w.heap.size := ⟨_, rfl⟩
  rw [← eY] at HY ⊢
  have Yw : w.heap.size ≤ Y := by omega
  have nYR : Y ≠ R := by omega
  have nRY : R ≠ Y := by omega
  have nYK : Y ≠ K := by omega
  have nKY : K ≠ Y := by omega
  have nRK : R ≠ K := by omega
  have nKR : K ≠ R := by omega
  clear eY eR eK
  have PN := Lib.hid (HP.out.away hB0 Kw)
  go_wp2_with (fail)
  go_at_call 34
  refine (keep_any K 0 [.slice none 0 0] none 0 0 g P_ np cp T rfl (Nat.le_refl _) (fun _ => rfl) HT0.out HT.out HNP.out HCP.out _ HK.out (.inl rfl) PN.out).mono ?_
  rintro e w1 ⟨v1, rfl, hdat, hKs, hbut⟩
  obtain ⟨p1, c1, rfl, n1, c2, hby⟩ := hdat.byt (HT.out np (Nat.le_refl _))
  have HY1 := Lib.hid (HY.out.but hbut nYK)
  have HR1 := Lib.hid (HR.out.but hbut nRK)
  have HK1 := Lib.hid (show Has K 0 [.slice p1 (T np) c1] w1 from hKs.has)
  have hB1 : Below w.heap.size w w1 := hB0.trans (hbut.below.mono Kw)
  have BY := Lib.hid hby
  have N1 := Lib.hid n1; have C2 := Lib.hid c2; have N6 := Lib.hid (HT.out np (Nat.le_refl _))
  clear HY HR HK PN hB0 hdat hKs hbut hby n1 c2
  have HY := HY1; have HR := HR1
  clear HY1 HR1
  have hB0 := hB1
  clear hB1
  obtain ⟨n, en⟩ : ∃ n, T np = n := ⟨_, rfl⟩
  rw [en] at HK1 BY N1 N6 GB
  have EN := Lib.hid en
  clear en
  go_upto_region 3 with fail
  refine wp_region_lit ?_
  refine wpList_load_mid rfl 22 _ rfl Y 0 rfl (nums .u8 kf 32) _ HY.out.cell Tryd.underlying22 rfl (by kernel_rfl) ?_
  go_wp2_with (fail)
  go_at_call 35
  refine (tag_any kf g K 0 p1 n c1 KB.out GB.out N6.out N1.out C2.out _ HK1.out BY.out).mono ?_
  rintro e w2 ⟨rfl, hb⟩
  have HRk := Lib.hid (HR.out.later hb)
  clear HR
  have HR := HRk
  clear HRk
  obtain ⟨T_, eT⟩ : ∃ x, tagN kf g n = x := ⟨_, rfl⟩
  rw [eT]
  have ET := Lib.hid (show tagN kf g (T np) = T_ by rw [EN.out]; exact eT)
  clear eT
  have hB1 := Below.go hB0 hb
  have hst := store_nums (P := Tryd.prog) (n := 16) .u8 (byt T_) HR.out rfl
  have HR1 := Lib.hid (Own.store (vs := nums .u8 (byt T_) 16) HR.out rfl)
  have hB2 := Below.setCells hB1 Rw (nums .u8 (byt T_) 16) 0
  go_wp2_with (fail)
  have hL := run_loadVar_mid (P := Tryd.prog) _ R 0 29 (nums .u8 (byt T_) 16) _ HR1.out.cell Tryd.underlying29 rfl (by kernel_rfl)
  exact bodyPost_ret (v := .agg (nums .u8 (byt T_) 16).toArray) (res_cell Tryd.results21 rfl hL) rfl ⟨by rw [ET.out], hB2⟩
end Go.Proofs.YtjkeaiihjbcfgaaDoor
