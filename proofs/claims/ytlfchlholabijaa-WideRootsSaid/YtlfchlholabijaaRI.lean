/- The document's numbers: Wide. -/
import Derived.Test.YtlfchlholabijaaRH
import Derived.Deep.RegionLawGrows
import Derived.Deep.Upon
namespace Go.Proofs.Ytlfchlholabijaa
set_option linter.unusedVariables false
set_option maxRecDepth 2000
open Go.RowKit
attribute [local go_sem] setCell_twice setCell_pair

/-- cells that are known, and not frozen -/
def Kept (F : List (Nat × Nat × Value)) (X : World) : Prop := ∀ t, t ∈ F → t.1 < X.heap.size ∧ X.cell? ⟨t.1, t.2.1, none⟩ = some t.2.2 ∧ X.frozen? ⟨t.1, t.2.1, none⟩ = false
theorem Kept.step {F : List (Nat × Nat × Value)} {X X' : World} (h : Kept F X) (hb : Below X.heap.size X X') : Kept F X' := fun t ht => by
  obtain ⟨h1, h2, h3⟩ := h t ht
  exact ⟨Nat.lt_of_lt_of_le h1 hb.size, (hb.cell (p := ⟨t.1, t.2.1, none⟩) h1).trans h2, (hb.frozen (p := ⟨t.1, t.2.1, none⟩) h1).trans h3⟩
theorem Kept.nil {X : World} : Kept [] X := fun t ht => by cases ht
theorem Kept.cons {F : List (Nat × Nat × Value)} {X : World} {b o : Nat} {v : Value} (h1 : b < X.heap.size) (h2 : X.cell? ⟨b, o, none⟩ = some v) (h3 : X.frozen? ⟨b, o, none⟩ = false) (h : Kept F X) : Kept ((b, o, v) :: F) X := fun t ht => by
  rcases List.mem_cons.1 ht with rfl | ht
  · exact ⟨h1, h2, h3⟩
  · exact h t ht
theorem Kept.get {F : List (Nat × Nat × Value)} {X : World} (h : Kept F X) (b o : Nat) (v : Value) (ht : (b, o, v) ∈ F) : b < X.heap.size ∧ X.cell? ⟨b, o, none⟩ = some v ∧ X.frozen? ⟨b, o, none⟩ = false := h (b, o, v) ht

theorem NumR.zero (w : World) : NumR w (.agg #[.bool false, .slice none 0 0]) 0 :=
  ⟨false, _, [], rfl, .inl ⟨rfl, rfl⟩, fun i => by simp, .inl rfl, fun _ => rfl, by simp [val]⟩

theorem step_append_nothing {P : Program} {ops : Array Oper} {o : Oper} {a : Act} {w : World} {K : Act → World → Prop} {Q : Exit → Act → World → Prop} {E : Prop}
    (hg : o.guard = none) (s x : Operand) (t : TypeId) (hop : o.op = Op.call { callee := Callee.builtin Builtin.append, args := #[s, x], argTypes := #[t, t] })
    (e : TypeId) (i : TypeInfo) (h1 : P.underlying t = some (.slice e)) (h2 : P.info? e = some i) (base : Option Addr) (n cap : Nat) (hle : n ≤ cap) (hs : a.eval s = .slice base n cap) (xa : Option Addr) (c : Nat) (hx : a.eval x = .slice xa 0 c)
    (hK : K (a.put o.dst (.slice base n cap)) w) :
    if Region.wanted o (yielded ops a.tmps) = true then Oper.wp P o a w K Q else E := by
  have hw : Region.wanted o (yielded ops a.tmps) = true := by simp [Region.wanted, hg]
  rw [if_pos hw]
  have src : Src P i.size t (.slice xa 0 c) 0 [] w := by
    cases xa with
    | none => exact Src.ofNil w h1 c
    | some ad => exact Src.ofSlice w h1 ad 0 c [] (by simp) (fun j u hj => by simp at hj) (by simp)
  have hrun := run_append_nothing (P := P) w t t o.type e i h1 h2 base n cap hle (.slice xa 0 c) src
  unfold Oper.wp
  simp [execOp, hop, resolve, invoke, builtin, hs, hx, hrun, Result.andThen]
  exact hK

theorem val_four (ds : List Int) : val (0 :: 0 :: 0 :: 0 :: ds) = 18446744073709551616 * val ds := by simp only [val]; omega
theorem digs_four (ds : List Int) (h : ∀ i, 0 ≤ ds.getD i 0 ∧ ds.getD i 0 ≤ 65535) : ∀ i, 0 ≤ (0 :: 0 :: 0 :: 0 :: ds).getD i 0 ∧ (0 :: 0 :: 0 :: 0 :: ds).getD i 0 ≤ 65535 := by
  intro i
  match i with
  | 0 => simp
  | 1 => simp
  | 2 => simp
  | 3 => simp
  | i + 4 => simpa using h i

theorem add_blk (blk j : Nat) : (⟨blk, 0, none⟩ : Addr).add j = ⟨blk, j, none⟩ := by
  cases j <;> simp [Addr.add]
theorem SlR.news {w : World} {blk n c : Nat} {ds : List Int} (h : SlR w (.slice (some ⟨blk, 0, none⟩) n c) ds) : ∀ j u, (ds.map (Value.int .i64))[j]? = some u → w.cell? ((⟨blk, 0, none⟩ : Addr).add j) = some u := by
  rcases h with ⟨h1, _⟩ | ⟨blk', n', c', h1, h2, _, _, _, h6⟩
  · cases h1
  · cases h1
    intro j u hu
    have hj : j < ds.length := by
      have := (List.getElem?_eq_some_iff.1 hu).1
      simpa using this
    have := h6 j (by omega)
    rw [List.getElem?_map, List.getElem?_eq_getElem hj] at hu
    simp at hu
    rw [add_blk, this, ← hu]
    simp [hj]
theorem zeros_at (X Y : World) (T : TypeId) (hB : Below (X.alloc (.cells #[.int .i64 0, .int .i64 0, .int .i64 0, .int .i64 0] T)).heap.size (X.alloc (.cells #[.int .i64 0, .int .i64 0, .int .i64 0, .int .i64 0] T)) Y) :
    ∀ b, some (⟨X.heap.size, 0, none⟩ : Addr) = some b → ∀ (j : Nat) u, ([.int .i64 0, .int .i64 0, .int .i64 0, .int .i64 0] : List Value)[j]? = some u → Y.cell? (b.add j) = some u := by
  intro b hb j u hu
  cases hb
  have hj : j < 4 := by
    have := (List.getElem?_eq_some_iff.1 hu).1
    simpa using this
  rw [add_blk, hB.cell (p := ⟨X.heap.size, j, none⟩) (by simp)]
  obtain rfl | rfl | rfl | rfl : j = 0 ∨ j = 1 ∨ j = 2 ∨ j = 3 := by omega
  all_goals
    simp at hu
    subst hu
    simp [go_sem]

theorem addr_ne {R A o o' : Nat} (h : ¬ R = A) : (⟨R, o, none⟩ : Addr) ≠ ⟨A, o', none⟩ := fun e => h (congrArg Addr.block e)
theorem dig_zero (b : Bool) (X w : World) (T : TypeId) (hB : Below (X.alloc (.cells #[.int .i64 0, .int .i64 0, .int .i64 0, .int .i64 0] T)).heap.size (X.alloc (.cells #[.int .i64 0, .int .i64 0, .int .i64 0, .int .i64 0] T)) w) :
    DigR w (.agg #[.bool b, .slice (some ⟨X.heap.size, 0, none⟩) 4 4]) 0 := by
  have zs := zeros_at X w T hB
  refine ⟨b, _, [0, 0, 0, 0], rfl, .inr ⟨X.heap.size, 4, 4, rfl, rfl, by omega, by omega, ?_, fun i hi => ?_⟩, ?_, by simp, ?_⟩
  · have := hB.size; simp at this; omega
  · have := zs _ rfl i (.int .i64 0) (by obtain rfl | rfl | rfl | rfl : i = 0 ∨ i = 1 ∨ i = 2 ∨ i = 3 := by omega
                                         all_goals rfl)
    rw [add_blk] at this
    rw [this]
    obtain rfl | rfl | rfl | rfl : i = 0 ∨ i = 1 ∨ i = 2 ∨ i = 3 := by omega
    all_goals rfl
  · exact digs_four [] (fun i => by simp)
  · cases b <;> simp [val]
theorem below_of_grown {a b : World} (h : a.grownBy b none) : Below a.heap.size a b := ⟨h.os, h.tape, h.output, h.size, fun k hk => h.block k hk (by simp)⟩
theorem dig_four (b : Bool) (ds : List Int) (h : Int) (w : World) (p : Option Addr) (n c : Nat) (hval : h = if b then -val ds else val ds) (hd : ∀ i, 0 ≤ ds.getD i 0 ∧ ds.getD i 0 ≤ 65535) (hl : ds.length ≤ 900) (hs : SlR w (.slice p n c) (0 :: 0 :: 0 :: 0 :: ds)) :
    DigR w (.agg #[.bool b, .slice p n c]) (h * 18446744073709551616) := by
  refine ⟨b, _, _, rfl, hs, digs_four ds hd, by simp; omega, ?_⟩
  rw [val_four, hval]
  cases b <;> simp <;> omega

set_option maxHeartbeats 4000000 in
theorem Wide_core (h l : Int) (w : World) (h0 : -9223372036854775808 ≤ h) (h1 : h ≤ 9223372036854775807) (l0 : 0 ≤ l) (l1 : l ≤ 18446744073709551615) :
    Calls Try.prog 13 #[.agg #[.int .i64 h, .int .u64 l]] w (NumE w (h * 18446744073709551616 + l)) := by
  obtain ⟨i0, hi, hz0, hz1, hz2⟩ := info_parts infoInt
  have su := Lib.hid (fun wx u v y z (hu : DigR wx u y) (hv : DigR wx v z) => refSum_dig u v y z wx hu hv)
  have lB : (l.natAbs : Int) < BIG := by have : (18446744073709551616 : Int) < BIG := by decide
                                         omega
  go_enter Try.func13, Try.ntmps13
  go_wp2_with (fail); go_at_call 7; refine (refOf_any h h0 h1 _).mono ?_; rintro e w1 ⟨v, rfl, hv, hb⟩
  have hB' : (h.natAbs : Int) < BIG := by have : (18446744073709551616 : Int) < BIG := by decide
                                          omega
  have hlen40 := hv
  obtain ⟨b, s, ds, rfl, hsl', hdg', hcan, hbn, hval'⟩ := hv
  have l40 : ds.length ≤ 900 := by
    have vn := val_nonneg ds fun i => (hdg' i).1
    have := len_le ds hdg' hcan (by split at hval' <;> omega)
    omega
  obtain ⟨p, n, c, rfl⟩ := hsl'.form
  have hn6 := hsl'.len.2
  have hlen := Lib.hid hsl'.len.1
  have hn9 : n ≤ 900 := by rw [← hlen.out]; exact l40
  have hval := Lib.hid hval'; have hdg := Lib.hid hdg'
  clear hval' hdg' hcan hbn hlen40 hB' l40
  have hz : w.heap.size + 1 < w1.heap.size := (by have := hb.size; (try simp at this); omega); have c00 := hb.cell (p := ⟨w.heap.size, 0, none⟩) (by first | omega | (simp; done) | (simp; omega)); have f00 := hb.frozen (p := ⟨w.heap.size, 0, none⟩) (by first | omega | (simp; done) | (simp; omega)); have c01 := hb.cell (p := ⟨w.heap.size, 1, none⟩) (by first | omega | (simp; done) | (simp; omega)); have f01 := hb.frozen (p := ⟨w.heap.size, 1, none⟩) (by first | omega | (simp; done) | (simp; omega)); have c10 := hb.cell (p := ⟨w.heap.size + 1, 0, none⟩) (by first | omega | (simp; done) | (simp; omega)); have f10 := hb.frozen (p := ⟨w.heap.size + 1, 0, none⟩) (by first | omega | (simp; done) | (simp; omega)); have c11 := hb.cell (p := ⟨w.heap.size + 1, 1, none⟩) (by first | omega | (simp; done) | (simp; omega)); have f11 := hb.frozen (p := ⟨w.heap.size + 1, 1, none⟩) (by first | omega | (simp; done) | (simp; omega)); simp [go_sem] at c00 f00 c01 f01 c10 f10 c11 f11; have hb' : Below w.heap.size w w1 := below_step (by repeat (first | exact Below.refl _ _ | assumption | refine below_drewN ?_ _ | refine Below.drew ?_ | refine Below.alloc ?_ (by first | omega | (simp; done) | (simp; omega)) _ | refine Below.setCell ?_ (by first | (simp; done) | (simp; omega)) _)) hb
  go_wp2_with (fail)
  have hB0 : Below w.heap.size w (w1.alloc (.cells #[.bool b, .slice p n c] 29)) := (by repeat (first | exact Below.refl _ _ | assumption | refine below_drewN ?_ _ | refine Below.drew ?_ | refine Below.alloc ?_ (by first | omega | (simp; done) | (simp; omega)) _ | refine Below.setCell ?_ (by first | (simp; done) | (simp; omega)) _))
  have hz' : w.heap.size < w1.heap.size := Nat.lt_of_succ_lt hz
  have K0 : Kept [(w.heap.size, 1, .int .u64 l), (w1.heap.size, 0, .bool b), (w1.heap.size, 1, .slice p n c), (w.heap.size + 1, 0, .bool false), (w.heap.size + 1, 1, .slice none 0 0)] (w1.alloc (.cells #[.bool b, .slice p n c] 29)) := by
    refine .cons ?_ ?_ ?_ (.cons ?_ ?_ ?_ (.cons ?_ ?_ ?_ (.cons ?_ ?_ ?_ (.cons ?_ ?_ ?_ .nil)))) <;> first | (simp; omega) | simp [go_sem, c01, f01, c10, f10, c11, f11, hz, hz']
  have hsl := Lib.hid (hsl'.later (show Below w1.heap.size w1 (w1.alloc (.cells #[.bool b, .slice p n c] 29)) from (Below.refl _ _).alloc (Nat.le_refl _) _) (Nat.le_refl _))
  clear c00 c01 c10 c11 f00 f01 f10 f11 hsl'
  obtain ⟨R, hRe⟩ : ∃ R, R = w.heap.size + 1 := ⟨_, rfl⟩
  obtain ⟨A, hAe⟩ : ∃ A, A = w.heap.size := ⟨_, rfl⟩
  obtain ⟨D, hDe⟩ : ∃ D, D = w1.heap.size := ⟨_, rfl⟩
  rw [← hRe] at K0 ⊢
  rw [← hAe] at K0 ⊢
  rw [← hDe] at K0 ⊢
  generalize w1.alloc (.cells #[.bool b, .slice p n c] 29) = W0 at *
  have hwR : w.heap.size ≤ R := by omega
  have nRA : ¬ R = A := by omega
  have nRD : ¬ R = D := by omega
  have hS0 := hB0.size
  have K0 := Lib.hid K0
  have LB := Lib.hid lB
  clear hRe hAe hDe hb hz hz' hb' lB h0 h1
  have a1z := (K0.out.get A 1 (.int .u64 l) (by simp)).2.1
  have d0z := (K0.out.get D 0 (.bool b) (by simp)).2.1
  have d1z := (K0.out.get D 1 (.slice p n c) (by simp)).2.1
  have r0z := (K0.out.get R 0 (.bool false) (by simp)).2.1
  have r1z := (K0.out.get R 1 (.slice none 0 0) (by simp)).2.1
  have e0z := (K0.out.get R 0 (.bool false) (by simp)).2.2
  have e1z := (K0.out.get R 1 (.slice none 0 0) (by simp)).2.2
  have zAz := (K0.out.get A 1 (.int .u64 l) (by simp)).1
  have zDz := (K0.out.get D 0 (.bool b) (by simp)).1
  have zRz := (K0.out.get R 0 (.bool false) (by simp)).1
  have nAz := Nat.ne_of_lt zAz
  have nDz := Nat.ne_of_lt zDz
  have nRz := Nat.ne_of_lt zRz
  rcases Nat.eq_zero_or_pos n with hn0 | hn0
  · subst hn0
    have h00 : h = 0 := by
      have e := List.length_eq_zero_iff.1 hlen.out
      have := hval.out
      rw [e] at this
      cases b <;> simpa [val] using this
    have H00 := Lib.hid h00
    clear h00
    go_region_held3 (fun w' => w'.cell? ⟨A, 1, none⟩ = some (.int .u64 l) ∧ w'.cell? ⟨D, 0, none⟩ = some (.bool b) ∧ w'.cell? ⟨D, 1, none⟩ = some (.slice p 0 c)) (first | exact ⟨by assumption, by assumption, by assumption⟩ | (refine ⟨?_, ?_, ?_⟩ <;> (rw [World.cell?_setCell_other _ _ _ _ (by first | exact addr_ne nRA | exact addr_ne nRD), World.cell?_setCell_other _ _ _ _ (by first | exact addr_ne nRA | exact addr_ne nRD)]; assumption)) | go_keep) (first | (refine step_append_nothing rfl (.tmp 9) (.tmp 11) 27 rfl 3 i0 Try.underlying27 hi (some ⟨_, 0, none⟩) 4 4 (by omega) rfl p c rfl ?_) | (go_at_call 20; refine (from_any _ l0 l1 _).mono ?_; rintro e w2 ⟨v2, rfl, hv2, h2⟩; have b2 : Below W0.heap.size W0 w2 := below_step (by repeat (first | exact Below.refl _ _ | assumption | refine below_drewN ?_ _ | refine Below.drew ?_ | refine Below.alloc ?_ (by first | omega | (simp; done) | (simp; omega)) _ | refine Below.setCell ?_ (by first | (simp; done) | (simp; omega)) _)) h2; have D3 := Lib.hid (dig_zero b W0 w2 3 (below_step (by repeat (first | exact Below.refl _ _ | assumption | refine below_drewN ?_ _ | refine Below.drew ?_ | refine Below.alloc ?_ (by first | omega | (simp; done) | (simp; omega)) _ | refine Below.setCell ?_ (by first | (simp; done) | (simp; omega)) _)) h2)); have K2 := Lib.hid (K0.out.step b2); have a1b := (K2.out.get A 1 (.int .u64 l) (by simp)).2.1; have d0b := (K2.out.get D 0 (.bool b) (by simp)).2.1; have d1b := (K2.out.get D 1 (.slice p 0 c) (by simp)).2.1; have r0b := (K2.out.get R 0 (.bool false) (by simp)).2.1; have r1b := (K2.out.get R 1 (.slice none 0 0) (by simp)).2.1; have e0b := (K2.out.get R 0 (.bool false) (by simp)).2.2; have e1b := (K2.out.get R 1 (.slice none 0 0) (by simp)).2.2; have zAb := (K2.out.get A 1 (.int .u64 l) (by simp)).1; have zDb := (K2.out.get D 0 (.bool b) (by simp)).1; have zRb := (K2.out.get R 0 (.bool false) (by simp)).1; have nAb := Nat.ne_of_lt zAb; have nDb := Nat.ne_of_lt zDb; have nRb := Nat.ne_of_lt zRb; have s2 := b2.size; have N2 := Lib.hid hv2; clear hv2) | (go_at_call 26; refine (su.out _ _ v2 0 l (DigR.later (B := w2.heap.size) D3.out (by repeat (first | exact Below.refl _ _ | assumption | refine below_drewN ?_ _ | refine Below.drew ?_ | refine Below.alloc ?_ (by first | omega | (simp; done) | (simp; omega)) _ | refine Below.setCell ?_ (by first | (simp; done) | (simp; omega)) _)) (Nat.le_refl _)) (DigR.later (B := w2.heap.size) (NumR.dig N2.out LB.out) (by repeat (first | exact Below.refl _ _ | assumption | refine below_drewN ?_ _ | refine Below.drew ?_ | refine Below.alloc ?_ (by first | omega | (simp; done) | (simp; omega)) _ | refine Below.setCell ?_ (by first | (simp; done) | (simp; omega)) _)) (Nat.le_refl _))).mono ?_; rintro e w4 ⟨v4, rfl, hv4, h4⟩; obtain ⟨b4', p4, n4, c4, rfl⟩ := hv4.form; have b4 : Below W0.heap.size W0 w4 := below_step (by repeat (first | exact Below.refl _ _ | assumption | refine below_drewN ?_ _ | refine Below.drew ?_ | refine Below.alloc ?_ (by first | omega | (simp; done) | (simp; omega)) _ | refine Below.setCell ?_ (by first | (simp; done) | (simp; omega)) _)) h4; have K4 := Lib.hid (K0.out.step b4); have a1d := (K4.out.get A 1 (.int .u64 l) (by simp)).2.1; have d0d := (K4.out.get D 0 (.bool b) (by simp)).2.1; have d1d := (K4.out.get D 1 (.slice p 0 c) (by simp)).2.1; have r0d := (K4.out.get R 0 (.bool false) (by simp)).2.1; have r1d := (K4.out.get R 1 (.slice none 0 0) (by simp)).2.1; have e0d := (K4.out.get R 0 (.bool false) (by simp)).2.2; have e1d := (K4.out.get R 1 (.slice none 0 0) (by simp)).2.2; have zAd := (K4.out.get A 1 (.int .u64 l) (by simp)).1; have zDd := (K4.out.get D 0 (.bool b) (by simp)).1; have zRd := (K4.out.get R 0 (.bool false) (by simp)).1; have nAd := Nat.ne_of_lt zAd; have nDd := Nat.ne_of_lt zDd; have nRd := Nat.ne_of_lt zRd; have s4 := b4.size; have N4 := Lib.hid hv4; clear hv4))
    have hf := Lib.hid (N4.out.boxed r0d (.bool b4') (.slice p4 n4 c4))
    have bf : Below w.heap.size w w4 := below_step hB0 b4
    rw [show (0 + l : Int) = h * 18446744073709551616 + l by rw [H00.out]; omega] at hf
    go_wp2_with (fail)
    exact bodyPost_ret (v := .agg #[.bool b4', .slice p4 n4 c4]) (by simp [results, Try.results13, go_sem, r0d, r1d]) rfl ⟨_, rfl, hf.out, (by repeat (first | exact Below.refl _ _ | assumption | refine below_drewN ?_ _ | refine Below.drew ?_ | refine Below.alloc ?_ (by first | omega | (simp; done) | (simp; omega)) _ | refine Below.setCell ?_ (by first | (simp; done) | (simp; omega)) _))⟩
  · obtain ⟨blk, rfl⟩ : ∃ blk, p = some ⟨blk, 0, none⟩ := by
      rcases hsl.out with ⟨e, _⟩ | ⟨blk, n', c', e, _⟩
      · cases e; omega
      · cases e; exact ⟨blk, rfl⟩
    go_region_held3 (fun w' => w'.cell? ⟨A, 1, none⟩ = some (.int .u64 l) ∧ w'.cell? ⟨D, 0, none⟩ = some (.bool b) ∧ w'.cell? ⟨D, 1, none⟩ = some (.slice (some ⟨blk, 0, none⟩) n c)) (first | exact ⟨by assumption, by assumption, by assumption⟩ | (refine ⟨?_, ?_, ?_⟩ <;> (rw [World.cell?_setCell_other _ _ _ _ (by first | exact addr_ne nRA | exact addr_ne nRD), World.cell?_setCell_other _ _ _ _ (by first | exact addr_ne nRA | exact addr_ne nRD)]; assumption)) | go_keep) (first | ((refine step_append_grows rfl (.tmp 9) (.tmp 11) 27 rfl 3 i0 (.int .i64 0) 1 8 Try.underlying27 hi hz0 hz1 hz2 rfl (by decide) (some ⟨_, 0, none⟩) 4 4 [.int .i64 0, .int .i64 0, .int .i64 0, .int .i64 0] rfl (by simp) rfl ?hold ⟨blk, 0, none⟩ n c (ds.map (Value.int .i64)) rfl (by simp [hlen.out]) (SlR.news (SlR.later (B := W0.heap.size) hsl.out (by repeat (first | exact Below.refl _ _ | assumption | refine below_drewN ?_ _ | refine Below.drew ?_ | refine Below.alloc ?_ (by first | omega | (simp; done) | (simp; omega)) _ | refine Below.setCell ?_ (by first | (simp; done) | (simp; omega)) _)) (Nat.le_refl _))) (by simp [Value.oneCell']) (by omega) (by unfold maxLen; omega) (by omega) ?_); (case hold => exact zeros_at _ _ 3 (by repeat (first | exact Below.refl _ _ | assumption | refine below_drewN ?_ _ | refine Below.drew ?_ | refine Below.alloc ?_ (by first | omega | (simp; done) | (simp; omega)) _ | refine Below.setCell ?_ (by first | (simp; done) | (simp; omega)) _))); (intro v3 w3 hown hgrow); (obtain ⟨p3, n3, c3, rfl⟩ := own_form hown); have g3 := below_of_grown hgrow; have b3 : Below W0.heap.size W0 w3 := below_step (by repeat (first | exact Below.refl _ _ | assumption | refine below_drewN ?_ _ | refine Below.drew ?_ | refine Below.alloc ?_ (by first | omega | (simp; done) | (simp; omega)) _ | refine Below.setCell ?_ (by first | (simp; done) | (simp; omega)) _)) g3; (try (have c23 : Below w2.heap.size w2 w3 := below_step (by repeat (first | exact Below.refl _ _ | assumption | refine below_drewN ?_ _ | refine Below.drew ?_ | refine Below.alloc ?_ (by first | omega | (simp; done) | (simp; omega)) _ | refine Below.setCell ?_ (by first | (simp; done) | (simp; omega)) _)) g3)); have K3 := Lib.hid (K0.out.step b3); have a1c := (K3.out.get A 1 (.int .u64 l) (by simp)).2.1; have d0c := (K3.out.get D 0 (.bool b) (by simp)).2.1; have d1c := (K3.out.get D 1 (.slice (some ⟨blk, 0, none⟩) n c) (by simp)).2.1; have r0c := (K3.out.get R 0 (.bool false) (by simp)).2.1; have r1c := (K3.out.get R 1 (.slice none 0 0) (by simp)).2.1; have e0c := (K3.out.get R 0 (.bool false) (by simp)).2.2; have e1c := (K3.out.get R 1 (.slice none 0 0) (by simp)).2.2; have zAc := (K3.out.get A 1 (.int .u64 l) (by simp)).1; have zDc := (K3.out.get D 0 (.bool b) (by simp)).1; have zRc := (K3.out.get R 0 (.bool false) (by simp)).1; have nAc := Nat.ne_of_lt zAc; have nDc := Nat.ne_of_lt zDc; have nRc := Nat.ne_of_lt zRc; have s3 := b3.size; have D3 := Lib.hid (dig_four b ds h w3 p3 n3 c3 hval.out hdg.out (by rw [hlen.out]; omega) (own_SlR (ds := 0 :: 0 :: 0 :: 0 :: ds) (by simpa using hown) (by omega))); clear hown) | (go_at_call 20; refine (from_any _ l0 l1 _).mono ?_; rintro e w2 ⟨v2, rfl, hv2, h2⟩; have b2 : Below W0.heap.size W0 w2 := below_step (by repeat (first | exact Below.refl _ _ | assumption | refine below_drewN ?_ _ | refine Below.drew ?_ | refine Below.alloc ?_ (by first | omega | (simp; done) | (simp; omega)) _ | refine Below.setCell ?_ (by first | (simp; done) | (simp; omega)) _)) h2; (try (have c32 : Below w3.heap.size w3 w2 := below_step (by repeat (first | exact Below.refl _ _ | assumption | refine below_drewN ?_ _ | refine Below.drew ?_ | refine Below.alloc ?_ (by first | omega | (simp; done) | (simp; omega)) _ | refine Below.setCell ?_ (by first | (simp; done) | (simp; omega)) _)) h2)); have K2 := Lib.hid (K0.out.step b2); have a1b := (K2.out.get A 1 (.int .u64 l) (by simp)).2.1; have d0b := (K2.out.get D 0 (.bool b) (by simp)).2.1; have d1b := (K2.out.get D 1 (.slice (some ⟨blk, 0, none⟩) n c) (by simp)).2.1; have r0b := (K2.out.get R 0 (.bool false) (by simp)).2.1; have r1b := (K2.out.get R 1 (.slice none 0 0) (by simp)).2.1; have e0b := (K2.out.get R 0 (.bool false) (by simp)).2.2; have e1b := (K2.out.get R 1 (.slice none 0 0) (by simp)).2.2; have zAb := (K2.out.get A 1 (.int .u64 l) (by simp)).1; have zDb := (K2.out.get D 0 (.bool b) (by simp)).1; have zRb := (K2.out.get R 0 (.bool false) (by simp)).1; have nAb := Nat.ne_of_lt zAb; have nDb := Nat.ne_of_lt zDb; have nRb := Nat.ne_of_lt zRb; have s2 := b2.size; have N2 := Lib.hid hv2; clear hv2) | (go_at_call 26; refine (su.out _ _ v2 (h * 18446744073709551616) l (DigR.later (B := w3.heap.size) D3.out (by repeat (first | exact Below.refl _ _ | assumption | refine below_drewN ?_ _ | refine Below.drew ?_ | refine Below.alloc ?_ (by first | omega | (simp; done) | (simp; omega)) _ | refine Below.setCell ?_ (by first | (simp; done) | (simp; omega)) _)) (Nat.le_refl _)) (DigR.later (B := w2.heap.size) (NumR.dig N2.out LB.out) (by repeat (first | exact Below.refl _ _ | assumption | refine below_drewN ?_ _ | refine Below.drew ?_ | refine Below.alloc ?_ (by first | omega | (simp; done) | (simp; omega)) _ | refine Below.setCell ?_ (by first | (simp; done) | (simp; omega)) _)) (Nat.le_refl _))).mono ?_; rintro e w4 ⟨v4, rfl, hv4, h4⟩; obtain ⟨b4', p4, n4, c4, rfl⟩ := hv4.form; have b4 : Below W0.heap.size W0 w4 := below_step (by repeat (first | exact Below.refl _ _ | assumption | refine below_drewN ?_ _ | refine Below.drew ?_ | refine Below.alloc ?_ (by first | omega | (simp; done) | (simp; omega)) _ | refine Below.setCell ?_ (by first | (simp; done) | (simp; omega)) _)) h4; have K4 := Lib.hid (K0.out.step b4); have a1d := (K4.out.get A 1 (.int .u64 l) (by simp)).2.1; have d0d := (K4.out.get D 0 (.bool b) (by simp)).2.1; have d1d := (K4.out.get D 1 (.slice (some ⟨blk, 0, none⟩) n c) (by simp)).2.1; have r0d := (K4.out.get R 0 (.bool false) (by simp)).2.1; have r1d := (K4.out.get R 1 (.slice none 0 0) (by simp)).2.1; have e0d := (K4.out.get R 0 (.bool false) (by simp)).2.2; have e1d := (K4.out.get R 1 (.slice none 0 0) (by simp)).2.2; have zAd := (K4.out.get A 1 (.int .u64 l) (by simp)).1; have zDd := (K4.out.get D 0 (.bool b) (by simp)).1; have zRd := (K4.out.get R 0 (.bool false) (by simp)).1; have nAd := Nat.ne_of_lt zAd; have nDd := Nat.ne_of_lt zDd; have nRd := Nat.ne_of_lt zRd; have s4 := b4.size; have N4 := Lib.hid hv4; clear hv4))
    have hf := Lib.hid (N4.out.boxed r0d (.bool b4') (.slice p4 n4 c4))
    have bf : Below w.heap.size w w4 := below_step hB0 b4
    go_wp2_with (fail)
    exact bodyPost_ret (v := .agg #[.bool b4', .slice p4 n4 c4]) (by simp [results, Try.results13, go_sem, r0d, r1d]) rfl ⟨_, rfl, hf.out, (by repeat (first | exact Below.refl _ _ | assumption | refine below_drewN ?_ _ | refine Below.drew ?_ | refine Below.alloc ?_ (by first | omega | (simp; done) | (simp; omega)) _ | refine Below.setCell ?_ (by first | (simp; done) | (simp; omega)) _))⟩

/-- Wide: a wide number as the document's -/
theorem wide_any (z : Int) (z0 : -170141183460469231731687303715884105728 ≤ z) (z1 : z < 170141183460469231731687303715884105728) (w : World) :
    Calls Try.prog 13 #[(.agg #[.int .i64 (hi (z)), .int .u64 (lo (z))])] w (NumE w z) := by
  have b := hi_bd z z0 z1
  have c := lo_bd' z
  have h := Wide_core (hi z) (lo z) w b.1 b.2 c.1 c.2
  rwa [hl] at h
end Go.Proofs.Ytlfchlholabijaa
