/- The document's numbers: Sum of two of like signs. -/
import Derived.Test.YtlfchlholabijaaRC
namespace Go.Proofs.Ytlfchlholabijaa
set_option linter.unusedVariables false
set_option maxRecDepth 2000
open Go.RowKit
attribute [local go_sem] setCell_twice setCell_pair

theorem infoInt : (Try.prog.info? 3).map (fun i => (i.zero, i.size, i.bytes)) = some (some (.int .i64 0), 1, 8) := by kernel_rfl

theorem val_snoc (ds : List Int) (x : Int) : val (ds ++ [x]) = val ds + x * 65536 ^ ds.length := by
  induction ds with
  | nil => simp [val]
  | cons d l ih => simp only [List.cons_append, val, ih, List.length_cons, Int.pow_succ]; grind
theorem digs_snoc (ds : List Int) (x : Int) (h : ∀ i, 0 ≤ ds.getD i 0 ∧ ds.getD i 0 ≤ 65535) (x0 : 0 ≤ x) (x1 : x ≤ 65535) : ∀ i, 0 ≤ (ds ++ [x]).getD i 0 ∧ (ds ++ [x]).getD i 0 ≤ 65535 := by
  intro i
  rw [List.getD_eq_getElem?_getD]
  rcases Nat.lt_trichotomy i ds.length with hi | hi | hi
  · rw [List.getElem?_append_left hi, ← List.getD_eq_getElem?_getD]; exact h i
  · subst hi; simp; exact ⟨x0, x1⟩
  · rw [List.getElem?_eq_none (by simp; omega)]; simp

theorem ownsRow_below {w w' : World} {base : Nat} {e : TypeId} {v : Value} {n : Nat} {xs : List Value} (h : w.ownsRow base e 1 v n xs) (hb : Below w.heap.size w w') : w'.ownsRow base e 1 v n xs := by
  refine ⟨h.1, ?_⟩
  rcases h.2 with hn | ⟨g, cap, cur, rfl, hbase, hg, rest⟩
  · exact .inl hn
  · refine .inr ⟨g, cap, cur, rfl, hbase, ?_, rest⟩
    rw [hb.block g (Array.getElem?_eq_some_iff.1 hg).1]; exact hg

theorem own_SlR {w : World} {base : Nat} {v : Value} {n : Nat} {ds : List Int} (h : w.ownsRow base 3 1 v n (ds.map (Value.int .i64))) (hn : n ≤ 1000000) : SlR w v ds := by
  have hl : ds.length = n := by simpa using h.1
  rcases h.2 with ⟨rfl, rfl⟩ | ⟨g, cap, cur, rfl, hb, hg, hc, hm, hs, ht⟩
  · exact .inl ⟨rfl, List.length_eq_zero_iff.1 hl⟩
  · refine .inr ⟨g, n, cap, rfl, hl, hc, hn, (Array.getElem?_eq_some_iff.1 hg).1, fun i hi => ?_⟩
    rw [h.cellAt i (by omega)]
    simp [hl, hi]

theorem grown_keeps {w5 w6 : World} {o : Obj} {base : Nat} {e : TypeId} {v : Value} {n : Nat} {xs : List Value} (hown : w5.ownsRow base e 1 v n xs) (hg : (w5.alloc o).grownBy w6 v.ownBlock) {t : Nat} (ht : t < base) (ht5 : t < w5.heap.size) :
    (∀ i, w6.cell? ⟨t, i, none⟩ = w5.cell? ⟨t, i, none⟩) ∧ ∀ i, w6.frozen? ⟨t, i, none⟩ = w5.frozen? ⟨t, i, none⟩ := by
  have hne : some t ≠ v.ownBlock := fun h => by have := (hown.lt t h.symm).1; omega
  have e : w6.heap[t]? = w5.heap[t]? := by rw [hg.block t (by simp; omega) hne, show (w5.alloc o).heap[t]? = w5.heap[t]? from by show (w5.heap.push o)[t]? = _; rw [Array.getElem?_push_lt ht5, Array.getElem?_eq_getElem ht5]]
  exact ⟨fun i => World.cell?_of_block (w := w5) e, fun i => World.frozen?_of_block (w := w5) e⟩
theorem own_form {w : World} {base : Nat} {e : TypeId} {v : Value} {n : Nat} {xs : List Value} (h : w.ownsRow base e 1 v n xs) : ∃ p k c, v = .slice p k c := by
  rcases h.2 with ⟨rfl, _⟩ | ⟨g, cap, cur, rfl, _⟩
  · exact ⟨_, _, _, rfl⟩
  · exact ⟨_, _, _, rfl⟩

theorem trim_z (b : Bool) (s : Value) (ds : List Int) (z : Int) (w : World) (hz : Hid ((if b then -val ds else val ds) = z)) (h : SlR w s ds) (hd : ∀ i, 0 ≤ ds.getD i 0 ∧ ds.getD i 0 ≤ 65535) :
    Calls Try.prog 19 #[.agg #[.bool b, s]] w (NumE w z) := by
  have := trim_num b s ds w h hd
  rw [hz.out] at this
  exact this

/-- the state of the sum's loop -/
structure SumI (da db ds : List Int) (s : Int) (k : Nat) (c : Int) : Prop where
  len : ds.length = k
  dig : ∀ i, 0 ≤ ds.getD i 0 ∧ ds.getD i 0 ≤ 65535
  eq : val ds + c * 65536 ^ k = V (fun i => da.getD i 0) k + s * V (fun i => db.getD i 0) k
theorem SumI.step {da db ds : List Int} {s : Int} {k : Nat} {c x c' : Int} (h : SumI da db ds s k c) (x0 : 0 ≤ x) (x1 : x ≤ 65535) (hx : x + 65536 * c' = da.getD k 0 + s * db.getD k 0 + c) : SumI da db (ds ++ [x]) s (k + 1) c' := by
  obtain ⟨h1, h2, h3⟩ := h
  refine ⟨by simp [h1], digs_snoc ds x h2 x0 x1, ?_⟩
  rw [val_snoc, h1, V, V, Int.pow_succ]
  generalize da.getD k 0 = p at *
  generalize db.getD k 0 = q at *
  generalize V (fun i => da.getD i 0) k = A at *
  generalize V (fun i => db.getD i 0) k = B at *
  generalize (65536 : Int) ^ k = P at *
  have e : x = p + s * q + c - 65536 * c' := by omega
  rw [e]; grind

set_option maxHeartbeats 2000000 in
theorem t_sum (ba : Bool) (p q : Option Addr) (n m c d : Nat) (da db : List Int) (w : World) (ha : SlR w (.slice p n c) da) (hb : SlR w (.slice q m d) db) (hn : n ≤ 1000) (hm : m ≤ 1000)
    (hla : da.length = n) (hlb : db.length = m) (dga : ∀ i, 0 ≤ da.getD i 0 ∧ da.getD i 0 ≤ 65535) (dgb : ∀ i, 0 ≤ db.getD i 0 ∧ db.getD i 0 ≤ 65535) :
    Calls Try.prog 26 #[.agg #[.bool ba, .slice p n c], .agg #[.bool ba, .slice q m d]] w (NumE w (if ba then -(val da + val db) else val da + val db)) := by
  have HA := Lib.hid ha; clear ha
  have HB := Lib.hid hb; clear hb
  have LA := Lib.hid hla; clear hla
  have LB := Lib.hid hlb; clear hlb
  have DA := Lib.hid dga; clear dga
  have DB := Lib.hid dgb; clear dgb
  obtain ⟨z, hz⟩ : ∃ z, (if ba then -(val da + val db) else val da + val db) = z := ⟨_, rfl⟩
  rw [hz]
  have HZ := Lib.hid hz; clear hz
  obtain ⟨i0, hi, hz0, hz1, hz2⟩ := info_parts infoInt
  obtain ⟨M, hM, hM'⟩ : ∃ M : Nat, M ≤ 1000 ∧ Hid (M = max n m) := ⟨max n m, by omega, rfl⟩
  have hbb : (ba != ba) = false := by simp
  go_enter Try.func26, Try.ntmps26
  go_wp2
  go_loopw [6, 7] (fun cv i wr => ∃ (k : Nat) (cc : Int) (v : Value) (ds : List Int), k ≤ M ∧ i = .int .i64 k ∧ cv = .int .i64 cc ∧ 0 ≤ cc ∧ cc ≤ 1 ∧ Hid (SumI da db ds 1 k cc) ∧ Below w.heap.size w wr ∧ w.heap.size + 1 + 1 + 1 < wr.heap.size ∧
      Hid (wr.ownsRow (w.heap.size + 4) 3 1 v k (ds.map (Value.int .i64))) ∧
      wr.cell? ⟨w.heap.size, 0, none⟩ = some (.bool ba) ∧ wr.cell? ⟨w.heap.size, 1, none⟩ = some (.slice p n c) ∧ wr.cell? ⟨w.heap.size + 1, 0, none⟩ = some (.bool ba) ∧ wr.cell? ⟨w.heap.size + 1, 1, none⟩ = some (.slice q m d) ∧
      wr.cell? ⟨w.heap.size + 1 + 1 + 1, 0, none⟩ = some (.bool ba) ∧ wr.cell? ⟨w.heap.size + 1 + 1 + 1, 1, none⟩ = some v ∧ wr.frozen? ⟨w.heap.size + 1 + 1 + 1, 1, none⟩ = false ∧ wr.cell? ⟨w.heap.size + 1 + 1, 0, none⟩ = some (.bool false) ∧ wr.cell? ⟨w.heap.size + 1 + 1, 1, none⟩ = some (.slice none 0 0) ∧ wr.frozen? ⟨w.heap.size + 1 + 1, 0, none⟩ = false ∧ wr.frozen? ⟨w.heap.size + 1 + 1, 1, none⟩ = false) (fun _ i _ => (M - (intOf i).toNat))
  case atStart =>
    exact ⟨0, 0, .slice none 0 0, [], Nat.zero_le _, rfl, rfl, by omega, by omega, ⟨rfl, by simp, by simp [val, V]⟩, (by repeat (first | exact Below.refl _ _ | assumption | refine below_drewN ?_ _ | refine Below.drew ?_ | refine Below.alloc ?_ (by first | omega | (simp; done) | (simp; omega)) _ | refine Below.setCell ?_ (by first | (simp; done) | (simp; omega)) _)), by simp, ⟨rfl, .inl ⟨rfl, rfl⟩⟩, by simp [go_sem], by simp [go_sem], by simp [go_sem], by simp [go_sem], by simp [go_sem], by simp [go_sem], by simp [go_sem], by simp [go_sem], by simp [go_sem], by simp [go_sem], by simp [go_sem]⟩
  case round =>
    obtain ⟨k, cc, v, ds, hk, rfl, rfl, hc0, hc1, hs, hB, hz, hown, c0, c1, c2, c3, c4, c5, f5, r0, r1, fr0, fr1⟩ := hrel
    have rg := DA.out k
    have rh := DB.out k
    by_cases hlt : k < M
    · have g1 := fun wx (hx : Below w.heap.size w wx) => digit_any ba (.slice p n c) da k (by omega) wx (HA.out.later hx (Nat.le_refl _))
      have g2 := fun wx (hx : Below w.heap.size w wx) => digit_any ba (.slice q m d) db k (by omega) wx (HB.out.later hx (Nat.le_refl _))
      have st := fun (x c' : Int) (x0 : 0 ≤ x) (x1 : x ≤ 65535) hx => hs.out.step (x := x) (c' := c') x0 x1 hx
      have hlen := Lib.hid hs.out.len
      generalize da.getD k 0 = x at *
      generalize db.getD k 0 = y at *
      have x0 := rg.1
      have x1 := rg.2
      have y0 := rh.1
      have y1 := rh.2
      have G1 := Lib.hid g1
      have G2 := Lib.hid g2
      have ST := Lib.hid st
      have hM2 : k < n ∨ k < m := by have := hM'.out; omega
      clear g1 g2 st hs rg rh
      go_wp2
      all_goals
        go_region_held3 (fun w' => w'.cell? ⟨w.heap.size, 0, none⟩ = some (.bool ba) ∧ w'.cell? ⟨w.heap.size, 1, none⟩ = some (.slice p n c) ∧ w'.cell? ⟨w.heap.size + 1, 0, none⟩ = some (.bool ba) ∧ w'.cell? ⟨w.heap.size + 1, 1, none⟩ = some (.slice q m d)) (first | go_keep | exact ⟨c00y, c01y, c10y, c11y⟩ | exact ⟨c00x, c01x, c10x, c11x⟩) (first | (go_at_call 18; (with_reducible refine (G1.out _ ?hx).mono ?_); (case hx => exact (by repeat (first | exact Below.refl _ _ | assumption | refine below_drewN ?_ _ | refine Below.drew ?_ | refine Below.alloc ?_ (by first | omega | (simp; done) | (simp; omega)) _ | refine Below.setCell ?_ (by first | (simp; done) | (simp; omega)) _))); rintro e w4 ⟨rfl, hf⟩; have hzx : w.heap.size + 1 + 1 + 1 < w4.heap.size := (by have := hf.size; (try simp at this); omega); have c00x := hf.cell (p := ⟨w.heap.size, 0, none⟩) (by first | omega | (simp; done) | (simp; omega)); have f00x := hf.frozen (p := ⟨w.heap.size, 0, none⟩) (by first | omega | (simp; done) | (simp; omega)); have c01x := hf.cell (p := ⟨w.heap.size, 1, none⟩) (by first | omega | (simp; done) | (simp; omega)); have f01x := hf.frozen (p := ⟨w.heap.size, 1, none⟩) (by first | omega | (simp; done) | (simp; omega)); have c10x := hf.cell (p := ⟨w.heap.size + 1, 0, none⟩) (by first | omega | (simp; done) | (simp; omega)); have f10x := hf.frozen (p := ⟨w.heap.size + 1, 0, none⟩) (by first | omega | (simp; done) | (simp; omega)); have c11x := hf.cell (p := ⟨w.heap.size + 1, 1, none⟩) (by first | omega | (simp; done) | (simp; omega)); have f11x := hf.frozen (p := ⟨w.heap.size + 1, 1, none⟩) (by first | omega | (simp; done) | (simp; omega)); have c20x := hf.cell (p := ⟨w.heap.size + 1 + 1, 0, none⟩) (by first | omega | (simp; done) | (simp; omega)); have f20x := hf.frozen (p := ⟨w.heap.size + 1 + 1, 0, none⟩) (by first | omega | (simp; done) | (simp; omega)); have c21x := hf.cell (p := ⟨w.heap.size + 1 + 1, 1, none⟩) (by first | omega | (simp; done) | (simp; omega)); have f21x := hf.frozen (p := ⟨w.heap.size + 1 + 1, 1, none⟩) (by first | omega | (simp; done) | (simp; omega)); have c30x := hf.cell (p := ⟨w.heap.size + 1 + 1 + 1, 0, none⟩) (by first | omega | (simp; done) | (simp; omega)); have f30x := hf.frozen (p := ⟨w.heap.size + 1 + 1 + 1, 0, none⟩) (by first | omega | (simp; done) | (simp; omega)); have c31x := hf.cell (p := ⟨w.heap.size + 1 + 1 + 1, 1, none⟩) (by first | omega | (simp; done) | (simp; omega)); have f31x := hf.frozen (p := ⟨w.heap.size + 1 + 1 + 1, 1, none⟩) (by first | omega | (simp; done) | (simp; omega)); simp [go_sem, c0, c1, c2, c3, c4, c5, f5, r0, r1, fr0, fr1] at c00x f00x c01x f01x c10x f10x c11x f11x c20x f20x c21x f21x c30x f30x c31x f31x; have hbx' : Below w.heap.size w w4 := below_step (by repeat (first | exact Below.refl _ _ | assumption | refine below_drewN ?_ _ | refine Below.drew ?_ | refine Below.alloc ?_ (by first | omega | (simp; done) | (simp; omega)) _ | refine Below.setCell ?_ (by first | (simp; done) | (simp; omega)) _)) hf; have O4 := Lib.hid (ownsRow_below (w := wr.drew) hown.out hf)) | (go_at_call 18; (with_reducible refine (G2.out _ ?hx).mono ?_); (case hx => exact (by repeat (first | exact Below.refl _ _ | assumption | refine below_drewN ?_ _ | refine Below.drew ?_ | refine Below.alloc ?_ (by first | omega | (simp; done) | (simp; omega)) _ | refine Below.setCell ?_ (by first | (simp; done) | (simp; omega)) _))); rintro e w5 ⟨rfl, hg⟩; have hzy : w.heap.size + 1 + 1 + 1 < w5.heap.size := (by have := hg.size; (try simp at this); omega); have c00y := hg.cell (p := ⟨w.heap.size, 0, none⟩) (by first | omega | (simp; done) | (simp; omega)); have f00y := hg.frozen (p := ⟨w.heap.size, 0, none⟩) (by first | omega | (simp; done) | (simp; omega)); have c01y := hg.cell (p := ⟨w.heap.size, 1, none⟩) (by first | omega | (simp; done) | (simp; omega)); have f01y := hg.frozen (p := ⟨w.heap.size, 1, none⟩) (by first | omega | (simp; done) | (simp; omega)); have c10y := hg.cell (p := ⟨w.heap.size + 1, 0, none⟩) (by first | omega | (simp; done) | (simp; omega)); have f10y := hg.frozen (p := ⟨w.heap.size + 1, 0, none⟩) (by first | omega | (simp; done) | (simp; omega)); have c11y := hg.cell (p := ⟨w.heap.size + 1, 1, none⟩) (by first | omega | (simp; done) | (simp; omega)); have f11y := hg.frozen (p := ⟨w.heap.size + 1, 1, none⟩) (by first | omega | (simp; done) | (simp; omega)); have c20y := hg.cell (p := ⟨w.heap.size + 1 + 1, 0, none⟩) (by first | omega | (simp; done) | (simp; omega)); have f20y := hg.frozen (p := ⟨w.heap.size + 1 + 1, 0, none⟩) (by first | omega | (simp; done) | (simp; omega)); have c21y := hg.cell (p := ⟨w.heap.size + 1 + 1, 1, none⟩) (by first | omega | (simp; done) | (simp; omega)); have f21y := hg.frozen (p := ⟨w.heap.size + 1 + 1, 1, none⟩) (by first | omega | (simp; done) | (simp; omega)); have c30y := hg.cell (p := ⟨w.heap.size + 1 + 1 + 1, 0, none⟩) (by first | omega | (simp; done) | (simp; omega)); have f30y := hg.frozen (p := ⟨w.heap.size + 1 + 1 + 1, 0, none⟩) (by first | omega | (simp; done) | (simp; omega)); have c31y := hg.cell (p := ⟨w.heap.size + 1 + 1 + 1, 1, none⟩) (by first | omega | (simp; done) | (simp; omega)); have f31y := hg.frozen (p := ⟨w.heap.size + 1 + 1 + 1, 1, none⟩) (by first | omega | (simp; done) | (simp; omega)); simp [go_sem, c00x, c01x, c10x, c11x, c30x, c31x, f31x, c20x, c21x, f20x, f21x] at c00y f00y c01y f01y c10y f10y c11y f11y c20y f20y c21y f21y c30y f30y c31y f31y; have hby' : Below w.heap.size w w5 := below_step (by repeat (first | exact Below.refl _ _ | assumption | refine below_drewN ?_ _ | refine Below.drew ?_ | refine Below.alloc ?_ (by first | omega | (simp; done) | (simp; omega)) _ | refine Below.setCell ?_ (by first | (simp; done) | (simp; omega)) _)) hg; have O5 := Lib.hid (ownsRow_below O4.out hg)))
        have hB5 := hby'
        clear hf hg c00x c01x c10x c11x c20x c21x c30x c31x f00x f01x f10x f11x f20x f21x f30x f31x hzx hbx' f00y f01y f10y f11y f30y G1 G2 O4 hown hB hz c0 c1 c2 c3 c4 c5 f5 r0 r1 fr0 fr1
        have hs5 : w.heap.size + 4 ≤ w5.heap.size := by omega
        by_cases big : 65535 < x + y + cc
        · obtain ⟨X, hX⟩ : ∃ X, x + y + cc - 65536 = X := ⟨_, rfl⟩
          have X0 : 0 ≤ X := by omega
          have X1 : X ≤ 65535 := by omega
          have nx := Lib.hid (ST.out X 1 X0 X1 (by omega))
          clear ST
          go_wp2_with (at_builtin; refine wpList_append_own _ rfl _ _ 27 rfl (w.heap.size + 4) 3 i0 (.int .i64 0) 1 8 Try.underlying27 hi hz0 hz1 hz2 rfl (by decide) _ _ _ rfl (O5.out.alloc _) ⟨w5.heap.size, 0, none⟩ 1 1 [.int .i64 X] rfl rfl ?c1 ?c2 ?c3 ?c4 ?c5 ?_; (case c1 => exact cell_one_new _ _ _); (case c2 => simp [Value.oneCell']); (case c3 => unfold maxLen; omega); (case c4 => omega); (case c5 => simp; omega); intro v' w6 hown6 hgrow _; have hg6 : (w5.alloc (.cells #[.int .i64 X] 3)).grownBy w6 v.ownBlock := hgrow; clear hgrow; have b6 : Below w.heap.size w w6 := Below.grown (hB5.alloc (by omega) _) hg6 (by simp; omega) (fun t ht => by have := (O5.out.lt t ht).1; omega); have z6 : w.heap.size + 1 + 1 + 1 < w6.heap.size := (by have := hg6.size; simp at this; omega); have k0 := grown_keeps O5.out hg6 (t := w.heap.size) (by omega) (by omega); have k1 := grown_keeps O5.out hg6 (t := w.heap.size + 1) (by omega) (by omega); have k2 := grown_keeps O5.out hg6 (t := w.heap.size + 1 + 1) (by omega) (by omega); have k3 := grown_keeps O5.out hg6 (t := w.heap.size + 1 + 1 + 1) (by omega) (by omega); have c0z := (k0.1 0).trans c00y; have c1z := (k0.1 1).trans c01y; have c2z := (k1.1 0).trans c10y; have c3z := (k1.1 1).trans c11y; have c4z := (k3.1 0).trans c30y; have c5z := (k3.1 1).trans c31y; have f5z := (k3.2 1).trans f31y; have r0z := (k2.1 0).trans c20y; have r1z := (k2.1 1).trans c21y; have s0z := (k2.2 0).trans f20y; have s1z := (k2.2 1).trans f21y; clear k0 k1 k2 k3; obtain ⟨pp, nn, cp, hv'⟩ := own_form hown6; rw [hv'] at hown6; rw [hv']; clear hv'; have O6 := Lib.hid hown6; clear hown6)
          go_roundw
          case rel => exact ⟨k + 1, 1, .slice pp nn cp, ds ++ [X], by omega, by go_num, rfl, by omega, by omega, nx, (by repeat (first | exact Below.refl _ _ | assumption | refine below_drewN ?_ _ | refine Below.drew ?_ | refine Below.alloc ?_ (by first | omega | (simp; done) | (simp; omega)) _ | refine Below.setCell ?_ (by first | (simp; done) | (simp; omega)) _)), by simpa using z6, ownsRow_setCell_below (by rw [List.map_append]; exact O6.out) (by simp) _, by simp [go_sem, c0z], by simp [go_sem, c1z], by simp [go_sem, c2z], by simp [go_sem, c3z], by simp [go_sem, c4z], by simp [go_sem, c5z], by simp [go_sem, f5z], by simp [go_sem, r0z], by simp [go_sem, r1z], by simp [go_sem, s0z], by simp [go_sem, s1z]⟩
          case measure => simp [intOf]; omega
        · obtain ⟨X, hX⟩ : ∃ X, x + y + cc = X := ⟨_, rfl⟩
          have hw : IntKind.i64.wrap (IntKind.i64.wrap (x + y) + cc) = X := by rw [IntKind.wrap_i64, IntKind.wrap_i64]; omega
          have X0 : 0 ≤ X := by omega
          have X1 : X ≤ 65535 := by omega
          have nx := Lib.hid (ST.out X 0 X0 X1 (by omega))
          clear ST
          go_wp2_with (at_builtin; refine wpList_append_own _ rfl _ _ 27 rfl (w.heap.size + 4) 3 i0 (.int .i64 0) 1 8 Try.underlying27 hi hz0 hz1 hz2 rfl (by decide) _ _ _ rfl (O5.out.alloc _) ⟨w5.heap.size, 0, none⟩ 1 1 [.int .i64 X] rfl rfl ?c1 ?c2 ?c3 ?c4 ?c5 ?_; (case c1 => exact cell_one_new _ _ _); (case c2 => simp [Value.oneCell']); (case c3 => unfold maxLen; omega); (case c4 => omega); (case c5 => simp; omega); intro v' w6 hown6 hgrow _; have hg6 : (w5.alloc (.cells #[.int .i64 X] 3)).grownBy w6 v.ownBlock := hgrow; clear hgrow; have b6 : Below w.heap.size w w6 := Below.grown (hB5.alloc (by omega) _) hg6 (by simp; omega) (fun t ht => by have := (O5.out.lt t ht).1; omega); have z6 : w.heap.size + 1 + 1 + 1 < w6.heap.size := (by have := hg6.size; simp at this; omega); have k0 := grown_keeps O5.out hg6 (t := w.heap.size) (by omega) (by omega); have k1 := grown_keeps O5.out hg6 (t := w.heap.size + 1) (by omega) (by omega); have k2 := grown_keeps O5.out hg6 (t := w.heap.size + 1 + 1) (by omega) (by omega); have k3 := grown_keeps O5.out hg6 (t := w.heap.size + 1 + 1 + 1) (by omega) (by omega); have c0z := (k0.1 0).trans c00y; have c1z := (k0.1 1).trans c01y; have c2z := (k1.1 0).trans c10y; have c3z := (k1.1 1).trans c11y; have c4z := (k3.1 0).trans c30y; have c5z := (k3.1 1).trans c31y; have f5z := (k3.2 1).trans f31y; have r0z := (k2.1 0).trans c20y; have r1z := (k2.1 1).trans c21y; have s0z := (k2.2 0).trans f20y; have s1z := (k2.2 1).trans f21y; clear k0 k1 k2 k3; obtain ⟨pp, nn, cp, hv'⟩ := own_form hown6; rw [hv'] at hown6; rw [hv']; clear hv'; have O6 := Lib.hid hown6; clear hown6)
          go_roundw
          case rel => exact ⟨k + 1, 0, .slice pp nn cp, ds ++ [X], by omega, by go_num, rfl, by omega, by omega, nx, (by repeat (first | exact Below.refl _ _ | assumption | refine below_drewN ?_ _ | refine Below.drew ?_ | refine Below.alloc ?_ (by first | omega | (simp; done) | (simp; omega)) _ | refine Below.setCell ?_ (by first | (simp; done) | (simp; omega)) _)), by simpa using z6, ownsRow_setCell_below (by rw [List.map_append]; exact O6.out) (by simp) _, by simp [go_sem, c0z], by simp [go_sem, c1z], by simp [go_sem, c2z], by simp [go_sem, c3z], by simp [go_sem, c4z], by simp [go_sem, c5z], by simp [go_sem, f5z], by simp [go_sem, r0z], by simp [go_sem, r1z], by simp [go_sem, s0z], by simp [go_sem, s1z]⟩
          case measure => simp [intOf]; omega
    · obtain rfl : k = M := by omega
      have he := hs.out.eq
      rw [← val_V da k (by rw [LA.out, hM'.out]; omega), ← val_V db k (by rw [LB.out, hM'.out]; omega), Int.one_mul] at he
      have HE := Lib.hid he
      have HD := Lib.hid hs.out.dig
      have HL := Lib.hid hs.out.len
      have hge : ¬ k < n ∧ ¬ k < m := by have := hM'.out; omega
      have hge1 := hge.1
      have hge2 := hge.2
      clear he hs hge hlt rg rh hk
      by_cases hcc : cc = 0
      · subst hcc
        have vz : Hid ((if ba = true then -val ds else val ds) = z) := by
          have h1 := HE.out
          rw [Int.zero_mul, Int.add_zero] at h1
          rw [h1]; exact HZ.out
        have tr := fun wx hx => trim_num ba v ds wx (SlR.later (own_SlR hown.out (by omega)) hx (Nat.le_refl _)) HD.out
        rw [vz.out] at tr
        have TR := Lib.hid tr
        obtain ⟨p0, n0, q0, hv⟩ := own_form hown.out
        subst hv
        clear tr HE
        go_wp2_with (go_at_call 19; refine (TR.out _ (Below.refl _ _)).mono ?_; rintro e w7 ⟨v7, rfl, hv7, hb7⟩; obtain ⟨b', p', n', c', rfl⟩ := hv7.form; have hze : w.heap.size + 1 + 1 < w7.heap.size := (by have := hb7.size; (try simp at this); omega); have c00e := hb7.cell (p := ⟨w.heap.size, 0, none⟩) (by first | omega | (simp; done) | (simp; omega)); have f00e := hb7.frozen (p := ⟨w.heap.size, 0, none⟩) (by first | omega | (simp; done) | (simp; omega)); have c01e := hb7.cell (p := ⟨w.heap.size, 1, none⟩) (by first | omega | (simp; done) | (simp; omega)); have f01e := hb7.frozen (p := ⟨w.heap.size, 1, none⟩) (by first | omega | (simp; done) | (simp; omega)); have c10e := hb7.cell (p := ⟨w.heap.size + 1, 0, none⟩) (by first | omega | (simp; done) | (simp; omega)); have f10e := hb7.frozen (p := ⟨w.heap.size + 1, 0, none⟩) (by first | omega | (simp; done) | (simp; omega)); have c11e := hb7.cell (p := ⟨w.heap.size + 1, 1, none⟩) (by first | omega | (simp; done) | (simp; omega)); have f11e := hb7.frozen (p := ⟨w.heap.size + 1, 1, none⟩) (by first | omega | (simp; done) | (simp; omega)); have c20e := hb7.cell (p := ⟨w.heap.size + 1 + 1, 0, none⟩) (by first | omega | (simp; done) | (simp; omega)); have f20e := hb7.frozen (p := ⟨w.heap.size + 1 + 1, 0, none⟩) (by first | omega | (simp; done) | (simp; omega)); have c21e := hb7.cell (p := ⟨w.heap.size + 1 + 1, 1, none⟩) (by first | omega | (simp; done) | (simp; omega)); have f21e := hb7.frozen (p := ⟨w.heap.size + 1 + 1, 1, none⟩) (by first | omega | (simp; done) | (simp; omega)); simp [go_sem, r0, r1, fr0, fr1, c0, c1, c2, c3] at c00e f00e c01e f01e c10e f10e c11e f11e c20e f20e c21e f21e; have hbe' : Below w.heap.size w w7 := below_step (by repeat (first | exact Below.refl _ _ | assumption | refine below_drewN ?_ _ | refine Below.drew ?_ | refine Below.alloc ?_ (by first | omega | (simp; done) | (simp; omega)) _ | refine Below.setCell ?_ (by first | (simp; done) | (simp; omega)) _)) hb7; have hv' := Lib.hid (hv7.boxed c20e (.bool b') (.slice p' n' c')); clear hv7)
        all_goals exact bodyPost_ret (v := .agg #[.bool b', .slice p' n' c']) (by simp [results, Try.results26, go_sem, c20e, c21e]) rfl ⟨_, rfl, hv'.out, (by repeat (first | exact Below.refl _ _ | assumption | refine below_drewN ?_ _ | refine Below.drew ?_ | refine Below.alloc ?_ (by first | omega | (simp; done) | (simp; omega)) _ | refine Below.setCell ?_ (by first | (simp; done) | (simp; omega)) _))⟩
      · obtain rfl : cc = 1 := by omega
        have vz : Hid ((if ba = true then -val (ds ++ [1]) else val (ds ++ [1])) = z) := by
          have h1 := HE.out
          have h2 : val (ds ++ [1]) = val da + val db := by rw [val_snoc, HL.out]; exact h1
          rw [h2]; exact HZ.out
        clear HE
        have hs5 : w.heap.size + 4 ≤ wr.heap.size := by omega
        go_wp2_with (first | (at_builtin; refine wpList_append_own _ rfl _ _ 27 rfl (w.heap.size + 4) 3 i0 (.int .i64 0) 1 8 Try.underlying27 hi hz0 hz1 hz2 rfl (by decide) _ _ _ rfl (hown.out.alloc _) ⟨wr.heap.size, 0, none⟩ 1 1 [.int .i64 1] rfl rfl ?c1 ?c2 ?c3 ?c4 ?c5 ?_; (case c1 => exact cell_one_new _ _ _); (case c2 => simp [Value.oneCell']); (case c3 => unfold maxLen; omega); (case c4 => omega); (case c5 => simp; omega); intro v' w6 hown6 hgrow _; have hg6 : (wr.alloc (.cells #[.int .i64 1] 3)).grownBy w6 v.ownBlock := hgrow; clear hgrow; have b6 : Below w.heap.size w w6 := Below.grown (hB.alloc (by omega) _) hg6 (by simp; omega) (fun t ht => by have := (hown.out.lt t ht).1; omega); have z6 : w.heap.size + 1 + 1 + 1 < w6.heap.size := (by have := hg6.size; simp at this; omega); have k0 := grown_keeps hown.out hg6 (t := w.heap.size) (by omega) (by omega); have k1 := grown_keeps hown.out hg6 (t := w.heap.size + 1) (by omega) (by omega); have k2 := grown_keeps hown.out hg6 (t := w.heap.size + 1 + 1) (by omega) (by omega); have k3 := grown_keeps hown.out hg6 (t := w.heap.size + 1 + 1 + 1) (by omega) (by omega); have c0z := (k0.1 0).trans c0; have c1z := (k0.1 1).trans c1; have c2z := (k1.1 0).trans c2; have c3z := (k1.1 1).trans c3; have c4z := (k3.1 0).trans c4; have c5z := (k3.1 1).trans c5; have f5z := (k3.2 1).trans f5; have r0z := (k2.1 0).trans r0; have r1z := (k2.1 1).trans r1; have s0z := (k2.2 0).trans fr0; have s1z := (k2.2 1).trans fr1; clear k0 k1 k2 k3; obtain ⟨pp, nn, cp, hv'⟩ := own_form hown6; rw [hv'] at hown6; rw [hv']; clear hv'; have O6 := Lib.hid hown6; clear hown6) | (go_at_call 19; refine (trim_z ba _ (ds ++ [1]) _ _ vz (own_SlR (ownsRow_setCell_below (by rw [List.map_append]; exact O6.out) (by simp) _) (by omega)) (digs_snoc ds 1 HD.out (by omega) (by omega))).mono ?_; rintro e w7 ⟨v7, rfl, hv7, hb7⟩; obtain ⟨b', p', n', c', rfl⟩ := hv7.form; have hze : w.heap.size + 1 + 1 < w7.heap.size := (by have := hb7.size; (try simp at this); omega); have c00e := hb7.cell (p := ⟨w.heap.size, 0, none⟩) (by first | omega | (simp; done) | (simp; omega)); have f00e := hb7.frozen (p := ⟨w.heap.size, 0, none⟩) (by first | omega | (simp; done) | (simp; omega)); have c01e := hb7.cell (p := ⟨w.heap.size, 1, none⟩) (by first | omega | (simp; done) | (simp; omega)); have f01e := hb7.frozen (p := ⟨w.heap.size, 1, none⟩) (by first | omega | (simp; done) | (simp; omega)); have c10e := hb7.cell (p := ⟨w.heap.size + 1, 0, none⟩) (by first | omega | (simp; done) | (simp; omega)); have f10e := hb7.frozen (p := ⟨w.heap.size + 1, 0, none⟩) (by first | omega | (simp; done) | (simp; omega)); have c11e := hb7.cell (p := ⟨w.heap.size + 1, 1, none⟩) (by first | omega | (simp; done) | (simp; omega)); have f11e := hb7.frozen (p := ⟨w.heap.size + 1, 1, none⟩) (by first | omega | (simp; done) | (simp; omega)); have c20e := hb7.cell (p := ⟨w.heap.size + 1 + 1, 0, none⟩) (by first | omega | (simp; done) | (simp; omega)); have f20e := hb7.frozen (p := ⟨w.heap.size + 1 + 1, 0, none⟩) (by first | omega | (simp; done) | (simp; omega)); have c21e := hb7.cell (p := ⟨w.heap.size + 1 + 1, 1, none⟩) (by first | omega | (simp; done) | (simp; omega)); have f21e := hb7.frozen (p := ⟨w.heap.size + 1 + 1, 1, none⟩) (by first | omega | (simp; done) | (simp; omega)); simp [go_sem, r0z, r1z, s0z, s1z, c0z, c1z, c2z, c3z] at c00e f00e c01e f01e c10e f10e c11e f11e c20e f20e c21e f21e; have hbe' : Below w.heap.size w w7 := below_step (by repeat (first | exact Below.refl _ _ | assumption | refine below_drewN ?_ _ | refine Below.drew ?_ | refine Below.alloc ?_ (by first | omega | (simp; done) | (simp; omega)) _ | refine Below.setCell ?_ (by first | (simp; done) | (simp; omega)) _)) hb7; have hv' := Lib.hid (hv7.boxed c20e (.bool b') (.slice p' n' c')); clear hv7))
        all_goals exact bodyPost_ret (v := .agg #[.bool b', .slice p' n' c']) (by simp [results, Try.results26, go_sem, c20e, c21e]) rfl ⟨_, rfl, hv'.out, (by repeat (first | exact Below.refl _ _ | assumption | refine below_drewN ?_ _ | refine Below.drew ?_ | refine Below.alloc ?_ (by first | omega | (simp; done) | (simp; omega)) _ | refine Below.setCell ?_ (by first | (simp; done) | (simp; omega)) _))⟩
end Go.Proofs.Ytlfchlholabijaa
