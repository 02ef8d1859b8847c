/- An asset among the arguments, opened. -/
import Derived.Test.YtokfhhngnpbdkaaDoorMB0
import Derived.Test.YtokfhhngnpbdkaaDoorII
import Derived.WalkKit
import Derived.ProofKit
import Derived.OpenShut
import Derived.ChangeSlices
import Derived.ChangeSame
namespace Go.Proofs.YtokfhhngnpbdkaaDoor
set_option linter.unusedVariables false
set_option maxRecDepth 2000
set_option linter.unusedSimpArgs false
open Go.ChangeShapes Go.WideShapes Go.ChangeAt Go.RowKit Go.Joins Go.Deep
theorem cell_lt_ {w : World} {b o : Nat} {v : Value} (h : w.cell? ⟨b, o, none⟩ = some v) : b < w.heap.size := by
  by_cases hb : b < w.heap.size
  · exact hb
  · exfalso
    have : w.heap[b]? = none := Array.getElem?_eq_none (by omega)
    simp [World.cell?, this] at h
/-- the cells of S ints -/
def isInts (S : Nat) (cs : List Value) : Prop := ∃ zs : List Int, zs.length = S ∧ cs = zs.map (Value.int .i64)
theorem cs_nms {H : Type} {enc : TypeId × Value → H} {P : Program} {w : World} {base : Nat} {spare : Nat → Bool} {held : Bool} {fuel : Nat} {cs : List Value} {x : DataW H × List MemPlace} {t e : TypeId} {S : Nat}
    (ht : P.underlying t = some (.slice e)) (hC : P.cellsOf e = S) (hS : 0 < S)
    (hQ : ∀ fuel cs x, DataW.trod enc P w base spare held fuel e cs = some x → isInts S cs)
    (h : DataW.trod enc P w base spare held fuel t cs = some x) : ∃ q n c f, cs = [.slice q n c] ∧ n ≤ c ∧ c ≤ 9223372036854775807 ∧ NmS w S q n f := by
  rcases DataW.trod_slice ht h with ⟨h0, _⟩ | ⟨a, len, cap, elems, rest, n, _, hcs, hx, hb, hl, hm, hlen, hel, _, _⟩
  · subst h0
    exact ⟨none, 0, 0, fun _ => 0, rfl, Nat.le_refl _, by decide, .inl rfl⟩
  · subst hcs
    have hm2 : cap ≤ 9223372036854775807 := by unfold maxLen at hm; omega
    have key : ∀ i, i < len → ∃ zs : List Int, zs.length = S ∧ ∀ j, j < S → w.cell? ((a.add (i * S)).add j) = some (.int .i64 (zs.getD j 0)) := fun i hi => by
      have hy : elems[i]? = some (elems[i]'(by omega)) := List.getElem?_eq_getElem (by omega)
      have hb' := (hel i hi).trans hy
      rw [hC, Option.bind_eq_some_iff] at hb'
      obtain ⟨c3, hcs, hy'⟩ := hb'
      obtain ⟨_, hc3, hcell⟩ := World.cells?_some hcs
      obtain ⟨zs, hz, rfl⟩ := hQ _ _ _ hy'
      refine ⟨zs, hz, fun j hj => ?_⟩
      have h1 := hcell j hj
      rw [h1, List.getElem?_map, List.getElem?_eq_getElem (by omega)]
      simp [List.getD_eq_getElem?_getD, List.getElem?_eq_getElem (show j < zs.length by omega)]
    by_cases hl0 : len = 0
    · subst hl0
      exact ⟨some a, 0, cap, fun _ => 0, rfl, Nat.zero_le _, hm2, .inl rfl⟩
    · obtain ⟨blk, off, spot⟩ := a
      have hspot : spot = none := by
        obtain ⟨z, _, h0⟩ := key 0 (by omega)
        simpa [Addr.add] using World.cell?_spot (h0 0 hS)
      subst hspot
      have ch : ∀ k, ∃ zs : List Int, k < len → ∀ j, j < S → w.cell? ⟨blk, off + k * S + j, none⟩ = some (.int .i64 (zs.getD j 0)) := fun k => by
        by_cases hk : k < len
        · obtain ⟨zs, _, h1⟩ := key k hk
          refine ⟨zs, fun _ j hj => ?_⟩
          have h2 := h1 j hj
          rwa [Addr.add_mid, Addr.add_mid] at h2
        · exact ⟨[], fun h => absurd h hk⟩
      refine ⟨some ⟨blk, off, none⟩, len, cap, fun j => (Classical.choose (ch (j / S))).getD (j % S) 0, rfl, hl, hm2, .inr ⟨blk, off, rfl, ?_, fun j v hj => ?_⟩⟩
      · exact cell_lt_ (Classical.choose_spec (ch 0) (by omega) 0 hS)
      · have hjl : j < len * S := by
          have := (List.getElem?_eq_some_iff.1 hj).1
          rwa [nums_length] at this
        rw [nums_at _ _ hjl] at hj
        have hq : j / S < len := Nat.div_lt_of_lt_mul (by rw [Nat.mul_comm]; exact hjl)
        have := Classical.choose_spec (ch (j / S)) hq (j % S) (Nat.mod_lt _ hS)
        rw [show off + j / S * S + j % S = off + j by rw [Nat.add_assoc, Nat.div_add_mod' j S]] at this
        rw [← hj]
        exact this
theorem cs_ints3 {H : Type} {enc : TypeId × Value → H} {w : World} {base : Nat} {spare : Nat → Bool} {held : Bool} {fuel : Nat} {cs : List Value} {x : DataW H × List MemPlace}
    (h : DataW.trod enc Tryd.prog w base spare held fuel 29 cs = some x) : isInts 3 cs := by
  obtain ⟨zs, hz, e, _⟩ := trod_arr Tryd.underlying29 Tryd.underlying3 (by kernel_rfl) (by kernel_rfl) h
  exact ⟨zs, hz, e⟩
theorem cs_ints2 {H : Type} {enc : TypeId × Value → H} {w : World} {base : Nat} {spare : Nat → Bool} {held : Bool} {fuel : Nat} {cs : List Value} {x : DataW H × List MemPlace}
    (h : DataW.trod enc Tryd.prog w base spare held fuel 91 cs = some x) : isInts 2 cs := by
  obtain ⟨zs, hz, e, _⟩ := trod_arr Tryd.underlying91 Tryd.underlying3 (by kernel_rfl) (by kernel_rfl) h
  exact ⟨zs, hz, e⟩
theorem list3_ {l : List Value} (h : l.length = 3) : ∃ a b c, l = [a, b, c] := by
  match l, h with
  | [a, b, c], _ => exact ⟨a, b, c, rfl⟩
theorem cs_point {H : Type} {enc : TypeId × Value → H} {P : Program} {w : World} {base : Nat} {spare : Nat → Bool} {held : Bool} {t : TypeId} {f0 f1 f2 : Field} {fuel : Nat} {cs : List Value} {x : DataW H × List MemPlace}
    (hs : P.underlying t = some (.struct #[f0, f1, f2])) (hone : oneCellFields P #[f0, f1, f2] = true) (hC : P.cellsOf t = 3)
    (k0 : P.underlying f0.type = some (.int .i64)) (k1 : P.underlying f1.type = some (.int .i64)) (k2 : P.underlying f2.type = some (.int .i64)) (h : DataW.trod enc P w base spare held fuel t cs = some x) : isInts 3 cs := by
  obtain ⟨y0, y1, y2, m, _, hl, h0, h1, h2⟩ := trod_struct3 hs h
  rw [hC] at hl
  obtain ⟨v0, v1, v2, rfl⟩ := list3_ hl
  obtain ⟨o0, q0⟩ := hone_of hone 0 f0 rfl
  obtain ⟨o1, q1⟩ := hone_of hone 1 f1 rfl
  obtain ⟨o2, q2⟩ := hone_of hone 2 f2 rfl
  obtain ⟨p, e0, _, w0⟩ := DataW.trod_int k0 (by simpa [o0, q0] using h0)
  obtain ⟨q, e1, _, w1⟩ := DataW.trod_int k1 (by simpa [o1, q1] using h1)
  obtain ⟨r, e2, _, w2⟩ := DataW.trod_int k2 (by simpa [o2, q2] using h2)
  simp at e0 e1 e2
  subst e0 e1 e2
  exact ⟨[p, q, r], rfl, rfl⟩
theorem cs_point_ {H : Type} {enc : TypeId × Value → H} {w : World} {base : Nat} {spare : Nat → Bool} {held : Bool} {fuel : Nat} {cs : List Value} {x : DataW H × List MemPlace}
    (h : DataW.trod enc Tryd.prog w base spare held fuel 33 cs = some x) : isInts 3 cs :=
  cs_point Tryd.underlying33 (by kernel_rfl) (by kernel_rfl) Tryd.underlying3 Tryd.underlying3 Tryd.underlying3 h
theorem split3_ (l : List Value) (h : l.length = 3) : l = (l.drop 0).take 1 ++ ((l.drop 1).take 1 ++ (l.drop 2).take 1) := by
  obtain ⟨a, b, c, rfl⟩ := list3_ h
  rfl
theorem cs_mesh {H : Type} {enc : TypeId × Value → H} {w : World} {base : Nat} {spare : Nat → Bool} {held : Bool} {fuel : Nat} {cs : List Value} {x : DataW H × List MemPlace}
    (h : DataW.trod enc Tryd.prog w base spare held fuel 26 cs = some x) : ∃ M : Msh, cs = [.slice M.qv M.nv M.cv, .slice M.qu M.nu M.cu, .slice M.qt M.nt M.ct] ∧ MeshAt M w := by
  obtain ⟨xs, n, _, rfl, hl, hlen, hf⟩ := DataW.trod_struct Tryd.underlying26 h
  have cS : Tryd.prog.cellsOf 26 = 3 := by kernel_rfl
  have c0 : Tryd.prog.cellsOf 22 = 1 := by kernel_rfl
  have c1 : Tryd.prog.cellsOf 23 = 1 := by kernel_rfl
  have c2 : Tryd.prog.cellsOf 24 = 1 := by kernel_rfl
  rw [cS] at hl
  match xs, hlen with
  | [y0, y1, y2], _ =>
    have h0 : DataW.trod enc Tryd.prog w base spare held n 22 ((cs.drop 0).take (Tryd.prog.cellsOf 22)) = some y0 := hf 0 _ rfl
    rw [c0] at h0
    have h1 : DataW.trod enc Tryd.prog w base spare held n 23 ((cs.drop 1).take (Tryd.prog.cellsOf 23)) = some y1 := hf 1 _ rfl
    rw [c1] at h1
    have h2 : DataW.trod enc Tryd.prog w base spare held n 24 ((cs.drop 2).take (Tryd.prog.cellsOf 24)) = some y2 := hf 2 _ rfl
    rw [c2] at h2
    obtain ⟨qv, nv, cv, V, e0, a0, b0, n0⟩ := cs_nms (S := 3) Tryd.underlying22 (by kernel_rfl) (by decide) (fun _ _ _ h => cs_point_ h) h0
    obtain ⟨qu, nu, cu, U, e1, a1, b1, n1⟩ := cs_nms (S := 2) Tryd.underlying23 (by kernel_rfl) (by decide) (fun _ _ _ h => cs_ints2 h) h1
    obtain ⟨qt, nt, ct, R, e2, a2, b2, n2⟩ := cs_nms (S := 3) Tryd.underlying24 (by kernel_rfl) (by decide) (fun _ _ _ h => cs_ints3 h) h2
    refine ⟨⟨qv, nv, cv, V, qu, nu, cu, U, qt, nt, ct, R⟩, ?_, ⟨n0, n1, n2, a0, a1, a2, b0, b1, b2⟩⟩
    have e := split3_ cs hl
    rw [e0, e1, e2] at e
    exact e
theorem open_mesh {H : Type} {enc : TypeId × Value → H} {w : World} {base : Nat} {spare : Nat → Bool} {held : Bool} {r : Reach} {b0 : Nat} {v : Value} {d : DataW H} {p : List MemPlace}
    (hv : Value.okWide Tryd.prog w r b0 26 v) (h : DataW.Trod enc Tryd.prog w base spare held 26 v d p) : ∃ M : Msh, v = .agg #[.slice M.qv M.nv M.cv, .slice M.qu M.nu M.cu, .slice M.qt M.nt M.ct] ∧ MeshAt M w := by
  obtain ⟨cs, rfl, hsz⟩ := okWide_struct Tryd.underlying26 hv
  obtain ⟨fuel, hf⟩ := h
  obtain ⟨M, e, ha⟩ := cs_mesh hf
  refine ⟨M, ?_, ha⟩
  simp only [Value.cells] at e
  rw [show cs = cs.toList.toArray from by simp, e]
theorem split2_ (l : List Value) (h : l.length = 2) : l = (l.drop 0).take 1 ++ (l.drop 1).take 1 := by
  match l, h with
  | [a, b], _ => rfl
theorem cs_tex {H : Type} {enc : TypeId × Value → H} {w : World} {base : Nat} {spare : Nat → Bool} {held : Bool} {fuel : Nat} {cs : List Value} {x : DataW H × List MemPlace}
    (h : DataW.trod enc Tryd.prog w base spare held fuel 28 cs = some x) : ∃ M : Txr, cs = [.int .i64 M.S, .slice M.q M.n M.c] ∧ TxAt M w := by
  obtain ⟨xs, n, _, rfl, hl, hlen, hf⟩ := DataW.trod_struct Tryd.underlying28 h
  have cS : Tryd.prog.cellsOf 28 = 2 := by kernel_rfl
  have c0 : Tryd.prog.cellsOf 3 = 1 := by kernel_rfl
  have c1 : Tryd.prog.cellsOf 24 = 1 := by kernel_rfl
  rw [cS] at hl
  match xs, hlen with
  | [y0, y1], _ =>
    have h0 : DataW.trod enc Tryd.prog w base spare held n 3 ((cs.drop 0).take (Tryd.prog.cellsOf 3)) = some y0 := hf 0 _ rfl
    rw [c0] at h0
    have h1 : DataW.trod enc Tryd.prog w base spare held n 24 ((cs.drop 1).take (Tryd.prog.cellsOf 24)) = some y1 := hf 1 _ rfl
    rw [c1] at h1
    obtain ⟨S, e0, _, _⟩ := DataW.trod_int Tryd.underlying3 h0
    obtain ⟨q, m, c, f, e1, a1, b1, n1⟩ := cs_nms (S := 3) Tryd.underlying24 (by kernel_rfl) (by decide) (fun _ _ _ h => cs_ints3 h) h1
    refine ⟨⟨S, q, m, c, f⟩, ?_, ⟨n1, a1, b1⟩⟩
    have e := split2_ cs hl
    rw [e0, e1] at e
    exact e
theorem open_tex {H : Type} {enc : TypeId × Value → H} {w : World} {base : Nat} {spare : Nat → Bool} {held : Bool} {r : Reach} {b0 : Nat} {v : Value} {d : DataW H} {p : List MemPlace}
    (hv : Value.okWide Tryd.prog w r b0 28 v) (h : DataW.Trod enc Tryd.prog w base spare held 28 v d p) : ∃ M : Txr, v = .agg #[.int .i64 M.S, .slice M.q M.n M.c] ∧ TxAt M w := by
  obtain ⟨cs, rfl, hsz⟩ := okWide_struct Tryd.underlying28 hv
  obtain ⟨fuel, hf⟩ := h
  obtain ⟨M, e, ha⟩ := cs_tex hf
  refine ⟨M, ?_, ha⟩
  simp only [Value.cells] at e
  rw [show cs = cs.toList.toArray from by simp, e]
theorem spl_mat (l : List Value) (h : l.length = 5) : l = (l.drop 0).take 1 ++ ((l.drop 1).take 3 ++ ((l.drop 4).take 1)) := by
  apply List.ext_getElem?
  intro j
  simp only [List.getElem?_append, List.getElem?_take, List.getElem?_drop, List.length_take, List.length_drop, h]
  repeat' split
  all_goals first | rfl | (congr 1; omega) | (exfalso; omega) | (rw [List.getElem?_eq_none (by omega)])
theorem spl_lgt (l : List Value) (h : l.length = 13) : l = (l.drop 0).take 1 ++ ((l.drop 1).take 3 ++ ((l.drop 4).take 3 ++ ((l.drop 7).take 3 ++ ((l.drop 10).take 3)))) := by
  apply List.ext_getElem?
  intro j
  simp only [List.getElem?_append, List.getElem?_take, List.getElem?_drop, List.length_take, List.length_drop, h]
  repeat' split
  all_goals first | rfl | (congr 1; omega) | (exfalso; omega) | (rw [List.getElem?_eq_none (by omega)])
theorem spl_ast (l : List Value) (h : l.length = 24) : l = (l.drop 0).take 1 ++ ((l.drop 1).take 3 ++ ((l.drop 4).take 2 ++ ((l.drop 6).take 5 ++ ((l.drop 11).take 13)))) := by
  apply List.ext_getElem?
  intro j
  simp only [List.getElem?_append, List.getElem?_take, List.getElem?_drop, List.length_take, List.length_drop, h]
  repeat' split
  all_goals first | rfl | (congr 1; omega) | (exfalso; omega) | (rw [List.getElem?_eq_none (by omega)])
theorem isInts.app {S T : Nat} {a b : List Value} (h : isInts S a) (k : isInts T b) : isInts (S + T) (a ++ b) := by
  obtain ⟨x, hx, rfl⟩ := h
  obtain ⟨y, hy, rfl⟩ := k
  exact ⟨x ++ y, by simp [hx, hy], by simp⟩
theorem ints_fun {S : Nat} {cs : List Value} (h : isInts S cs) : ∃ g : Nat → Int, cs = nums .i64 g S := by
  obtain ⟨zs, hz, rfl⟩ := h
  refine ⟨fun i => zs.getD i 0, List.ext_getElem? fun j => ?_⟩
  by_cases hj : j < S
  · rw [nums_at _ _ hj, List.getElem?_map, List.getElem?_eq_getElem (by omega)]
    simp [List.getD_eq_getElem?_getD, List.getElem?_eq_getElem (show j < zs.length by omega)]
  · rw [nums_out _ _ (by omega), List.getElem?_eq_none (by simp; omega)]
set_option maxHeartbeats 1000000 in
theorem cs_mat {H : Type} {enc : TypeId × Value → H} {w : World} {base : Nat} {spare : Nat → Bool} {held : Bool} {fuel : Nat} {cs : List Value} {x : DataW H × List MemPlace}
    (h : DataW.trod enc Tryd.prog w base spare held fuel 31 cs = some x) : isInts 5 cs := by
  obtain ⟨xs, n, _, rfl, hl, hlen, hf⟩ := DataW.trod_struct Tryd.underlying31 h
  rw [show Tryd.prog.cellsOf 31 = 5 from by kernel_rfl] at hl
  match xs, hlen with
  | [y0, y1, y2], _ =>
    have h0 : DataW.trod enc Tryd.prog w base spare held n 3 ((cs.drop 0).take (Tryd.prog.cellsOf 3)) = some y0 := hf 0 _ rfl
    rw [show Tryd.prog.cellsOf 3 = 1 from by kernel_rfl] at h0
    have h1 : DataW.trod enc Tryd.prog w base spare held n 29 ((cs.drop 1).take (Tryd.prog.cellsOf 29)) = some y1 := hf 1 _ rfl
    rw [show Tryd.prog.cellsOf 29 = 3 from by kernel_rfl] at h1
    have h2 : DataW.trod enc Tryd.prog w base spare held n 3 ((cs.drop 4).take (Tryd.prog.cellsOf 3)) = some y2 := hf 2 _ rfl
    rw [show Tryd.prog.cellsOf 3 = 1 from by kernel_rfl] at h2
    obtain ⟨z0, e0, _, _⟩ := DataW.trod_int Tryd.underlying3 h0
    have k0 : isInts 1 ((cs.drop 0).take 1) := ⟨[z0], rfl, e0⟩
    have k1 := cs_ints3 h1
    obtain ⟨z2, e2, _, _⟩ := DataW.trod_int Tryd.underlying3 h2
    have k2 : isInts 1 ((cs.drop 4).take 1) := ⟨[z2], rfl, e2⟩
    have e := spl_mat cs hl
    rw [e]
    exact (k0.app (k1.app k2))
set_option maxHeartbeats 1000000 in
theorem cs_lgt {H : Type} {enc : TypeId × Value → H} {w : World} {base : Nat} {spare : Nat → Bool} {held : Bool} {fuel : Nat} {cs : List Value} {x : DataW H × List MemPlace}
    (h : DataW.trod enc Tryd.prog w base spare held fuel 35 cs = some x) : isInts 13 cs := by
  obtain ⟨xs, n, _, rfl, hl, hlen, hf⟩ := DataW.trod_struct Tryd.underlying35 h
  rw [show Tryd.prog.cellsOf 35 = 13 from by kernel_rfl] at hl
  match xs, hlen with
  | [y0, y1, y2, y3, y4], _ =>
    have h0 : DataW.trod enc Tryd.prog w base spare held n 3 ((cs.drop 0).take (Tryd.prog.cellsOf 3)) = some y0 := hf 0 _ rfl
    rw [show Tryd.prog.cellsOf 3 = 1 from by kernel_rfl] at h0
    have h1 : DataW.trod enc Tryd.prog w base spare held n 29 ((cs.drop 1).take (Tryd.prog.cellsOf 29)) = some y1 := hf 1 _ rfl
    rw [show Tryd.prog.cellsOf 29 = 3 from by kernel_rfl] at h1
    have h2 : DataW.trod enc Tryd.prog w base spare held n 33 ((cs.drop 4).take (Tryd.prog.cellsOf 33)) = some y2 := hf 2 _ rfl
    rw [show Tryd.prog.cellsOf 33 = 3 from by kernel_rfl] at h2
    have h3 : DataW.trod enc Tryd.prog w base spare held n 33 ((cs.drop 7).take (Tryd.prog.cellsOf 33)) = some y3 := hf 3 _ rfl
    rw [show Tryd.prog.cellsOf 33 = 3 from by kernel_rfl] at h3
    have h4 : DataW.trod enc Tryd.prog w base spare held n 33 ((cs.drop 10).take (Tryd.prog.cellsOf 33)) = some y4 := hf 4 _ rfl
    rw [show Tryd.prog.cellsOf 33 = 3 from by kernel_rfl] at h4
    obtain ⟨z0, e0, _, _⟩ := DataW.trod_int Tryd.underlying3 h0
    have k0 : isInts 1 ((cs.drop 0).take 1) := ⟨[z0], rfl, e0⟩
    have k1 := cs_ints3 h1
    have k2 := cs_point_ h2
    have k3 := cs_point_ h3
    have k4 := cs_point_ h4
    have e := spl_lgt cs hl
    rw [e]
    exact (k0.app (k1.app (k2.app (k3.app k4))))
set_option maxHeartbeats 1000000 in
theorem cs_ast {H : Type} {enc : TypeId × Value → H} {w : World} {base : Nat} {spare : Nat → Bool} {held : Bool} {fuel : Nat} {cs : List Value} {x : DataW H × List MemPlace}
    (h : DataW.trod enc Tryd.prog w base spare held fuel 37 cs = some x) : ∃ A : Ast, cs = [.int .i64 A.k, .slice A.M.qv A.M.nv A.M.cv, .slice A.M.qu A.M.nu A.M.cu, .slice A.M.qt A.M.nt A.M.ct, .int .i64 A.X.S, .slice A.X.q A.X.n A.X.c, .int .i64 (A.g 0), .int .i64 (A.g 1), .int .i64 (A.g 2), .int .i64 (A.g 3), .int .i64 (A.g 4), .int .i64 (A.l 0), .int .i64 (A.l 1), .int .i64 (A.l 2), .int .i64 (A.l 3), .int .i64 (A.l 4), .int .i64 (A.l 5), .int .i64 (A.l 6), .int .i64 (A.l 7), .int .i64 (A.l 8), .int .i64 (A.l 9), .int .i64 (A.l 10), .int .i64 (A.l 11), .int .i64 (A.l 12)] ∧ AstAt A w := by
  obtain ⟨xs, n, _, rfl, hl, hlen, hf⟩ := DataW.trod_struct Tryd.underlying37 h
  rw [show Tryd.prog.cellsOf 37 = 24 from by kernel_rfl] at hl
  match xs, hlen with
  | [y0, y1, y2, y3, y4], _ =>
    have h0 : DataW.trod enc Tryd.prog w base spare held n 3 ((cs.drop 0).take (Tryd.prog.cellsOf 3)) = some y0 := hf 0 _ rfl
    rw [show Tryd.prog.cellsOf 3 = 1 from by kernel_rfl] at h0
    have h1 : DataW.trod enc Tryd.prog w base spare held n 26 ((cs.drop 1).take (Tryd.prog.cellsOf 26)) = some y1 := hf 1 _ rfl
    rw [show Tryd.prog.cellsOf 26 = 3 from by kernel_rfl] at h1
    have h2 : DataW.trod enc Tryd.prog w base spare held n 28 ((cs.drop 4).take (Tryd.prog.cellsOf 28)) = some y2 := hf 2 _ rfl
    rw [show Tryd.prog.cellsOf 28 = 2 from by kernel_rfl] at h2
    have h3 : DataW.trod enc Tryd.prog w base spare held n 31 ((cs.drop 6).take (Tryd.prog.cellsOf 31)) = some y3 := hf 3 _ rfl
    rw [show Tryd.prog.cellsOf 31 = 5 from by kernel_rfl] at h3
    have h4 : DataW.trod enc Tryd.prog w base spare held n 35 ((cs.drop 11).take (Tryd.prog.cellsOf 35)) = some y4 := hf 4 _ rfl
    rw [show Tryd.prog.cellsOf 35 = 13 from by kernel_rfl] at h4
    obtain ⟨k, e0, _, _⟩ := DataW.trod_int Tryd.underlying3 h0
    obtain ⟨M, e1, hM⟩ := cs_mesh h1
    obtain ⟨X, e2, hX⟩ := cs_tex h2
    obtain ⟨g, e3⟩ := ints_fun (cs_mat h3)
    obtain ⟨l, e4⟩ := ints_fun (cs_lgt h4)
    refine ⟨⟨k, M, X, g, l⟩, ?_, ⟨hM, hX⟩⟩
    have e := spl_ast cs hl
    rw [e0, e1, e2, e3, e4] at e
    exact e
theorem open_ast {H : Type} {enc : TypeId × Value → H} {w : World} {base : Nat} {spare : Nat → Bool} {held : Bool} {r : Reach} {b0 : Nat} {v : Value} {d : DataW H} {p : List MemPlace}
    (hv : Value.okWide Tryd.prog w r b0 37 v) (h : DataW.Trod enc Tryd.prog w base spare held 37 v d p) : ∃ A : Ast, v = (.agg #[.int .i64 A.k, .slice A.M.qv A.M.nv A.M.cv, .slice A.M.qu A.M.nu A.M.cu, .slice A.M.qt A.M.nt A.M.ct, .int .i64 A.X.S, .slice A.X.q A.X.n A.X.c, .int .i64 (A.g 0), .int .i64 (A.g 1), .int .i64 (A.g 2), .int .i64 (A.g 3), .int .i64 (A.g 4), .int .i64 (A.l 0), .int .i64 (A.l 1), .int .i64 (A.l 2), .int .i64 (A.l 3), .int .i64 (A.l 4), .int .i64 (A.l 5), .int .i64 (A.l 6), .int .i64 (A.l 7), .int .i64 (A.l 8), .int .i64 (A.l 9), .int .i64 (A.l 10), .int .i64 (A.l 11), .int .i64 (A.l 12)]) ∧ AstAt A w := by
  obtain ⟨cs, rfl, hsz⟩ := okWide_struct Tryd.underlying37 hv
  obtain ⟨fuel, hf⟩ := h
  obtain ⟨A, e, ha⟩ := cs_ast hf
  refine ⟨A, ?_, ha⟩
  simp only [Value.cells] at e
  rw [show cs = cs.toList.toArray from by simp, e]
end Go.Proofs.YtokfhhngnpbdkaaDoor
