/- A store of what a cell holds changes nothing. -/
import Derived.Test.YtbhdlpndmbhaiaaSA
namespace Go.Proofs.Ytbhdlpndmbhaiaa
set_option linter.unusedVariables false
set_option maxRecDepth 2000
set_option linter.unusedSimpArgs false
open Go.RowKit
theorem setCell_self {w : World} {b o : Nat} {v : Value} (h : w.cell? ⟨b, o, none⟩ = some v) : w.setCell ⟨b, o, none⟩ v = w := by
  have e : (w.setCell ⟨b, o, none⟩ v).heap = w.heap := by
    unfold World.setCell
    dsimp only
    apply Array.ext_getElem?
    intro i
    rw [Array.getElem?_modify]
    split
    · rename_i hi
      subst hi
      cases hh : w.heap[b]? with
      | none => rfl
      | some x =>
        cases x with
        | cells c t f =>
          have hc : c[o]? = some v := by
            simpa [World.cell?, hh] using h
          simp
          apply Array.ext_getElem?
          intro j
          rw [Array.getElem?_setIfInBounds]
          split
          · rename_i hj
            subst hj
            rw [hc]
            split
            · rfl
            · rename_i hn
              have := (Array.getElem?_eq_some_iff.1 hc).1
              omega
          · rfl
        | _ => rfl
    · rfl
  show World.mk (w.setCell ⟨b, o, none⟩ v).heap _ _ _ _ = w
  rw [e]
/-- AS ONE STEP: a whole struct or array is stored. -/
theorem step_store {P : Program} {ops : Array Oper} {o : Oper} {a : Act} {w : World} {K : Act → World → Prop} {Q : Exit → Act → World → Prop} {E : Prop}
    (hg : Region.wanted o (yielded ops a.tmps) = true) (ty : TypeId) (x y : Operand) (ho : o.op = .store ty x y) (b f : Nat) (cells : Array Value) (hx : a.eval x = .pointer (some ⟨b, f, none⟩)) (hy : a.eval y = .agg cells)
    (ht : w.there b f cells.size) (hi : (P.info? ty).map (·.size) = some cells.size) (h1 : cells.all (·.oneCell') = true)
    (h : K (a.put o.dst undef) (w.setCells b f cells.toList)) : if Region.wanted o (yielded ops a.tmps) = true then Oper.wp P o a w K Q else E := by
  rw [if_pos hg]
  exact wp_store_mid ty x y ho b f cells hx hy ht hi h1 h
theorem Own.room {b o n : Nat} {cs : List Value} {W : World} (h : Own b cs W) (hl : o + n ≤ cs.length) : W.there b o n := fun j hj => by
  have := h.free (o + j) (by omega)
  rwa [Nat.zero_add] at this
/-- an array of three ints, indexed -/
theorem ix3_0 (a b c : Int) (w : World) : (Instr.index 50 (.agg #[.int .i64 a, .int .i64 b, .int .i64 c]) (.int .i64 0)).run Try.prog w = .ok (.int .i64 a) w := by kernel_rfl
theorem ix3_1 (a b c : Int) (w : World) : (Instr.index 50 (.agg #[.int .i64 a, .int .i64 b, .int .i64 c]) (.int .i64 1)).run Try.prog w = .ok (.int .i64 b) w := by kernel_rfl
theorem ix3_2 (a b c : Int) (w : World) : (Instr.index 50 (.agg #[.int .i64 a, .int .i64 b, .int .i64 c]) (.int .i64 2)).run Try.prog w = .ok (.int .i64 c) w := by kernel_rfl
end Go.Proofs.Ytbhdlpndmbhaiaa
