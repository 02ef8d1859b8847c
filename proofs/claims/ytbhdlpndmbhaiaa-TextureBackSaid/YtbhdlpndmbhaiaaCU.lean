/- ChachaLater: the walk. -/
import Derived.Test.YtbhdlpndmbhaiaaCT
import Derived.Test.YtbhdlpndmbhaiaaCL
import Derived.Test.YtbhdlpndmbhaiaaCO
import Derived.Deep.Onto
namespace Go.Proofs.Ytbhdlpndmbhaiaa
set_option linter.unusedVariables false
set_option maxRecDepth 2000
set_option linter.unusedSimpArgs false
open Go.RowKit
/-- a key, a counter, a nonce as one struct's cells -/
def seedC (kf : Nat → Int) (c : Int) (nf : Nat → Int) : List Value := nums .u8 kf 32 ++ (.int .u32 c :: nums .u8 nf 12)
theorem seed_len (kf : Nat → Int) (c : Int) (nf : Nat → Int) : (seedC kf c nf).length = 45 := by simp [seedC, nums_length]
theorem seed_key {D : Nat} {kf nf : Nat → Int} {c : Int} {W : World} (h : Has D 0 (seedC kf c nf) W) : Has D 0 (nums .u8 kf 32) W := ⟨h.lt, fun j v hj => h.cell j v (by
  have : j < 32 := by have := (List.getElem?_eq_some_iff.1 hj).1; rwa [nums_length] at this
  rw [seedC, List.getElem?_append_left (by rw [nums_length]; exact this)]; exact hj)⟩
theorem seed_ctr {D : Nat} {kf nf : Nat → Int} {c : Int} {W : World} (h : Has D 0 (seedC kf c nf) W) : W.cell? ⟨D, 32, none⟩ = some (.int .u32 c) := by
  have := h.cell 32 (.int .u32 c) (by rw [seedC, List.getElem?_append_right (by rw [nums_length]; exact Nat.le_refl _), nums_length]; rfl)
  rwa [Nat.zero_add] at this
theorem seed_non {D : Nat} {kf nf : Nat → Int} {c : Int} {W : World} (h : Has D 0 (seedC kf c nf) W) : Has D 33 (nums .u8 nf 12) W := ⟨h.lt, fun j v hj => by
  have := h.cell (33 + j) v (by
    rw [seedC, List.getElem?_append_right (by rw [nums_length]; omega), nums_length, show 33 + j - 32 = j + 1 by omega, List.getElem?_cons_succ]; exact hj)
  rwa [Nat.zero_add] at this⟩
theorem wpList_val {P : Program} {ops : Array Oper} {rest : List Oper} {op : Oper} {a : Act} {w : World} {Q : Exit → Act → World → Prop} (hgd : op.guard = none) (v : Value)
    (hrun : (execOp (fun x => a.eval x) op).run P w = .ok (.value v) w) (h : wpList P ops Q rest (a.put op.dst v) w) : wpList P ops Q (op :: rest) a w :=
  wpList_plain hgd fun K hK => by
    unfold Oper.wp
    rw [hrun]
    exact hK _ _ h
theorem run_load1 {P : Program} {w : World} {a : Addr} {ty : TypeId} {v : Value} (hc : w.cell? a = some v) (ha : (isAgg ty).run P w = .ok false w) : (Instr.loadAt ty (.pointer (some a))).run P w = .ok v w := by
  simp [Instr.loadAt, Instr.sureAddr, loadVar, ha, hc]
theorem wpList_load1 {P : Program} {ops : Array Oper} {rest : List Oper} {op : Oper} {a : Act} {w : World} {Q : Exit → Act → World → Prop} (hgd : op.guard = none) (ty : TypeId) (x : Operand) (ho : op.op = .load ty x)
    (ad : Addr) (hx : a.eval x = .pointer (some ad)) (v : Value) (hc : w.cell? ad = some v) (ha : (isAgg ty).run P w = .ok false w) (h : wpList P ops Q rest (a.put op.dst v) w) : wpList P ops Q (op :: rest) a w :=
  wpList_plain hgd fun K hK => by
    unfold Oper.wp execOp
    simp only [ho, hx, Sem.run_bind, run_load1 hc ha, Result.andThen_ok, Sem.run_pure]
    exact hK _ _ h
theorem isAgg23 (w : World) : (isAgg 96).run Try.prog w = .ok false w := by simp [go_sem]
theorem byt_row {w : World} {base n : Nat} {e : TypeId} {q : Option Addr} {m c : Nat} {f : Nat → Int} (h : w.ownsRow base e 1 (.slice q m c) n (nums .u8 f n)) : m = n ∧ Byt w q n f := by
  rcases h.2 with ⟨h0, rfl⟩ | ⟨g, cap, cur, h0, _, hg, _⟩
  · cases h0; exact ⟨rfl, .inl rfl⟩
  · cases h0; exact ⟨rfl, .inr ⟨g, 0, rfl, (row_has h).1⟩⟩
/-- the address behind the first l bytes -/
def slq (p : Option Addr) (l c : Nat) : Option Addr := if c = l then p else p.map (·.add l)
theorem sliced_one (p : Option Addr) (l h c : Nat) : sliced p l h c 1 = .slice (slq p l c) (h - l) (c - l) := by
  unfold sliced slq
  rw [Nat.mul_one]
theorem byt_drop {w : World} {p : Option Addr} {L l c : Nat} {f : Nat → Int} (h : Byt w p L f) (hl : l ≤ L) (hc : L ≤ c) : Byt w (slq p l c) (L - l) (fun j => f (l + j)) := by
  by_cases h0 : L - l = 0
  · exact .inl h0
  · obtain ⟨b, off, rfl, hb⟩ := h.resolve_left (by omega)
    refine .inr ⟨b, off + l, ?_, hb.lt, fun j v hj => ?_⟩
    · unfold slq
      rw [if_neg (by omega)]
      simp [Addr.add]
    · have hjl : j < L - l := by
        have := (List.getElem?_eq_some_iff.1 hj).1
        rwa [nums_length] at this
      rw [nums_at _ _ hjl] at hj
      rw [show off + l + j = off + (l + j) by omega]
      exact hb.cell (l + j) v ((nums_at _ _ (by omega)).trans hj)
theorem strF_later (kf nf : Nat → Int) (c : Int) (k j : Nat) : strF kf c nf (64 * k + j) = strF kf ((c + (k : Int)) % 4294967296) nf j := by
  unfold strF
  rw [show (64 * k + j) / 64 = k + j / 64 by omega, show (64 * k + j) % 64 = j % 64 by omega]
  congr 1
  push_cast
  omega
attribute [local go_sem ↓ high] sliced_head sliced_one

end Go.Proofs.Ytbhdlpndmbhaiaa
