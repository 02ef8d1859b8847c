/- Parts one behind the other: chacha.join. -/
import Derived.Test.YtbcpoohoclobpaaDoorCO
import Derived.LoopN
import Derived.LoopTactic
import Derived.Deep.Onto
namespace Go.Proofs.YtbcpoohoclobpaaDoor
set_option linter.unusedVariables false
set_option maxRecDepth 2000
set_option linter.unusedSimpArgs false
open Go.RowKit
theorem sliced_head (p : Option Addr) (h c S : Nat) : sliced p 0 h c S = .slice p h c := by
  cases p with
  | none => simp [sliced]
  | some a => cases a; simp [sliced, Addr.add]
attribute [local go_sem ↓ high] sliced_head
/-- a slice of bytes that holds f's first n -/
def Byt (w : World) (q : Option Addr) (n : Nat) (f : Nat → Int) : Prop := n = 0 ∨ ∃ b off, q = some ⟨b, off, none⟩ ∧ Has b off (nums .u8 f n) w
theorem Byt.later {w w' : World} {q : Option Addr} {n : Nat} {f : Nat → Int} (h : Byt w q n f) (hb : Below w.heap.size w w') : Byt w' q n f := by
  rcases h with h | ⟨b, off, h1, h2⟩
  · exact .inl h
  · exact .inr ⟨b, off, h1, h2.later hb⟩
/-- a list of np parts: together they hold g; T: where each begins -/
def Parts (w : World) (p : Option Addr) (np : Nat) (g : Nat → Int) (T : Nat → Nat) : Prop := ∀ k, k < np → ∃ D o q m c, p = some ⟨D, o, none⟩ ∧ D < w.heap.size ∧ w.cell? ⟨D, o + k, none⟩ = some (.slice q m c) ∧ m ≤ c ∧ c ≤ 9223372036854775807 ∧ T (k + 1) = T k + m ∧ Byt w q m (fun j => g (T k + j))
theorem Parts.later {w w' : World} {p : Option Addr} {np : Nat} {g : Nat → Int} {T : Nat → Nat} (h : Parts w p np g T) (hb : Below w.heap.size w w') : Parts w' p np g T := fun k hk => by
  obtain ⟨D, o, q, m, c, h1, h2, h3, h4, h5, h6, h7⟩ := h k hk
  exact ⟨D, o, q, m, c, h1, Nat.lt_of_lt_of_le h2 hb.size, (hb.cell (p := ⟨D, o + k, none⟩) h2).trans h3, h4, h5, h6, h7.later hb⟩
theorem run_append_zero {P : Program} {w : World} {base size n t ty : Nat} {e : TypeId} {i : TypeInfo} {v : Value} {xs : List Value} (ht : P.underlying t = some (.slice e)) (hi : P.info? e = some i) (hown : w.ownsRow base e size v n xs) (q : Option Addr) (c : Nat) :
    (Builtin.append_ #[t, t] ty #[v, .slice q 0 c]).run P w = .ok v w := by
  have hl : ∀ (x : Addr), (loadCells x 0).run P w = .ok #[] w := fun x => by simpa using run_loadCells_list (P := P) w x [] (by simp)
  rcases hown.2 with ⟨rfl, rfl⟩ | ⟨g, cap, cur, rfl, _, _, hnc, _⟩
  · cases q <;> simp [Builtin.append_, run_underlying ht, sizeOf, typeInfo, hi, Builtin.lenOf, Builtin.firstCells, hl]
  · cases q <;> simp [Builtin.append_, run_underlying ht, sizeOf, typeInfo, hi, Builtin.lenOf, Builtin.firstCells, hnc, storeCells, hl]
theorem wpList_append_zero {P : Program} {w : World} {ops : Array Oper} {rest : List Oper} {o : Oper} {a : Act} {Q : Exit → Act → World → Prop} (hgd : o.guard = none) (s x : Operand) (t : TypeId)
    (ho : o.op = .call { callee := .builtin .append, args := #[s, x], argTypes := #[t, t] }) {base size n : Nat} {e : TypeId} {i : TypeInfo} {v : Value} {xs : List Value} (ht : P.underlying t = some (.slice e)) (hi : P.info? e = some i)
    (hs : a.eval s = v) (hown : w.ownsRow base e size v n xs) (q : Option Addr) (c : Nat) (hx : a.eval x = .slice q 0 c) (h : wpList P ops Q rest (a.put o.dst v) w) : wpList P ops Q (o :: rest) a w :=
  wpList_plain hgd fun K hK => by
    unfold Oper.wp
    simp [execOp, ho, resolve, invoke, builtin, hs, hx, run_append_zero (P := P) (ty := o.type) ht hi hown q c, Result.andThen]
    exact hK _ _ h

set_option maxHeartbeats 8000000 in
theorem join_any (p : Option Addr) (np cp : Nat) (g : Nat → Int) (T : Nat → Nat) (hT0 : T 0 = 0) (hT : ∀ k, k ≤ np → T k ≤ 65536) (hnc : np ≤ cp) (hcm : cp ≤ 9223372036854775807) (w : World) (hp : Parts w p np g T) :
    Calls Tryd.prog 22 #[.slice p np cp] w fun e w' => ∃ v, e = .returned v ∧ w'.ownsRow w.heap.size 5 1 v (T np) (nums .u8 g (T np)) ∧ Below w.heap.size w w' := by
  have PW := Lib.hid hp; have HT := Lib.hid hT; have HT0 := Lib.hid hT0; have NC := Lib.hid hnc; have CM := Lib.hid hcm
  clear hp hT hT0 hnc hcm
  obtain ⟨i0, hi, hz0, hz1, hz2⟩ := infoB_parts
  go_enter Tryd.func22, Tryd.ntmps22
  go_wp2_with (fail)
  go_loopw [3, 9] (fun v iv wr => ∃ (k : Nat) (p3 : Option Addr) (c3 : Nat), k ≤ np ∧ v = .slice p3 (T k) c3 ∧ iv = .int .i64 k ∧ Hid (wr.ownsRow w.heap.size 5 1 (.slice p3 (T k) c3) (T k) (nums .u8 g (T k))) ∧ Hid (Below w.heap.size w wr)) (fun _ iv _ => (np - (intOf iv).toNat))
  case atStart => exact ⟨0, none, 0, Nat.zero_le _, by rw [HT0.out], rfl, Lib.hid (by rw [HT0.out]; exact World.ownsRow_nil _ _ _ _), Lib.hid (Below.refl _ _)⟩
  case round =>
    obtain ⟨k, p3, c3, hk, rfl, rfl, ROW, HB⟩ := hrel
    by_cases hlt : k < np
    · obtain ⟨D, o, q, m, c, rfl, hD, hcell, hmc, hcx, hTk, hby⟩ := (PW.out.later HB.out) k hlt
      have hki : (k : Int) < (np : Int) := by omega
      have k0 : (0 : Int) ≤ (k : Int) := by omega
      have k63 : (k : Int) + 1 ≤ 9223372036854775807 := by have := NC.out; have := CM.out; omega
      have wk : IntKind.i64.wrap ((k : Int) + 1) = (k : Int) + 1 := IntWalk.i64_in _ (by omega)
      have hT1 := HT.out k (by omega)
      have hT2 := HT.out (k + 1) (by omega)
      have HT2 := Lib.hid hT2
      have HTk := Lib.hid hTk
      obtain ⟨t, et⟩ : ∃ t, T k = t := ⟨_, rfl⟩
      rw [et] at hTk hT1 ROW hby HTk ⊢
      obtain ⟨r, er⟩ : ∃ r : Nat, r = 65536 - t := ⟨_, rfl⟩
      have e1 : (65536 : Int) - (t : Int) = (r : Int) := by omega
      have e2 : IntKind.i64.wrap (r : Int) = (r : Int) := IntWalk.i64_in _ (by omega)
      have e3 : (if (r : Int) < (m : Int) then (r : Int) else (m : Int)) = (m : Int) := by rw [if_neg (by omega)]
      have m0 : (0 : Int) ≤ (m : Int) := by omega
      have m1 : (m : Int) ≤ (c : Int) := by omega
      have HR := Lib.hid (show t + m ≤ 65536 by omega)
      have ET := Lib.hid et
      clear et er hT1 hT2 hTk
      have DW : D < wr.heap.size := hD
      by_cases hm : m = 0
      · subst hm
        clear hby
        go_wp2_with (at_builtin; refine wpList_append_zero rfl _ _ 34 rfl Tryd.underlying34 hi rfl ROW.out q c rfl ?_)
        go_roundw
        case rel => (first | exact ⟨k + 1, p3, c3, by omega, by rw [HTk.out, Nat.add_zero], by go_num, Lib.hid (by rw [HTk.out, Nat.add_zero]; exact ROW.out), HB⟩ | ((repeat apply Exists.intro); exact ⟨⟨k + 1, p3, c3, by omega, by rw [HTk.out, Nat.add_zero], by go_num, Lib.hid (by rw [HTk.out, Nat.add_zero]; exact ROW.out), HB⟩, rfl⟩))
        case measure => simp [intOf]; omega
      · obtain ⟨b, off, rfl, hbs⟩ : ∃ b off, q = some ⟨b, off, none⟩ ∧ Has b off (nums .u8 (fun j => g (t + j)) m) wr := hby.resolve_left hm
        have NW : Hid (∀ (j : Nat) (u : Value), (nums .u8 (fun j => g (t + j)) m)[j]? = some u → wr.cell? ((⟨b, off, none⟩ : Addr).add j) = some u) := Lib.hid fun j u hj => by rw [Addr.add_mid]; exact hbs.cell j u hj
        have NL := Lib.hid (show (nums .u8 (fun j => g (t + j)) m).length = m * 1 by rw [nums_length, Nat.mul_one])
        have N63 := Lib.hid (show t + m ≤ maxLen by have := HR.out; unfold maxLen; omega)
        have NBY := Lib.hid (show (t + m) * 1 ≤ 140737488355328 by have := HR.out; omega)
        have XS := Lib.hid (nums_append .u8 g (fun j => g (t + j)) t m (fun j hj => rfl))
        have HS := Lib.hid HB.out.size
        clear hbs hby
        go_wp2_with (at_builtin; refine wpList_append_own _ rfl _ _ 34 rfl w.heap.size 5 i0 (.int .u8 0) 1 1 Tryd.underlying34 hi hz0 hz1 hz2 rfl (by decide) _ t _ rfl ROW.out ⟨b, off, none⟩ m c (nums .u8 (fun j => g (t + j)) m) rfl NL.out NW.out (nums_one _ _ _) N63.out NBY.out HS.out ?_; intro v' w6 hrow hgr _; obtain ⟨p', c', rfl, _⟩ := row_form hrow; rw [XS.out] at hrow; have o4 := Lib.hid (HB.out.grown hgr HB.out.size fun q hq => row_ge ROW.out q hq); have o6 := Lib.hid hrow; clear hrow hgr)
        go_roundw
        case rel => (first | exact ⟨k + 1, _, _, by omega, by rw [HTk.out], by go_num, Lib.hid (by rw [HTk.out]; exact o6.out), o4⟩ | ((repeat apply Exists.intro); exact ⟨⟨k + 1, _, _, by omega, by rw [HTk.out], by go_num, Lib.hid (by rw [HTk.out]; exact o6.out), o4⟩, rfl⟩))
        case measure => simp [intOf]; omega
    · obtain rfl : k = np := by omega
      go_wp2_with (fail)
      go_ret
      exact ⟨_, rfl, ROW.out, HB.out⟩
end Go.Proofs.YtbcpoohoclobpaaDoor
