/- umbralaw01.WideLeft: what it gives. -/
import Derived.Test.YtmpbnmhbebhpeaaLL
import Derived.Test.YtmpbnmhbebhpeaaQuo
namespace Go.Proofs.Ytmpbnmhbebhpeaa
set_option linter.unusedVariables false
open Go.RowKit

set_option maxRecDepth 10000 in
theorem Left_walk (h l d : Int) (w : World) (h0 : -2147483648 ≤ h) (h1 : h ≤ 2147483647) (l0 : 0 ≤ l) (l1 : l ≤ 18446744073709551615) (d0 : -9223372036854775808 ≤ d) (d1 : d ≤ 9223372036854775807) :
    Calls Try.prog 10 #[.int .i32 h, .int .u64 l, .int .i64 d] w fun e w' => e = .returned (.bool true) ∧ Below w.heap.size w w' := by
  by_cases hd : d = 0
  · subst hd
    exact Left_zero h l w 0 h0 h1 (fun w => works_any w)
  · obtain ⟨q, r, e, hp, hm⟩ := quo_ex (h * 18446744073709551616 + l) d hd
    have qb := quo_bd e hp hm hd
    have eh := hi_of h l l0 (by omega)
    have el := lo_of h l l0 (by omega)
    have rb : -9223372036854775808 ≤ r ∧ r ≤ 9223372036854775807 := by omega
    generalize hz : h * 18446744073709551616 + l = z at *
    have zb : -39614081257132168796771975168 ≤ z ∧ z < 39614081257132168796771975168 := by omega
    have dv := fun w => Div_yes z d q r (by omega) (by omega) d0 d1 e hp hm hd (by omega) (by omega) w
    have it := fun w => Int_any q w
    rw [eh, el] at dv
    have eq : eqB h l h l = true := by simp [eqB]
    by_cases hq : -9223372036854775808 ≤ q ∧ q ≤ 9223372036854775807
    · rw [decide_eq_true hq] at it
      have mu := fun w => Mul_any q d hq.1 hq.2 d0 d1 w
      have pb := prod_bd q d hq.1 hq.2 d0 d1
      have ec : q * d + r = z := by rw [e, Int.mul_comm]
      refine Left_core h l d r (hi z) (lo z) (hi q) (lo q) q true w h0 h1 (by simpa using hd) hp hm dv it _ _ _ _ (fun _ => mu) (fun w => Of_any r rb.1 rb.2 w) (fun _ => ?_) eq (fun w => works_any w)
      intro blk c w hb c0 c1 c2 c3
      have := Add_two blk (q * d) r 0 c ((inW_iff _).2 (by omega)) ((inW_iff _).2 (by omega)) ((inW_iff _).2 (by omega)) w hb c0 c1 c2 c3
      rwa [ec, eh, el] at this
    · rw [decide_eq_false hq] at it
      exact Left_core h l d r (hi z) (lo z) (hi q) (lo q) 0 false w h0 h1 (by simpa using hd) hp hm dv it 0 0 _ _ (fun h => by cases h) (fun w => Of_any r rb.1 rb.2 w) (fun h => by cases h) eq (fun w => works_any w)
end Go.Proofs.Ytmpbnmhbebhpeaa
