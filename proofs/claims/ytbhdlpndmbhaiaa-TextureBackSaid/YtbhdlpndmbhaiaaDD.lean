/- codec.Put, codec.Signed. -/
import Derived.Test.YtbhdlpndmbhaiaaDC
import Derived.Lib.Hide
import Derived.Deep.Onto
namespace Go.Proofs.Ytbhdlpndmbhaiaa
set_option linter.unusedVariables false
set_option maxRecDepth 2000
set_option linter.unusedSimpArgs false
open Go.RowKit
theorem row_base {w : World} {base b2 size n : Nat} {e : TypeId} {v : Value} {xs : List Value} (h : w.ownsRow base e size v n xs) (hb : b2 ≤ base) : w.ownsRow b2 e size v n xs := by
  refine ⟨h.1, ?_⟩
  rcases h.2 with h0 | ⟨g, cap, cur, hv, hg, r⟩
  · exact .inl h0
  · exact .inr ⟨g, cap, cur, hv, Nat.le_trans hb hg, r⟩

set_option maxHeartbeats 4000000 in
theorem Put_any (q p : Option Addr) (m c n c2 : Nat) (wd : Int) (f g : Nat → Int) (hg : ∀ k, k < n → 0 ≤ g k ∧ g k ≤ 18446744073709551615) (hmc : m ≤ c) (hc : c ≤ 9223372036854775807) (hnc : n ≤ c2) (hc2 : c2 ≤ 9223372036854775807) (hsz : m + 8 * n ≤ 70368744177664) (w : World) (hq : Byt w q m f) (hp : Nm w .u64 p n g) :
    Calls Try.prog 24 #[.slice q m c, .int .i64 wd, .slice p n c2] w fun e w' => ∃ v, e = .returned (.tuple #[v, .int .i64 (putE fitU wd n g)]) ∧ w'.ownsRow w.heap.size 5 1 v (putL m n wd (putE fitU wd n g)) (nums .u8 (outF f m wd.toNat g) (putL m n wd (putE fitU wd n g))) ∧ Below w.heap.size w w' := by
  have PU := Lib.hid (fun B w hB hq hp => PutU_any q p m c n c2 wd f g B hg hmc hc hnc hc2 hsz w hB hq hp)
  have HQ := Lib.hid hq; have HP := Lib.hid hp
  clear hg hmc hc hnc hc2 hsz hq hp
  have hmf : ∀ (fn : Fn) (first cap : Array Value) (w : World), (Instr.makeFunc fn first cap).run Try.prog w = .ok (.func fn first cap) w := fun _ _ _ _ => rfl
  generalize putE fitU wd n g = E at *
  generalize putL m n wd E = L at *
  go_enter Try.func24, Try.ntmps24
  go_wp2_with (fail)
  go_at_call 41
  have hA : Below w.heap.size w (w.alloc (.cells #[.int .i64 wd] 3)) := Below.al (Below.refl _ _)
  refine (PU.out w.heap.size _ ((Own.newAt rfl : Own w.heap.size #[.int .i64 wd].toList (w.alloc (.cells #[.int .i64 wd] 3))).has) (HQ.out.later hA) (HP.out.later hA)).mono ?_
  rintro e w1 ⟨v, rfl, hrow, hb⟩
  have hB := Below.go hA hb
  have ROW := Lib.hid hrow
  have HB := Lib.hid hB
  clear hrow hb hB hA PU
  go_wp2_with (fail)
  exact bodyPost_ret (v := .tuple #[v, .int .i64 E]) (by simp [results, Try.results24, go_sem]) rfl ⟨v, rfl, row_base ROW.out (by simp), HB.out⟩

end Go.Proofs.Ytbhdlpndmbhaiaa
