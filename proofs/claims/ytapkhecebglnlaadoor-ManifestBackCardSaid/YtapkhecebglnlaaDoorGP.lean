/- Manifests compared. -/
import Derived.Test.YtapkhecebglnlaaDoorCD
import Derived.Lib.Hide
namespace Go.Proofs.YtapkhecebglnlaaDoor
set_option linter.unusedVariables false
set_option maxRecDepth 2000
set_option linter.unusedSimpArgs false
open Go.RowKit
/-- do two arrays agree in their first n numbers? -/
def gqB (f g : Nat → Int) (n : Nat) : Bool := decide (∀ i, i < n → f i = g i)
theorem gqB_self (f : Nat → Int) (n : Nat) : gqB f f n = true := decide_eq_true fun _ _ => rfl
theorem gqB_congr {f g : Nat → Int} {n : Nat} (h : ∀ i, i < n → f i = g i) : gqB f g n = true := decide_eq_true h
def gqF (f g : Nat → Int) : Nat → Nat → Bool
  | _, 0 => true
  | a, m + 1 => decide (f a = g a) && gqF f g (a + 1) m
theorem gqF_iff (f g : Nat → Int) : ∀ (m a : Nat), gqF f g a m = true ↔ ∀ i, a ≤ i → i < a + m → f i = g i
  | 0, a => ⟨fun _ i h1 h2 => by omega, fun _ => rfl⟩
  | m + 1, a => by
    rw [gqF, Bool.and_eq_true, decide_eq_true_iff, gqF_iff f g m (a + 1)]
    constructor
    · intro h i h1 h2
      by_cases ia : i = a
      · subst ia; exact h.1
      · exact h.2 i (by omega) (by omega)
    · intro h; exact ⟨h a (Nat.le_refl _) (by omega), fun i h1 h2 => h i (by omega) (by omega)⟩
theorem gq_loop2 {P : Program} {w : World} (F : Nat → Sem (ForInStep (Option Bool × Unit))) (f g : Nat → Int) : ∀ (m a : Nat), (∀ i, a ≤ i → i < a + m → (F i).run P w = .ok (if f i = g i then .yield (none, ()) else .done (some false, ())) w) →
    (forIn (List.range' a m) ((none, ()) : Option Bool × Unit) fun i _ => F i).run P w = .ok (if gqF f g a m = true then (none, ()) else (some false, ())) w
  | 0, a, _ => by simp [gqF]
  | m + 1, a, h => by
    rw [List.range'_succ, List.forIn_cons, Sem.run_bind, h a (Nat.le_refl _) (by omega), Result.andThen_ok, gqF]
    by_cases e : f a = g a
    · rw [if_pos e, decide_eq_true e, Bool.true_and]
      show (forIn (List.range' (a + 1) m) ((none, ()) : Option Bool × Unit) fun i _ => F i).run P w = _
      rw [gq_loop2 F f g m (a + 1) fun i h1 h2 => h i (by omega) (by omega)]
    · rw [if_neg e, decide_eq_false e, Bool.false_and]
      rfl
theorem gq_nums2 {P : Program} {t e n : Nat} {k : IntKind} (f g : Nat → Int) {w : World} (d : Nat) (ht : P.underlying t = some (.array n e)) (he : P.underlying e = some (.int k)) (hs : (sizeOf e).run P w = .ok 1 w) (ha : (isAgg e).run P w = .ok false w) :
    (Op.equalIn (d + 2) t (.agg (nums k f n).toArray) (.agg (nums k g n).toArray)).run P w = .ok (gqB f g n) w := by
  rw [Op.equalIn]
  simp only [Sem.run_bind, run_underlying ht, Result.andThen_ok, hs]
  simp only [Std.Legacy.Range.forIn_eq_forIn_range']
  have hn : ([:n] : Std.Legacy.Range).size = n := by simp [Std.Legacy.Range.size]
  rw [hn]
  rw [gq_loop2 (w := w) (P := P) _ f g n 0 (fun i _ hi => ?_), Result.andThen_ok]
  · have er : gqB f g n = gqF f g 0 n := by
      rw [Bool.eq_iff_iff, gqF_iff]
      unfold gqB
      rw [decide_eq_true_iff]
      exact ⟨fun h i _ h2 => h i (by omega), fun h i h2 => h i (Nat.zero_le _) (by omega)⟩
    rw [er]
    cases gqF f g 0 n <;> rfl
  · have h1 : i < n := by omega
    have r1 := run_equalIn_int (P := P) w d e k k (f i) (g i) he
    by_cases q : f i = g i
    · rw [q] at r1
      simp [Sem.run_bind, run_part1 h1 hs ha, q, r1]
    · simp [Sem.run_bind, run_part1 h1 hs ha, r1, q]
theorem eq8 (f g : Nat → Int) (w : World) : (Op.equalIn 9999 24 (.agg #[.int .u8 (f 0), .int .u8 (f 1), .int .u8 (f 2), .int .u8 (f 3), .int .u8 (f 4), .int .u8 (f 5), .int .u8 (f 6), .int .u8 (f 7)]) (.agg #[.int .u8 (g 0), .int .u8 (g 1), .int .u8 (g 2), .int .u8 (g 3), .int .u8 (g 4), .int .u8 (g 5), .int .u8 (g 6), .int .u8 (g 7)])).run Tryd.prog w = .ok (gqB f g 8) w :=
  gq_nums2 (n := 8) f g 9997 Tryd.underlying24 Tryd.underlying5 (by simp [go_sem]) (by simp [go_sem])
/-- are two manifests the same? -/
def manB (mi mk ml : Int) (mg : Nat → Int) (mf mt ms mc : Int) (ni nk nl : Int) (ng : Nat → Int) (nf nt ns nc : Int) : Bool := (mi == ni) && ((mk == nk) && ((ml == nl) && (gqB mg ng 8 && ((mf == nf) && ((mt == nt) && ((ms == ns) && (mc == nc)))))))
theorem manB_iff (mi mk ml : Int) (mg : Nat → Int) (mf mt ms mc : Int) (ni nk nl : Int) (ng : Nat → Int) (nf nt ns nc : Int) : manB mi mk ml mg mf mt ms mc ni nk nl ng nf nt ns nc = true ↔ mi = ni ∧ mk = nk ∧ ml = nl ∧ (∀ j, j < 8 → mg j = ng j) ∧ mf = nf ∧ mt = nt ∧ ms = ns ∧ mc = nc := by
  unfold manB gqB
  simp only [Bool.and_eq_true, beq_iff_eq, decide_eq_true_eq]
set_option maxHeartbeats 4000000 in
theorem eqM (mi mk ml : Int) (mg : Nat → Int) (mf mt ms mc : Int) (ni nk nl : Int) (ng : Nat → Int) (nf nt ns nc : Int) (w : World) : (binOp .eql 26 (.agg #[.int .u64 mi, .int .i64 mk, .int .u32 ml, .int .u8 (mg 0), .int .u8 (mg 1), .int .u8 (mg 2), .int .u8 (mg 3), .int .u8 (mg 4), .int .u8 (mg 5), .int .u8 (mg 6), .int .u8 (mg 7), .int .u32 mf, .int .u32 mt, .int .i64 ms, .int .i64 mc]) (.agg #[.int .u64 ni, .int .i64 nk, .int .u32 nl, .int .u8 (ng 0), .int .u8 (ng 1), .int .u8 (ng 2), .int .u8 (ng 3), .int .u8 (ng 4), .int .u8 (ng 5), .int .u8 (ng 6), .int .u8 (ng 7), .int .u32 nf, .int .u32 nt, .int .i64 ns, .int .i64 nc])).run Tryd.prog w = .ok (.bool (manB mi mk ml mg mf mt ms mc ni nk nl ng nf nt ns nc)) w := by
  have h := eq8 mg ng w
  rw [run_eql_struct]
  unfold manB
  simp [go_sem, h]
  repeat' split
  all_goals simp_all
theorem neqM (mi mk ml : Int) (mg : Nat → Int) (mf mt ms mc : Int) (ni nk nl : Int) (ng : Nat → Int) (nf nt ns nc : Int) (w : World) : (binOp .neq 26 (.agg #[.int .u64 mi, .int .i64 mk, .int .u32 ml, .int .u8 (mg 0), .int .u8 (mg 1), .int .u8 (mg 2), .int .u8 (mg 3), .int .u8 (mg 4), .int .u8 (mg 5), .int .u8 (mg 6), .int .u8 (mg 7), .int .u32 mf, .int .u32 mt, .int .i64 ms, .int .i64 mc]) (.agg #[.int .u64 ni, .int .i64 nk, .int .u32 nl, .int .u8 (ng 0), .int .u8 (ng 1), .int .u8 (ng 2), .int .u8 (ng 3), .int .u8 (ng 4), .int .u8 (ng 5), .int .u8 (ng 6), .int .u8 (ng 7), .int .u32 nf, .int .u32 nt, .int .i64 ns, .int .i64 nc])).run Tryd.prog w = .ok (.bool (!manB mi mk ml mg mf mt ms mc ni nk nl ng nf nt ns nc)) w := by
  have h := eq8 mg ng w
  rw [run_neq_struct]
  unfold manB
  simp [go_sem, h]
  repeat' split
  all_goals simp_all
theorem manB_self (mi mk ml : Int) (mg : Nat → Int) (mf mt ms mc : Int) : manB mi mk ml mg mf mt ms mc mi mk ml mg mf mt ms mc = true := (manB_iff _ _ _ _ _ _ _ _ _ _ _ _ _ _ _ _).2 ⟨rfl, rfl, rfl, fun _ _ => rfl, rfl, rfl, rfl, rfl⟩
theorem eqMs (mi mk ml : Int) (mg : Nat → Int) (mf mt ms mc : Int) (w : World) : (binOp .eql 26 (.agg #[.int .u64 mi, .int .i64 mk, .int .u32 ml, .int .u8 (mg 0), .int .u8 (mg 1), .int .u8 (mg 2), .int .u8 (mg 3), .int .u8 (mg 4), .int .u8 (mg 5), .int .u8 (mg 6), .int .u8 (mg 7), .int .u32 mf, .int .u32 mt, .int .i64 ms, .int .i64 mc]) (.agg #[.int .u64 mi, .int .i64 mk, .int .u32 ml, .int .u8 (mg 0), .int .u8 (mg 1), .int .u8 (mg 2), .int .u8 (mg 3), .int .u8 (mg 4), .int .u8 (mg 5), .int .u8 (mg 6), .int .u8 (mg 7), .int .u32 mf, .int .u32 mt, .int .i64 ms, .int .i64 mc])).run Tryd.prog w = .ok (.bool true) w := by
  rw [eqM, manB_self]
theorem eqM0 (w : World) : (binOp .eql 26 (.agg #[.int .u64 0, .int .i64 0, .int .u32 0, .int .u8 0, .int .u8 0, .int .u8 0, .int .u8 0, .int .u8 0, .int .u8 0, .int .u8 0, .int .u8 0, .int .u32 0, .int .u32 0, .int .i64 0, .int .i64 0]) (.agg #[.int .u64 0, .int .i64 0, .int .u32 0, .int .u8 0, .int .u8 0, .int .u8 0, .int .u8 0, .int .u8 0, .int .u8 0, .int .u8 0, .int .u8 0, .int .u32 0, .int .u32 0, .int .i64 0, .int .i64 0])).run Tryd.prog w = .ok (.bool true) w := eqMs 0 0 0 (fun _ => 0) 0 0 0 0 w
end Go.Proofs.YtapkhecebglnlaaDoor
