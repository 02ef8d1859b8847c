/- mesh: readers in normal form; rows that are made and filled. -/
import Derived.Test.YtbhdlpndmbhaiaaSI
import Derived.Test.YtbhdlpndmbhaiaaDL
import Derived.Test.YtbhdlpndmbhaiaaDQ
import Derived.Lib.Hide
import Derived.Laws.MakeOwn
import Derived.Deep.Onto
namespace Go.Proofs.Ytbhdlpndmbhaiaa
set_option linter.unusedVariables false
set_option maxRecDepth 2000
set_option linter.unusedSimpArgs false
open Go.RowKit
/-- a Reader's error when t bytes have been asked for -/
def erN (N t : Nat) : Int := if t ≤ N then 0 else 4
/-- the number of the W bytes from t on, of N -/
def valN (F : Nat → Int) (N t W : Nat) : Int := if t + W ≤ N then leN (fun j => F (t + j)) W else 0
theorem in_valN {F : Nat → Int} {N : Nat} (hF : ∀ j, j < N → inB (F j)) (t W : Nat) : 0 ≤ valN F N t W ∧ valN F N t W < pw W := by
  unfold valN
  split
  · exact leN_lt _ _ fun j hj => hF _ (by omega)
  · exact ⟨by decide, pw_pos W⟩
theorem nxw_ok (W N at_ : Nat) (h1 : 1 ≤ W) (h8 : W ≤ 8) (h : at_ + W ≤ N) : nxE N at_ 0 (W : Int) 1 8 = 0 ∧ nxA at_ (W : Int) 0 = at_ + W := by
  constructor
  · unfold nxE
    rw [if_neg (by simp), if_neg (by omega), if_neg (by omega)]
  · simp [nxA]
theorem nxw_short (W N at_ : Nat) (h1 : 1 ≤ W) (h8 : W ≤ 8) (h : N - at_ < W) : nxE N at_ 0 (W : Int) 1 8 = 4 := by
  unfold nxE
  rw [if_neg (by simp), if_neg (by omega), if_pos (by omega)]
theorem nxw_err (N at_ : Nat) (x : Int) : nxE N at_ 4 x 1 8 = 4 := by
  unfold nxE
  rw [if_pos (by decide)]
/-- behind an error it plays no part where the Reader stands -/
theorem Rd.still {w : World} {K D N at_ : Nat} {er : Int} {F : Nat → Int} (h : Rd w K D F N at_ er) (he : er ≠ 0) (t : Nat) : Rd w K D F N t er := by
  obtain ⟨p, c, h1, h2, h3, h4⟩ := h.ex
  have l0 : ∀ s, leftN N s er = 0 := fun s => if_neg he
  refine ⟨p, c, ?_, ?_, ?_, h4⟩
  · rw [l0] at h1 ⊢
    exact h1
  · rw [l0]
    exact .inl rfl
  · rw [l0]
    exact Nat.zero_le _
theorem Num_next {K D N t : Nat} {F : Nat → Int} {w : World} (W T : Nat) (wd : Int) (ew : wd = (W : Int)) (eT : t + W = T) (h1 : 1 ≤ W) (h8 : W ≤ 8) (hF : ∀ j, j < N → inB (F j)) (h : Rd w K D F N t (erN N t)) :
    Calls Try.prog 29 #[.pointer (some ⟨K, 0, none⟩), .int .i64 wd] w fun e w' => e = .returned (.int .u64 (valN F N t W)) ∧ Rd w' K D F N T (erN N T) ∧ But K w w' := by
  subst ew
  subst eT
  have NA := Num_any (W : Int) hF h
  by_cases ht : t ≤ N
  · rw [show erN N t = 0 from if_pos ht] at NA
    by_cases hw : t + W ≤ N
    · rw [(nxw_ok W N t h1 h8 hw).1, (nxw_ok W N t h1 h8 hw).2] at NA
      rw [show erN N (t + W) = 0 from if_pos hw, show valN F N t W = leN (fun j => F (t + j)) W from if_pos hw]
      have e : numF F t (W : Int) 0 = leN (fun j => F (t + j)) W := by
        unfold numF
        rw [show nxL (W : Int) 0 = W by simp [nxL]]
      rw [e] at NA
      exact NA
    · rw [nxw_short W N t h1 h8 (by omega)] at NA
      rw [show erN N (t + W) = 4 from if_neg hw, show valN F N t W = 0 from if_neg hw]
      exact NA.mono fun e w' hh => ⟨hh.1, hh.2.1.still (by decide) _, hh.2.2⟩
  · have hw : ¬t + W ≤ N := by omega
    rw [show erN N t = 4 from if_neg ht, nxw_err] at NA
    rw [show erN N (t + W) = 4 from if_neg hw, show valN F N t W = 0 from if_neg hw]
    exact NA.mono fun e w' hh => ⟨hh.1, hh.2.1.still (by decide) _, hh.2.2⟩
/-- a store into a block that is newer than all that is spoken of -/
theorem But.news {K M o : Nat} {a b : World} {vs : List Value} (h : But K a b) (hM : a.heap.size ≤ M) (hK : K < a.heap.size) : But K a (b.setCells M o vs) :=
  ⟨Below.setCells h.below (by omega) vs o, fun i hi hn => (World.heap_setCells_other b M o vs (Nat.lt_of_lt_of_le hi h.below.size) (by omega)).trans (h.heap i hi hn)⟩
theorem res_two {P : Program} {fn : Func} {tmps : Array Value} {w : World} {r s T : Nat} {a : Addr} {v u : Value} (hf : fn.results = #[.cell r T, .tmp s]) (ha : tmps[r]?.getD undef = .pointer (some a)) (hl : (loadVar T a).run P w = .ok v w) (hs : tmps[s]?.getD undef = u) : (results fn tmps).run P w = .ok (.tuple #[v, u]) w := by
  subst hs
  have hx : (asAddr (Value.pointer (some a))).run P w = .ok a w := by simp [asAddr]
  simp [results, hf, ha, hx, hl]

/-- the signed number of the two bytes from t on, of N -/
def sgnN (F : Nat → Int) (N t : Nat) : Int := sgn (valN F N t 2) 2
theorem sgn_zero : sgn 0 2 = 0 := by decide
theorem sgn_none : sgn 0 0 = 0 := by decide
theorem in_sgnN {F : Nat → Int} {N : Nat} (hF : ∀ j, j < N → inB (F j)) (t : Nat) : -32768 ≤ sgnN F N t ∧ sgnN F N t ≤ 32767 := by
  have h := in_valN hF t 2
  have p := pw_vals.2.1
  unfold sgnN sgn
  split <;> omega
/-- the document's Reader when t bytes have been asked for -/
def RRn (w : World) (S D : Nat) (F : Nat → Int) (N t : Nat) : Prop := ∃ a, RRd w S D F N a (erN N t) ∧ (t ≤ N → a = t)
theorem RRn.lt {w : World} {S D N t : Nat} {F : Nat → Int} (h : RRn w S D F N t) : S < w.heap.size := by obtain ⟨a, h1, _⟩ := h; exact h1.lt
theorem RRn.later {w w' : World} {S D N t : Nat} {F : Nat → Int} (h : RRn w S D F N t) (hb : Below w.heap.size w w') : RRn w' S D F N t := by
  obtain ⟨a, h1, h2⟩ := h
  exact ⟨a, h1.later hb, h2⟩
theorem RRn.far {w w' : World} {S D N t K : Nat} {F : Nat → Int} (h : RRn w S D F N t) (hb : But K w w') (hS : S ≠ K) (hD : D ≠ K) : RRn w' S D F N t := by
  obtain ⟨a, h1, h2⟩ := h
  exact ⟨a, h1.far hb hS hD, h2⟩
theorem RNum_nx {S D N t : Nat} {F : Nat → Int} {w : World} (W T : Nat) (wd : Int) (ew : wd = (W : Int)) (eT : t + W = T) (h1 : 1 ≤ W) (h8 : W ≤ 8) (hF : ∀ j, j < N → inB (F j)) (h : RRn w S D F N t) :
    Calls Try.prog 33 #[.pointer (some ⟨S, 0, none⟩), .int .i64 wd] w fun e w' => e = .returned (.int .u64 (valN F N t W)) ∧ RRn w' S D F N T ∧ But S w w' := by
  subst ew
  subst eT
  obtain ⟨a, hr, ha⟩ := h
  have NA := RNum_any (W : Int) (by omega) hF hr
  by_cases ht : t ≤ N
  · obtain rfl := ha ht
    rw [show erN N a = 0 from if_pos ht] at NA
    by_cases hw : a + W ≤ N
    · rw [(nxw_ok W N a h1 h8 hw).1, (nxw_ok W N a h1 h8 hw).2] at NA
      rw [show valN F N a W = leN (fun j => F (a + j)) W from if_pos hw]
      have e : numF F a (W : Int) 0 = leN (fun j => F (a + j)) W := by
        unfold numF
        rw [show nxL (W : Int) 0 = W by simp [nxL]]
      rw [e] at NA
      exact NA.mono fun e w' hh => ⟨hh.1, ⟨a + W, by rw [show erN N (a + W) = 0 from if_pos hw]; exact hh.2.1, fun _ => rfl⟩, hh.2.2⟩
    · rw [nxw_short W N a h1 h8 (by omega)] at NA
      rw [show valN F N a W = 0 from if_neg hw]
      exact NA.mono fun e w' hh => ⟨hh.1, ⟨_, by rw [show erN N (a + W) = 4 from if_neg hw]; exact hh.2.1, fun h => absurd h hw⟩, hh.2.2⟩
  · have hw : ¬t + W ≤ N := by omega
    rw [show erN N t = 4 from if_neg ht, nxw_err] at NA
    rw [show valN F N t W = 0 from if_neg hw]
    exact NA.mono fun e w' hh => ⟨hh.1, ⟨_, by rw [show erN N (t + W) = 4 from if_neg hw]; exact hh.2.1, fun h => absurd h hw⟩, hh.2.2⟩
/-- the first c of G, and 0 -/
def uptoG (G : Nat → Int) (c j : Nat) : Int := if j < c then G j else 0
theorem over_uptoG (G : Nat → Int) (m c l : Nat) (vs : List Value) (hl : vs.length = l) (hv : ∀ i, i < l → vs[i]? = some (.int .i64 (G (c + i)))) (h : c + l ≤ m) : over (nums .i64 (uptoG G c) m) c vs = nums .i64 (uptoG G (c + l)) m := by
  apply List.ext_getElem?
  intro j
  unfold over
  by_cases hj : j < m
  · rw [nums_at _ _ hj]
    by_cases h1 : j < c
    · rw [List.append_assoc, List.getElem?_append_left (by rw [List.length_take, nums_length]; omega), List.getElem?_take_of_lt h1, nums_at _ _ hj]
      unfold uptoG
      rw [if_pos h1, if_pos (by omega)]
    · by_cases h2 : j < c + l
      · rw [List.getElem?_append_left (by rw [List.length_append, List.length_take, nums_length, hl]; omega), List.getElem?_append_right (by rw [List.length_take, nums_length]; omega), List.length_take, nums_length, Nat.min_eq_left (by omega), hv (j - c) (by omega)]
        unfold uptoG
        rw [if_pos h2, show c + (j - c) = j by omega]
      · rw [List.getElem?_append_right (by rw [List.length_append, List.length_take, nums_length, hl]; omega), List.length_append, List.length_take, nums_length, hl, Nat.min_eq_left (by omega), List.getElem?_drop, show c + l + (j - (c + l)) = j by omega, nums_at _ _ hj]
        unfold uptoG
        rw [if_neg h1, if_neg h2]
  · rw [nums_out _ _ (by omega)]
    apply List.getElem?_eq_none
    rw [List.length_append, List.length_append, List.length_take, nums_length, hl, List.length_drop, nums_length]
    omega
theorem uptoG_zero (G : Nat → Int) (m : Nat) : nums .i64 (uptoG G 0) m = nums .i64 (fun _ => 0) m := nums_congr .i64 fun j hj => if_neg (Nat.not_lt_zero j)
theorem uptoG_all (G : Nat → Int) (m : Nat) : nums .i64 (uptoG G m) m = nums .i64 G m := nums_congr .i64 fun j hj => if_pos hj
theorem made_zero {z : Array Value} (s n : Nat) (hs : z.size = s) (h0 : 0 < s) (hz : ∀ k, k < s → z[k]? = some (.int .i64 0)) : madeCells z n = (nums .i64 (fun _ => 0) n).toArray := by
  apply Array.ext'
  apply List.ext_getElem?
  intro j
  by_cases hj : j < n
  · rw [show (nums IntKind.i64 (fun _ => 0) n).toArray.toList = nums .i64 (fun _ => 0) n from rfl, nums_at _ _ hj]
    have hm : j % z.size < s := by rw [hs]; exact Nat.mod_lt _ h0
    have := hz _ hm
    simp [madeCells, hj]
    rw [Array.getElem!_eq_getD, Array.getD_eq_getD_getElem?, this]
    rfl
  · rw [show (nums IntKind.i64 (fun _ => 0) n).toArray.toList = nums .i64 (fun _ => 0) n from rfl, nums_out _ _ (by omega)]
    apply List.getElem?_eq_none
    simp [madeCells]
    omega
theorem mk_any (t e : TypeId) (s bytes : Nat) (z : Value) (ht : Try.prog.underlying t = some (.slice e)) (hinfo : (Try.prog.info? e).map (fun i => (i.zero, i.size, i.bytes)) = some (some z, s, bytes)) (hs : z.cells.size = s) (h0 : 0 < s) (hb : bytes ≤ 100) (hz : ∀ k, k < s → z.cells[k]? = some (.int .i64 0)) (kl : IntKind) (n : Nat) (hn : n ≤ 256) (w : World) :
    (Instr.makeSlice t (.int kl (n : Int)) (.int kl (n : Int))).run Try.prog w = .ok (.slice (some ⟨w.heap.size, 0, none⟩) n n) (w.alloc (.cells (nums .i64 (fun _ => 0) (n * s)).toArray e)) := by
  obtain ⟨i, hi, hzz⟩ := Option.map_eq_some_iff.1 hinfo
  simp only [Prod.mk.injEq] at hzz
  obtain ⟨hz0, hsz, hby⟩ := hzz
  have hbn : (i.bytes : Int) * (n : Int) ≤ 281474976710656 := by
    have : i.bytes * n ≤ 100 * 256 := Nat.mul_le_mul (by omega) hn
    have h2 : ((i.bytes * n : Nat) : Int) ≤ 281474976710656 := by omega
    rwa [Int.natCast_mul] at h2
  have hr := run_make (P := Try.prog) w t e i z ht hi hz0 kl kl n n (by omega) (Int.le_refl _) hbn (by omega)
  simp only [Int.toNat_natCast, hsz] at hr
  rw [hr, made_zero s (n * s) hs h0 hz]
theorem mkT (kl : IntKind) (n : Nat) (hn : n ≤ 256) (w : World) : (Instr.makeSlice 22 (.int kl (n : Int)) (.int kl (n : Int))).run Try.prog w = .ok (.slice (some ⟨w.heap.size, 0, none⟩) n n) (w.alloc (.cells (nums .i64 (fun _ => 0) (n * 3)).toArray 50)) :=
  mk_any _ _ 3 24 (.agg #[.int .i64 0, .int .i64 0, .int .i64 0]) Try.underlying22 (by kernel_rfl) rfl (by decide) (by decide) (fun k hk => match k, hk with | 0, _ => rfl | 1, _ => rfl | 2, _ => rfl) kl n hn w
end Go.Proofs.Ytbhdlpndmbhaiaa
