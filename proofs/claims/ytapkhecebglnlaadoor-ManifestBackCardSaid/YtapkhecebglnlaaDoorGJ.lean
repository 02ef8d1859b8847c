/- manifest: reading number after number; a manifest's fields out of bytes, as numbers. -/
import Derived.Test.YtapkhecebglnlaaDoorGF
import Derived.Test.YtapkhecebglnlaaDoorDL
import Derived.Lib.Hide
import Derived.LoopN
import Derived.LoopTactic
import Derived.Deep.Onto
import Derived.Deep.RegionHeld3
import Derived.Deep.QuietTactic
import Derived.BigQuiet
namespace Go.Proofs.YtapkhecebglnlaaDoor
set_option linter.unusedVariables false
set_option maxRecDepth 2000
set_option linter.unusedSimpArgs false
open Go.RowKit
/-- a Reader's error when t bytes have been asked for -/
def erN (N t : Nat) : Int := if t ≤ N then 0 else 4
/-- the number of the W bytes from t on, of N -/
def valN (F : Nat → Int) (N t W : Nat) : Int := if t + W ≤ N then leN (fun j => F (t + j)) W else 0
theorem in_valN {F : Nat → Int} {N : Nat} (hF : ∀ j, j < N → inB (F j)) (t W : Nat) : 0 ≤ valN F N t W ∧ valN F N t W < pw W := by
  unfold valN
  split
  · exact leN_lt _ _ fun j hj => hF _ (by omega)
  · exact ⟨by decide, pw_pos W⟩
theorem nxw_ok (W N at_ : Nat) (h1 : 1 ≤ W) (h8 : W ≤ 8) (h : at_ + W ≤ N) : nxE N at_ 0 (W : Int) 1 8 = 0 ∧ nxA at_ (W : Int) 0 = at_ + W := by
  constructor
  · unfold nxE
    rw [if_neg (by simp), if_neg (by omega), if_neg (by omega)]
  · simp [nxA]
theorem nxw_short (W N at_ : Nat) (h1 : 1 ≤ W) (h8 : W ≤ 8) (h : N - at_ < W) : nxE N at_ 0 (W : Int) 1 8 = 4 := by
  unfold nxE
  rw [if_neg (by simp), if_neg (by omega), if_pos (by omega)]
theorem nxw_err (N at_ : Nat) (x : Int) : nxE N at_ 4 x 1 8 = 4 := by
  unfold nxE
  rw [if_pos (by decide)]
/-- behind an error it plays no part where the Reader stands -/
theorem Rd.still {w : World} {K D N at_ : Nat} {er : Int} {F : Nat → Int} (h : Rd w K D F N at_ er) (he : er ≠ 0) (t : Nat) : Rd w K D F N t er := by
  obtain ⟨p, c, h1, h2, h3, h4⟩ := h.ex
  have l0 : ∀ s, leftN N s er = 0 := fun s => if_neg he
  refine ⟨p, c, ?_, ?_, ?_, h4⟩
  · rw [l0] at h1 ⊢
    exact h1
  · rw [l0]
    exact .inl rfl
  · rw [l0]
    exact Nat.zero_le _
theorem Num_next {K D N t : Nat} {F : Nat → Int} {w : World} (W T : Nat) (wd : Int) (ew : wd = (W : Int)) (eT : t + W = T) (h1 : 1 ≤ W) (h8 : W ≤ 8) (hF : ∀ j, j < N → inB (F j)) (h : Rd w K D F N t (erN N t)) :
    Calls Tryd.prog 33 #[.pointer (some ⟨K, 0, none⟩), .int .i64 wd] w fun e w' => e = .returned (.int .u64 (valN F N t W)) ∧ Rd w' K D F N T (erN N T) ∧ But K w w' := by
  subst ew
  subst eT
  have NA := Num_any (W : Int) hF h
  by_cases ht : t ≤ N
  · rw [show erN N t = 0 from if_pos ht] at NA
    by_cases hw : t + W ≤ N
    · rw [(nxw_ok W N t h1 h8 hw).1, (nxw_ok W N t h1 h8 hw).2] at NA
      rw [show erN N (t + W) = 0 from if_pos hw, show valN F N t W = leN (fun j => F (t + j)) W from if_pos hw]
      have e : numF F t (W : Int) 0 = leN (fun j => F (t + j)) W := by
        unfold numF
        rw [show nxL (W : Int) 0 = W by simp [nxL]]
      rw [e] at NA
      exact NA
    · rw [nxw_short W N t h1 h8 (by omega)] at NA
      rw [show erN N (t + W) = 4 from if_neg hw, show valN F N t W = 0 from if_neg hw]
      exact NA.mono fun e w' hh => ⟨hh.1, hh.2.1.still (by decide) _, hh.2.2⟩
  · have hw : ¬t + W ≤ N := by omega
    rw [show erN N t = 4 from if_neg ht, nxw_err] at NA
    rw [show erN N (t + W) = 4 from if_neg hw, show valN F N t W = 0 from if_neg hw]
    exact NA.mono fun e w' hh => ⟨hh.1, hh.2.1.still (by decide) _, hh.2.2⟩
/-- a store into a block that is newer than all that is spoken of -/
theorem But.news {K M o : Nat} {a b : World} {vs : List Value} (h : But K a b) (hM : a.heap.size ≤ M) (hK : K < a.heap.size) : But K a (b.setCells M o vs) :=
  ⟨Below.setCells h.below (by omega) vs o, fun i hi hn => (World.heap_setCells_other b M o vs (Nat.lt_of_lt_of_le hi h.below.size) (by omega)).trans (h.heap i hi hn)⟩
/-- the masks -/
def mskN (F : Nat → Int) (N j : Nat) : Int := valN F N (13 + j) 1
/-- the first k of G, and 0 -/
def mskF (G : Nat → Int) (k j : Nat) : Int := if j < k then G j else 0
theorem msk_over (mi mk ml : Int) (G : Nat → Int) (mf mt ms mc : Int) (k : Nat) (hk : k < 8) : over [.int .u64 mi, .int .i64 mk, .int .u32 ml, .int .u8 ((mskF G k) 0), .int .u8 ((mskF G k) 1), .int .u8 ((mskF G k) 2), .int .u8 ((mskF G k) 3), .int .u8 ((mskF G k) 4), .int .u8 ((mskF G k) 5), .int .u8 ((mskF G k) 6), .int .u8 ((mskF G k) 7), .int .u32 mf, .int .u32 mt, .int .i64 ms, .int .i64 mc] (3 + k) [.int .u8 (G k)] = [.int .u64 mi, .int .i64 mk, .int .u32 ml, .int .u8 ((mskF G (k + 1)) 0), .int .u8 ((mskF G (k + 1)) 1), .int .u8 ((mskF G (k + 1)) 2), .int .u8 ((mskF G (k + 1)) 3), .int .u8 ((mskF G (k + 1)) 4), .int .u8 ((mskF G (k + 1)) 5), .int .u8 ((mskF G (k + 1)) 6), .int .u8 ((mskF G (k + 1)) 7), .int .u32 mf, .int .u32 mt, .int .i64 ms, .int .i64 mc] := match k, hk with
  | 0, _ => rfl
  | 1, _ => rfl
  | 2, _ => rfl
  | 3, _ => rfl
  | 4, _ => rfl
  | 5, _ => rfl
  | 6, _ => rfl
  | 7, _ => rfl
theorem msk_end (mi mk ml : Int) (G : Nat → Int) (mf mt ms mc : Int) : ([.int .u64 mi, .int .i64 mk, .int .u32 ml, .int .u8 ((mskF G 8) 0), .int .u8 ((mskF G 8) 1), .int .u8 ((mskF G 8) 2), .int .u8 ((mskF G 8) 3), .int .u8 ((mskF G 8) 4), .int .u8 ((mskF G 8) 5), .int .u8 ((mskF G 8) 6), .int .u8 ((mskF G 8) 7), .int .u32 mf, .int .u32 mt, .int .i64 ms, .int .i64 mc] : List Value) = [.int .u64 mi, .int .i64 mk, .int .u32 ml, .int .u8 (G 0), .int .u8 (G 1), .int .u8 (G 2), .int .u8 (G 3), .int .u8 (G 4), .int .u8 (G 5), .int .u8 (G 6), .int .u8 (G 7), .int .u32 mf, .int .u32 mt, .int .i64 ms, .int .i64 mc] := rfl
theorem msk_start (mi mk ml : Int) (G : Nat → Int) (mf mt ms mc : Int) : ([.int .u64 mi, .int .i64 mk, .int .u32 ml, .int .u8 ((mskF G 0) 0), .int .u8 ((mskF G 0) 1), .int .u8 ((mskF G 0) 2), .int .u8 ((mskF G 0) 3), .int .u8 ((mskF G 0) 4), .int .u8 ((mskF G 0) 5), .int .u8 ((mskF G 0) 6), .int .u8 ((mskF G 0) 7), .int .u32 mf, .int .u32 mt, .int .i64 ms, .int .i64 mc] : List Value) = [.int .u64 mi, .int .i64 mk, .int .u32 ml, .int .u8 ((fun _ => 0) 0), .int .u8 ((fun _ => 0) 1), .int .u8 ((fun _ => 0) 2), .int .u8 ((fun _ => 0) 3), .int .u8 ((fun _ => 0) 4), .int .u8 ((fun _ => 0) 5), .int .u8 ((fun _ => 0) 6), .int .u8 ((fun _ => 0) 7), .int .u32 mf, .int .u32 mt, .int .i64 ms, .int .i64 mc] := rfl
end Go.Proofs.YtapkhecebglnlaaDoor
