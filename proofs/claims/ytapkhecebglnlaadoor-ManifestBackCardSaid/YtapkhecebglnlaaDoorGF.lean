/- manifest: the bytes of a manifest, as numbers; what a function value of Encode does. -/
import Derived.Test.YtapkhecebglnlaaDoorGC
import Derived.Test.YtapkhecebglnlaaDoorDD
import Derived.Test.YtapkhecebglnlaaDoorDG
import Derived.Lib.Hide
import Derived.LoopN
import Derived.LoopTactic
import Derived.Deep.Onto
import Derived.Deep.RegionHeld3
import Derived.Deep.QuietTactic
import Derived.BigQuiet
namespace Go.Proofs.YtapkhecebglnlaaDoor
set_option linter.unusedVariables false
set_option maxRecDepth 2000
set_option linter.unusedSimpArgs false
open Go.RowKit
/-- the bytes of a manifest -/
def encF (mi mk ml : Int) (mg : Nat → Int) (mf mt ms mc : Int) (j : Nat) : Int := if j < 8 then dg mi j else if j < 9 then dg mk (j - 8) else if j < 13 then dg ml (j - 9) else if j < 21 then dg (mg (j - 13)) 0 else if j < 25 then dg mf (j - 21) else if j < 29 then dg mt (j - 25) else if j < 33 then dg ms (j - 29) else dg mc (j - 33)
theorem in_encF (mi mk ml : Int) (mg : Nat → Int) (mf mt ms mc : Int) (j : Nat) : inB (encF mi mk ml mg mf mt ms mc j) := by
  unfold encF
  repeat' split
  all_goals exact in_dg _ _
theorem enc_i (mi mk ml : Int) (mg : Nat → Int) (mf mt ms mc : Int) (j : Nat) (h : j < 8) : encF mi mk ml mg mf mt ms mc (0 + j) = dg mi j := by
  unfold encF
  rw [if_pos (by omega)]
  exact congrArg (dg mi) (by omega)
theorem enc_k (mi mk ml : Int) (mg : Nat → Int) (mf mt ms mc : Int) (j : Nat) (h : j < 1) : encF mi mk ml mg mf mt ms mc (8 + j) = dg mk j := by
  unfold encF
  rw [if_neg (by omega), if_pos (by omega)]
  exact congrArg (dg mk) (by omega)
theorem enc_l (mi mk ml : Int) (mg : Nat → Int) (mf mt ms mc : Int) (j : Nat) (h : j < 4) : encF mi mk ml mg mf mt ms mc (9 + j) = dg ml j := by
  unfold encF
  rw [if_neg (by omega), if_neg (by omega), if_pos (by omega)]
  exact congrArg (dg ml) (by omega)
theorem enc_f (mi mk ml : Int) (mg : Nat → Int) (mf mt ms mc : Int) (j : Nat) (h : j < 4) : encF mi mk ml mg mf mt ms mc (21 + j) = dg mf j := by
  unfold encF
  rw [if_neg (by omega), if_neg (by omega), if_neg (by omega), if_neg (by omega), if_pos (by omega)]
  exact congrArg (dg mf) (by omega)
theorem enc_t (mi mk ml : Int) (mg : Nat → Int) (mf mt ms mc : Int) (j : Nat) (h : j < 4) : encF mi mk ml mg mf mt ms mc (25 + j) = dg mt j := by
  unfold encF
  rw [if_neg (by omega), if_neg (by omega), if_neg (by omega), if_neg (by omega), if_neg (by omega), if_pos (by omega)]
  exact congrArg (dg mt) (by omega)
theorem enc_s (mi mk ml : Int) (mg : Nat → Int) (mf mt ms mc : Int) (j : Nat) (h : j < 4) : encF mi mk ml mg mf mt ms mc (29 + j) = dg ms j := by
  unfold encF
  rw [if_neg (by omega), if_neg (by omega), if_neg (by omega), if_neg (by omega), if_neg (by omega), if_neg (by omega), if_pos (by omega)]
  exact congrArg (dg ms) (by omega)
theorem enc_c (mi mk ml : Int) (mg : Nat → Int) (mf mt ms mc : Int) (j : Nat) (h : j < 2) : encF mi mk ml mg mf mt ms mc (33 + j) = dg mc j := by
  unfold encF
  rw [if_neg (by omega), if_neg (by omega), if_neg (by omega), if_neg (by omega), if_neg (by omega), if_neg (by omega), if_neg (by omega)]
  exact congrArg (dg mc) (by omega)
theorem enc_g (mi mk ml : Int) (mg : Nat → Int) (mf mt ms mc : Int) (k j : Nat) (hk : k < 8) (h : j < 1) : encF mi mk ml mg mf mt ms mc (13 + k + j) = dg (mg k) j := by
  unfold encF
  rw [if_neg (by omega), if_neg (by omega), if_neg (by omega), if_pos (by omega)]
  obtain rfl : j = 0 := by omega
  exact congrArg (fun i => dg (mg i) 0) (by omega)
/-- the numbers g, in W bytes each, are what E says from m on -/
def Fits (E : Nat → Int) (m W n : Nat) (g : Nat → Int) : Prop := ∀ k i, k < n → i < W → E (m + W * k + i) = dg (g k) i
theorem outF_fits {E : Nat → Int} {m W n : Nat} {g : Nat → Int} (h : Fits E m W n g) {j : Nat} (hj : j < m + W * n) : outF E m W g j = E j := by
  by_cases hm : j < m
  · exact outF_head _ _ _ _ hm
  · by_cases hW : W = 0
    · subst hW
      omega
    · have hd : W * ((j - m) / W) + (j - m) % W = j - m := Nat.div_add_mod _ _
      have hl : (j - m) % W < W := Nat.mod_lt _ (by omega)
      have hk : (j - m) / W < n := Nat.div_lt_of_lt_mul (by omega)
      have e := h _ _ hk hl
      have e2 := outF_dg E m W g ((j - m) / W) _ hl
      rw [show m + W * ((j - m) / W) + (j - m) % W = j by omega] at e e2
      rw [e2, e]
theorem fits_one {E : Nat → Int} {m W : Nat} {x : Int} (h : ∀ i, i < W → E (m + i) = dg x i) : Fits E m W 1 (fun _ => x) := fun k i hk hi => by
  obtain rfl : k = 0 := by omega
  rw [Nat.mul_zero, Nat.add_zero]
  exact h i hi
theorem dg_byte {z : Int} (h : inB z) : dg z 0 = z := by
  unfold dg inB at *
  rw [pw_zero]
  omega
theorem putE_fit (W n : Nat) (g : Nat → Int) (h1 : 1 ≤ W) (h8 : W ≤ 8) (h : ∀ k, k < n → fitU W (g k) = true) : putE fitU (W : Int) n g = 0 := by
  unfold putE badW
  rw [if_neg (by simp; omega), Int.toNat_natCast, allB_iff.2 h]
  rfl
theorem fitU_of {W : Nat} {z P : Int} (hP : pw W = P) (h : z < P) : fitU W z = true := by
  unfold fitU
  rw [hP]
  exact decide_eq_true h
/-- block B holds the slice of the first n bytes of E; they lie elsewhere -/
structure EncB (w : World) (B n : Nat) (E : Nat → Int) : Prop where
  ex : ∃ q c, Own B [.slice q n c] w ∧ BytN w q n E B ∧ n ≤ c ∧ c ≤ 9223372036854775807
theorem EncB.lt {w : World} {B n : Nat} {E : Nat → Int} (h : EncB w B n E) : B < w.heap.size := by
  obtain ⟨q, c, h1, _⟩ := h.ex
  exact h1.lt
theorem EncB.later {w w' : World} {B n : Nat} {E : Nat → Int} (h : EncB w B n E) (hb : Below w.heap.size w w') : EncB w' B n E := by
  obtain ⟨q, c, h1, h2, h3⟩ := h.ex
  exact ⟨q, c, h1.later hb, h2.later hb, h3⟩
/-- a row of one's own lies apart from an elder block -/
theorem bytN_row {w : World} {base n B : Nat} {e : TypeId} {q : Option Addr} {m c : Nat} {f : Nat → Int} (h : w.ownsRow base e 1 (.slice q m c) n (nums .u8 f n)) (hB : B < base) : BytN w q n f B := by
  by_cases h0 : n = 0
  · exact .inl h0
  · refine .inr ?_
    rcases (byt_of_row h).2.1 with h1 | ⟨b, off, rfl, h2⟩
    · exact absurd h1 h0
    · refine ⟨b, off, rfl, ?_, h2⟩
      rintro rfl
      have := row_ne h hB
      simp [Value.ownBlock] at this
theorem EncB.of_row {w : World} {base n B : Nat} {e : TypeId} {q : Option Addr} {m c : Nat} {f E : Nat → Int} (h : w.ownsRow base e 1 (.slice q m c) n (nums .u8 f n)) (hB : B < base) (hO : Own B [.slice q m c] w) (hf : ∀ j, j < n → f j = E j) : EncB w B n E := by
  obtain ⟨rfl, _, h3, h4⟩ := byt_of_row h
  refine ⟨q, c, hO, ?_, h3, h4⟩
  rcases bytN_row h hB with h5 | ⟨b, off, r1, r2, r3⟩
  · exact .inl h5
  · exact .inr ⟨b, off, r1, r2, by rw [← nums_congr .u8 hf]; exact r3⟩
set_option maxHeartbeats 4000000 in
theorem Step_any (B W n m N : Nat) (wd : Int) (ew : wd = (W : Int)) (eN : m + W * n = N) (p : Option Addr) (c2 : Nat) (g E : Nat → Int) (h1 : 1 ≤ W) (h8 : W ≤ 8) (hg : ∀ k, k < n → 0 ≤ g k ∧ g k ≤ 18446744073709551615 ∧ fitU W (g k) = true) (hE : Fits E m W n g) (hnc : n ≤ c2) (hc2 : c2 ≤ 9223372036854775807) (hm : m ≤ 1000) (hn : n ≤ 1000) (w : World) (hB : EncB w B m E) (hp : Nm w .u64 p n g) :
    Calls Tryd.prog 22 #[.int .i64 wd, .slice p n c2, .pointer (some ⟨B, 0, none⟩)] w fun e w' => e = .returned (.tuple #[]) ∧ EncB w' B N E ∧ But B w w' := by
  subst ew
  obtain ⟨q, c, hO, hq, hmc, hcx⟩ := hB.ex
  have E0 := putE_fit W n g h1 h8 (fun k hk => (hg k hk).2.2)
  have P1 := Lib.hid (fun w hq hp => Put_any q p m c n c2 (W : Int) E g (fun k hk => ⟨(hg k hk).1, (hg k hk).2.1⟩) hmc hcx hnc hc2 (by omega) w hq hp)
  rw [E0, Int.toNat_natCast, show putL m n (W : Int) 0 = m + W * n by simp [putL], eN] at P1
  have FE := Lib.hid (fun j (hj : j < N) => outF_fits hE (by rw [eN]; exact hj))
  have HQ := Lib.hid hq.byt; have HP := Lib.hid hp; have HO := Lib.hid hO
  have Bl := hO.lt
  have B0 := hO.at 0 _ rfl
  have BF := hO.ok 0 (by simp)
  clear h1 h8 hg hE hnc hc2 hm hn hB hp hq hmc hcx hO E0 eN
  go_enter Tryd.func22, Tryd.ntmps22
  go_wp2_with (fail)
  go_at_call 23
  refine (P1.out _ HQ.out HP.out).mono ?_
  rintro e w1 ⟨v, rfl, hrow, hb⟩
  obtain ⟨p1, d1, rfl, hd1⟩ := row_form hrow
  have O1 := HO.out.later hb
  have C0 := O1.ok 0 (by simp)
  have C1 := O1.at 0 _ rfl
  have Cl := O1.lt
  have OS : Own B [.slice p1 N d1] (w1.setCells B 0 [.slice p1 N d1]) := Own.store O1 rfl
  have ROW : (w1.setCells B 0 [.slice p1 N d1]).ownsRow w.heap.size 5 1 (.slice p1 N d1) N (nums .u8 (outF E m W g) N) := row_far hrow (row_ne hrow Bl) 0 _
  have RES := Lib.hid (EncB.of_row ROW Bl OS FE.out)
  have BT : But B w (w1.setCells B 0 [.slice p1 N d1]) := (But.of hb Bl).trans But.store
  have BT := Lib.hid BT
  clear hrow hb O1 OS ROW B0 BF P1 HQ HP HO FE
  go_wp2_with (fail)
  refine bodyPost_end (results_none rfl _ _ _) rfl ?_
  exact ⟨rfl, RES.out, BT.out⟩
end Go.Proofs.YtapkhecebglnlaaDoor
