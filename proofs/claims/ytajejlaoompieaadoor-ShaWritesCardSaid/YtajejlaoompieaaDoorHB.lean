/- SHA-256 in numbers. -/
import Derived.Test.YtajejlaoompieaaDoorHA
import Derived.Lib.Hide
namespace Go.Proofs.YtajejlaoompieaaDoor
set_option linter.unusedVariables false
set_option maxRecDepth 2000
set_option linter.unusedSimpArgs false
open Go.RowKit
def kC (i : Nat) : Int := [1116352408, 1899447441, 3049323471, 3921009573, 961987163, 1508970993, 2453635748, 2870763221, 3624381080, 310598401, 607225278, 1426881987, 1925078388, 2162078206, 2614888103, 3248222580, 3835390401, 4022224774, 264347078, 604807628, 770255983, 1249150122, 1555081692, 1996064986, 2554220882, 2821834349, 2952996808, 3210313671, 3336571891, 3584528711, 113926993, 338241895, 666307205, 773529912, 1294757372, 1396182291, 1695183700, 1986661051, 2177026350, 2456956037, 2730485921, 2820302411, 3259730800, 3345764771, 3516065817, 3600352804, 4094571909, 275423344, 430227734, 506948616, 659060556, 883997877, 958139571, 1322822218, 1537002063, 1747873779, 1955562222, 2024104815, 2227730452, 2361852424, 2428436474, 2756734187, 3204031479, 3329325298].getD i 0
def hC (i : Nat) : Int := [1779033703, 3144134277, 1013904242, 2773480762, 1359893119, 2600822924, 528734635, 1541459225].getD i 0
theorem in32_list (l : List Int) (h : l.all (fun x => decide (0 ≤ x ∧ x < 4294967296)) = true) (i : Nat) : in32 (l.getD i 0) := by
  unfold in32
  rw [List.getD_eq_getElem?_getD]
  by_cases hi : i < l.length
  · rw [List.getElem?_eq_getElem hi]
    have := List.all_eq_true.1 h l[i] (List.getElem_mem hi)
    simpa using this
  · rw [List.getElem?_eq_none (by omega)]
    simp
theorem in_kC (i : Nat) : in32 (kC i) := in32_list _ (by decide +kernel) i
theorem in_hC (i : Nat) : in32 (hC i) := in32_list _ (by decide +kernel) i
def xoU (x y : Int) : Int := bits .xor .u32 x y
def anU (x y : Int) : Int := bits .and .u32 x y
theorem in_wrapU (x : Int) : in32 (IntKind.u32.wrap x) := by unfold in32; rw [IntKind.wrap_u32']; omega
theorem in_xoU {x y : Int} (hx : in32 x) (hy : in32 y) : in32 (xoU x y) := by
  unfold xoU in32 at *
  rw [u32_xor x y hx.1 hx.2 hy.1 hy.2]
  have h := Nat.xor_lt_two_pow (n := 32) (x := x.toNat) (y := y.toNat) (by omega) (by omega)
  omega
theorem in_anU {x y : Int} (hx : in32 x) (hy : in32 y) : in32 (anU x y) := by
  unfold anU in32 at *
  rw [u32_and x y hx.1 hx.2 hy.1 hy.2]
  have h : x.toNat &&& y.toNat ≤ x.toNat := Nat.and_le_left
  omega
def shU (x : Int) (n : Nat) : Int := x / ((2 ^ n : Nat) : Int)
def big1 (e : Int) : Int := xoU (xoU (ror 6 e) (ror 11 e)) (ror 25 e)
def big0 (a : Int) : Int := xoU (xoU (ror 2 a) (ror 13 a)) (ror 22 a)
def sma0 (x : Int) : Int := xoU (xoU (ror 7 x) (ror 18 x)) (x / 8)
def sma1 (x : Int) : Int := xoU (xoU (ror 17 x) (ror 19 x)) (x / 1024)
def cho (e f g : Int) : Int := xoU (anU e f) (anU (xoU 4294967295 e) g)
def maj (a b c : Int) : Int := xoU (xoU (anU a b) (anU a c)) (anU b c)
def t1F (e f g hh k w : Int) : Int := add32 (add32 (add32 (add32 hh (big1 e)) (cho e f g)) k) w
def t2F (a b c : Int) : Int := add32 (big0 a) (maj a b c)
/-- a round of the eight numbers -/
def stp (s : Nat → Int) (k w : Int) (j : Nat) : Int :=
  if j = 0 then add32 (t1F (s 4) (s 5) (s 6) (s 7) k w) (t2F (s 0) (s 1) (s 2)) else if j = 4 then add32 (s 3) (t1F (s 4) (s 5) (s 6) (s 7) k w) else s (j - 1)
def rnds (K W h : Nat → Int) : Nat → Nat → Int
  | 0 => h
  | i + 1 => stp (rnds K W h i) (K i) (W i)
theorem in_rnds {K W h : Nat → Int} (hh : ∀ j, j < 8 → in32 (h j)) : ∀ i j, j < 8 → in32 (rnds K W h i j)
  | 0, j, hj => hh j hj
  | i + 1, j, hj => by
    show in32 (stp (rnds K W h i) (K i) (W i) j)
    unfold stp
    split
    · exact in_add32 _ _
    · split
      · exact in_add32 _ _
      · exact in_rnds hh i (j - 1) (by omega)
/-- the i-th number of a block, most significant byte first -/
def be (b : Nat → Int) (i : Nat) : Int := 16777216 * b (4 * i) + 65536 * b (4 * i + 1) + 256 * b (4 * i + 2) + b (4 * i + 3)
def newW (f : Nat → Int) (i : Nat) : Int := add32 (add32 (add32 (sma1 (f (i - 2))) (f (i - 7))) (sma0 (f (i - 15)))) (f (i - 16))
def sch (b : Nat → Int) : Nat → Nat → Int
  | 0 => fun _ => 0
  | n + 1 => at1 (sch b n) n (if n < 16 then be b n else newW (sch b n) n)
theorem in_be {b : Nat → Int} (hb : ∀ i, i < 64 → inB (b i)) {i : Nat} (hi : i < 16) : in32 (be b i) := by
  have h0 := hb (4 * i) (by omega); have h1 := hb (4 * i + 1) (by omega); have h2 := hb (4 * i + 2) (by omega); have h3 := hb (4 * i + 3) (by omega)
  unfold in32 be inB at *
  omega
theorem in_sch {b : Nat → Int} (hb : ∀ i, i < 64 → inB (b i)) : ∀ n i, in32 (sch b n i)
  | 0, _ => by unfold sch in32; decide
  | n + 1, i => by
    unfold sch at1
    split
    · split
      · exact in_be hb (by assumption)
      · exact in_add32 _ _
    · exact in_sch hb n i
def compF (K h b : Nat → Int) (i : Nat) : Int := add32 (rnds K (sch b 64) h 64 i) (h i)
theorem in_compF (K h b : Nat → Int) (i : Nat) : in32 (compF K h b i) := in_add32 _ _
/-- the value after the first k blocks -/
def chF (g : Nat → Int) : Nat → Nat → Int
  | 0 => hC
  | k + 1 => compF kC (chF g k) (fun j => g (64 * k + j))
theorem in_chF (g : Nat → Int) : ∀ k i, in32 (chF g k i)
  | 0, i => in_hC i
  | k + 1, i => in_compF _ _ _ i
/-- what depends on the numbers alone that are asked -/
theorem sch_congr {b b' : Nat → Int} (h : ∀ i, i < 64 → b i = b' i) : ∀ n, sch b n = sch b' n
  | 0 => rfl
  | n + 1 => by
    unfold sch
    rw [sch_congr h n]
    by_cases hn : n < 16
    · rw [if_pos hn, if_pos hn, be, be, h _ (by omega), h _ (by omega), h _ (by omega), h _ (by omega)]
    · rw [if_neg hn, if_neg hn]
theorem stp_congr {s s' : Nat → Int} (h : ∀ j, j < 8 → s j = s' j) (k w : Int) (j : Nat) (hj : j < 8) : stp s k w j = stp s' k w j := by
  unfold stp
  rw [h 0 (by omega), h 1 (by omega), h 2 (by omega), h 3 (by omega), h 4 (by omega), h 5 (by omega), h 6 (by omega), h 7 (by omega)]
  split
  · rfl
  · split
    · rfl
    · exact h _ (by omega)
theorem rnds_congr {K K' W W' h h' : Nat → Int} (hK : ∀ i, i < 64 → K i = K' i) (hW : ∀ i, i < 64 → W i = W' i) (hh : ∀ j, j < 8 → h j = h' j) : ∀ i, i ≤ 64 → ∀ j, j < 8 → rnds K W h i j = rnds K' W' h' i j
  | 0, _, j, hj => hh j hj
  | i + 1, hi, j, hj => by
    show stp (rnds K W h i) (K i) (W i) j = stp (rnds K' W' h' i) (K' i) (W' i) j
    rw [hK i (by omega), hW i (by omega)]
    exact stp_congr (rnds_congr hK hW hh i (by omega)) _ _ j hj
theorem compF_congr {K K' h h' b b' : Nat → Int} (hK : ∀ i, i < 64 → K i = K' i) (hh : ∀ j, j < 8 → h j = h' j) (hb : ∀ i, i < 64 → b i = b' i) (j : Nat) (hj : j < 8) : compF K h b j = compF K' h' b' j := by
  unfold compF
  rw [rnds_congr hK (fun i _ => by rw [sch_congr hb]) hh 64 (Nat.le_refl _) j hj, hh j hj]
theorem chF_congr {g g' : Nat → Int} : ∀ k, (∀ j, j < 64 * k → g j = g' j) → ∀ j, j < 8 → chF g k j = chF g' k j
  | 0, _, _, _ => rfl
  | k + 1, h, j, hj => compF_congr (fun _ _ => rfl) (chF_congr k (fun j hj => h j (by omega))) (fun i hi => h _ (by omega)) j hj
/-- padding -/
def zer (n : Nat) : Nat := (119 - n % 64) % 64
def plen (n : Nat) : Nat := 9 + zer n
theorem zer_lt (n : Nat) : zer n < 64 := by unfold zer; omega
theorem plen_whole (n : Nat) : (n + plen n) % 64 = 0 := by unfold plen zer; omega
def lenW (n : Nat) : Int := 8 * (n : Int) % 18446744073709551616
def padF (n : Nat) (j : Nat) : Int := if j = 0 then 128 else if j < 1 + zer n then 0 else lenW n / ((2 ^ (56 - 8 * (j - 1 - zer n)) : Nat) : Int) % 256
theorem in_padF (n j : Nat) : inB (padF n j) := by
  unfold padF inB
  split
  · decide
  · split
    · decide
    · omega
def padded (g : Nat → Int) (n : Nat) (j : Nat) : Int := if j < n then g j else padF n (j - n)
theorem in_padded {g : Nat → Int} {n : Nat} (h : ∀ j, j < n → inB (g j)) (j : Nat) : inB (padded g n j) := by
  unfold padded
  split
  · exact h j (by assumption)
  · exact in_padF _ _
def byteOf (v : Nat → Int) (i : Nat) : Int := v (i / 4) / ((2 ^ (24 - 8 * (i % 4)) : Nat) : Int) % 256
theorem in_byteOf (v : Nat → Int) (i : Nat) : inB (byteOf v i) := by unfold byteOf inB; omega
def sumF (g : Nat → Int) (n : Nat) : Nat → Int := byteOf (chF (padded g n) ((n + plen n) / 64))
theorem sumF_congr {g g' : Nat → Int} {n : Nat} (h : ∀ j, j < n → g j = g' j) (i : Nat) (hi : i < 32) : sumF g n i = sumF g' n i := by
  unfold sumF byteOf
  rw [chF_congr _ (fun j _ => ?_) (i / 4) (by omega)]
  unfold padded
  split
  · exact h j (by assumption)
  · rfl
/-- a digit of a byte -/
def digF (x : Int) : Int := if x < 10 then 48 + x else 87 + x
def hexF (f : Nat → Int) (i : Nat) : Int := if i % 2 = 0 then digF (f (i / 2) / 16) else digF (f (i / 2) % 16)
theorem in_hexF {f : Nat → Int} {n : Nat} (h : ∀ j, j < n → inB (f j)) (i : Nat) (hi : i < 2 * n) : inB (hexF f i) := by
  have := h (i / 2) (by omega)
  unfold hexF digF inB at *
  split <;> split <;> omega
end Go.Proofs.YtajejlaoompieaaDoor
