/- sha.Compress. -/
import Derived.Test.YtajejlaoompieaaDoorHC
import Derived.Lib.Hide
import Derived.LoopN
import Derived.LoopTactic
import Derived.Deep.Onto
import Derived.Deep.QuietTactic
import Derived.BigQuiet
import Derived.Deep.WholeRow
namespace Go.Proofs.YtajejlaoompieaaDoor
set_option linter.unusedVariables false
set_option maxRecDepth 2000
set_option linter.unusedSimpArgs false
open Go.RowKit
theorem rnds_step (K W h : Nat → Int) (k : Nat) (a b c d e f g l t1 t2 n0 n4 : Int) (ha : rnds K W h k 0 = a) (hb : rnds K W h k 1 = b) (hc : rnds K W h k 2 = c) (hd : rnds K W h k 3 = d) (he : rnds K W h k 4 = e) (hf : rnds K W h k 5 = f) (hg : rnds K W h k 6 = g) (hl : rnds K W h k 7 = l)
    (h1 : t1F e f g l (K k) (W k) = t1) (h2 : t2F a b c = t2) (h0 : add32 t1 t2 = n0) (h4 : add32 d t1 = n4) :
    rnds K W h (k + 1) 0 = n0 ∧ rnds K W h (k + 1) 1 = a ∧ rnds K W h (k + 1) 2 = b ∧ rnds K W h (k + 1) 3 = c ∧ rnds K W h (k + 1) 4 = n4 ∧ rnds K W h (k + 1) 5 = e ∧ rnds K W h (k + 1) 6 = f ∧ rnds K W h (k + 1) 7 = g := by
  subst ha hb hc hd he hf hg hl h1 h2 h0 h4
  exact ⟨rfl, rfl, rfl, rfl, rfl, rfl, rfl, rfl⟩
theorem stU64 (w : World) (f : Nat → Int) (c : Array Value) (hc : c.size = 64) : (storeCells ⟨w.heap.size, 0, none⟩ (nums .u32 f 64)).run Tryd.prog (w.alloc (.cells c 32)) = .ok () (w.alloc (.cells (nums .u32 f 64).toArray 32)) :=
  run_storeCells_new (P := Tryd.prog) w 32 c (nums .u32 f 64).toArray (by rw [nums_size]; kernel_rfl) (by rw [nums_size, hc]) (nums_all _ _ _)
theorem not_form (e : Int) : bits .xor .u32 (if IntKind.u32.signed = true then -1 else IntKind.u32.max) e = bits .xor .u32 4294967295 e := rfl
attribute [local go_sem] nums_length stU64 not_form
def halfF (F G : Nat → Int) (k : Nat) : Nat → Int := fun j => if j < k then F j else G j
theorem half_zero (q : IntKind) (F G : Nat → Int) (N : Nat) : nums q (halfF F G 0) N = nums q G N := nums_congr _ fun j _ => if_neg (by omega)
theorem half_all (q : IntKind) (F G : Nat → Int) (N : Nat) : nums q (halfF F G N) N = nums q F N := nums_congr _ fun j hj => if_pos hj
theorem half_step (q : IntKind) (F G : Nat → Int) (n N : Nat) (v : Int) (hv : v = F n) : nums q (at1 (halfF F G n) n v) N = nums q (halfF F G (n + 1)) N := nums_congr _ fun j _ => by
  unfold at1 halfF
  by_cases h : j = n
  · rw [if_pos h, if_pos (by omega), h]; exact hv
  · rw [if_neg h]
    by_cases h2 : j < n
    · rw [if_pos h2, if_pos (by omega)]
    · rw [if_neg h2, if_neg (by omega)]
theorem half_at (F G : Nat → Int) (k : Nat) : halfF F G k k = G k := if_neg (by omega)
theorem index_u8 (s : Nat → Int) (k : Nat) (hk : k < 8) (w : World) : (Instr.index 28 (.agg (nums .u32 s 8).toArray) (.int .i64 k)).run Tryd.prog w = .ok (.int .u32 (s k)) w := match k, hk with
  | 0, _ => by kernel_rfl
  | 1, _ => by kernel_rfl
  | 2, _ => by kernel_rfl
  | 3, _ => by kernel_rfl
  | 4, _ => by kernel_rfl
  | 5, _ => by kernel_rfl
  | 6, _ => by kernel_rfl
  | 7, _ => by kernel_rfl

set_option maxHeartbeats 8000000 in
theorem Compress_any (hf bf : Nat → Int) (hh : ∀ j, j < 8 → in32 (hf j)) (hb : ∀ i, i < 64 → inB (bf i)) (w : World) (hg : Has 0 0 (nums .u32 kC 64) w) : Calls Tryd.prog 14 #[(.agg (nums .u32 hf 8).toArray), (.agg (nums .u8 bf 64).toArray)] w fun e w' => e = .returned (.agg (nums .u32 (compF kC hf bf) 8).toArray) ∧ Below w.heap.size w w' := by
  have IH := Lib.hid hh; have IB := Lib.hid hb; have HG := Lib.hid hg
  clear hb hh hg
  go_enter Tryd.func14, Tryd.ntmps14
  go_upto_region 1 with fail
  obtain ⟨W0, hW⟩ : ∃ W0, W0 = (((w.alloc (.cells (nums .u32 hf 8).toArray 28)).alloc (.cells (nums .u8 bf 64).toArray 29)).alloc (.cells #[.int .u32 0, .int .u32 0, .int .u32 0, .int .u32 0, .int .u32 0, .int .u32 0, .int .u32 0, .int .u32 0] 28)) := ⟨_, rfl⟩
  have hB0 : Below w.heap.size w W0 := hW ▸ (Below.al (Below.al (Below.al (Below.refl _ _))))
  have HH : Hid (Own w.heap.size (nums .u32 hf 8) W0) := Lib.hid (hW ▸ (show Own w.heap.size (nums .u32 hf 8) (w.alloc (.cells (nums .u32 hf 8).toArray 28)) from Own.newAt (by simp)).alloc.alloc)
  have HBk : Hid (Own (w.heap.size + 1) (nums .u8 bf 64) W0) := Lib.hid (hW ▸ (show Own (w.heap.size + 1) (nums .u8 bf 64) ((w.alloc (.cells (nums .u32 hf 8).toArray 28)).alloc (.cells (nums .u8 bf 64).toArray 29)) from Own.newAt (by simp)).alloc)
  have HR : Hid (Own ((w.heap.size + 1) + 1) (nums .u32 (fun _ => 0) 8) W0) := Lib.hid (hW ▸ (show Own ((w.heap.size + 1) + 1) (nums .u32 (fun _ => 0) 8) (((w.alloc (.cells (nums .u32 hf 8).toArray 28)).alloc (.cells (nums .u8 bf 64).toArray 29)).alloc (.cells #[.int .u32 0, .int .u32 0, .int .u32 0, .int .u32 0, .int .u32 0, .int .u32 0, .int .u32 0, .int .u32 0] 28)) from Own.newAt (by simp)))
  rw [← hW]
  clear hW
  obtain ⟨R, eR⟩ : ∃ X, X = ((w.heap.size + 1) + 1) := ⟨_, rfl⟩
  rw [← eR] at HR ⊢
  have Rw : w.heap.size ≤ R := by omega
  obtain ⟨B, eB⟩ : ∃ X, X = (w.heap.size + 1) := ⟨_, rfl⟩
  rw [← eB] at HBk ⊢
  have Bw : w.heap.size ≤ B := by omega
  obtain ⟨H, eH⟩ : ∃ X, X = w.heap.size := ⟨_, rfl⟩
  rw [← eH] at HH ⊢
  have Hw : w.heap.size ≤ H := by omega
  have nHB : H ≠ B := by omega
  have nBH : B ≠ H := by omega
  have nHR : H ≠ R := by omega
  have nRH : R ≠ H := by omega
  have nBR : B ≠ R := by omega
  have nRB : R ≠ B := by omega
  clear eH eB eR
  have HGk := Lib.hid (HG.out.later hB0)
  clear HG
  have HG := HGk
  clear HGk
  refine wp_region_lit ?_
  refine wpList_load_mid rfl 29 _ rfl B 0 rfl (nums .u8 bf 64) _ HBk.out.cell Tryd.underlying29 rfl (by kernel_rfl) ?_
  go_wp2_with (fail)
  go_at_call 26
  refine (schedule_any bf IB.out _).mono ?_
  rintro e w1 ⟨rfl, hb⟩
  go_upto_region 2 with fail
  have HGk := Lib.hid (HG.out.later hb)
  have HHk := Lib.hid (HH.out.later hb)
  have HRk := Lib.hid (HR.out.later hb)
  clear HG HH HR
  have HG := HGk
  clear HGk
  have HH := HHk
  clear HHk
  have HR := HRk
  clear HRk
  have hB1 := Below.go hB0 hb
  have nMx := HBk.out.lt
  clear hB0 hb HBk nHB nBH nBR nRB Bw nMx
  have hB0 := hB1
  clear hB1
  obtain ⟨W1, hW⟩ : ∃ W1, W1 = (w1.alloc (.cells (nums .u32 (sch bf 64) 64).toArray 32)) := ⟨_, rfl⟩
  have hBx : Below w1.heap.size w1 W1 := hW ▸ (Below.al (Below.refl _ _))
  have HS : Hid (Own w1.heap.size (nums .u32 (sch bf 64) 64) W1) := Lib.hid (hW ▸ (show Own w1.heap.size (nums .u32 (sch bf 64) 64) (w1.alloc (.cells (nums .u32 (sch bf 64) 64).toArray 32)) from Own.newAt (by simp)))
  rw [← hW]
  clear hW
  obtain ⟨S, eS⟩ : ∃ X, X = w1.heap.size := ⟨_, rfl⟩
  rw [← eS] at HS ⊢
  have Sw : w1.heap.size ≤ S := by omega
  clear eS
  have nSR : S ≠ R := by have := HR.out.lt; omega
  have nRS : R ≠ S := Ne.symm nSR
  have nSH : S ≠ H := by have := HH.out.lt; omega
  have nHS : H ≠ S := Ne.symm nSH
  have nS0 : S ≠ 0 := by have := HG.out.lt; omega
  have n0S : 0 ≠ S := Ne.symm nS0
  have Sw2 : w.heap.size ≤ S := by have := hB0.size; omega
  clear Sw
  have Sw := Sw2
  clear Sw2
  have HRk := Lib.hid (HR.out.later hBx)
  have HHk := Lib.hid (HH.out.later hBx)
  have HGk := Lib.hid (HG.out.later hBx)
  clear HR HH HG
  have HR := HRk
  clear HRk
  have HH := HHk
  clear HHk
  have HG := HGk
  clear HGk
  have hB0n := Below.go hB0 hBx
  clear hB0 hBx
  have hB0 := hB0n
  clear hB0n
  have oH := HH.out
  have H0 := oH.at 0 _ (nums_at .u32 hf (show 0 < 8 by decide))
  have H1 := oH.at 1 _ (nums_at .u32 hf (show 1 < 8 by decide))
  have H2 := oH.at 2 _ (nums_at .u32 hf (show 2 < 8 by decide))
  have H3 := oH.at 3 _ (nums_at .u32 hf (show 3 < 8 by decide))
  have H4 := oH.at 4 _ (nums_at .u32 hf (show 4 < 8 by decide))
  have H5 := oH.at 5 _ (nums_at .u32 hf (show 5 < 8 by decide))
  have H6 := oH.at 6 _ (nums_at .u32 hf (show 6 < 8 by decide))
  have H7 := oH.at 7 _ (nums_at .u32 hf (show 7 < 8 by decide))
  clear oH
  go_quiet (fail)
  have hBd : Below W1.heap.size W1 (W1.drewN nq) := below_drewN (Below.refl _ _) _
  clear H0 H1 H2 H3 H4 H5 H6 H7
  have HSk := Lib.hid (HS.out.later hBd)
  have HRk := Lib.hid (HR.out.later hBd)
  have HHk := Lib.hid (HH.out.later hBd)
  have HGk := Lib.hid (HG.out.later hBd)
  clear HS HR HH HG
  have HS := HSk
  clear HSk
  have HR := HRk
  clear HRk
  have HH := HHk
  clear HHk
  have HG := HGk
  clear HGk
  have hB1 := Lib.hid (Below.go hB0 hBd)
  clear hB0 hBd
  generalize W1.drewN nq = w2 at *
  go_wp2_with (fail)
  obtain ⟨K_, eK⟩ : ∃ K_, kC = K_ := ⟨_, rfl⟩
  have EK := Lib.hid eK
  rw [eK] at HG
  clear eK
  obtain ⟨W_, eW⟩ : ∃ W_, sch bf 64 = W_ := ⟨_, rfl⟩
  have EW := Lib.hid eW
  rw [eW] at HS ⊢
  clear eW
  go_loopw [37, 6, 7, 8, 9, 10, 11, 12, 13] (fun iv v0 v1 v2 v3 v4 v5 v6 v7 wr => ∃ (k : Nat), k ≤ 64 ∧ iv = .int .i64 k ∧ v0 = .int .u32 (rnds K_ W_ hf k 0) ∧ v1 = .int .u32 (rnds K_ W_ hf k 1) ∧ v2 = .int .u32 (rnds K_ W_ hf k 2) ∧ v3 = .int .u32 (rnds K_ W_ hf k 3) ∧ v4 = .int .u32 (rnds K_ W_ hf k 4) ∧ v5 = .int .u32 (rnds K_ W_ hf k 5) ∧ v6 = .int .u32 (rnds K_ W_ hf k 6) ∧ v7 = .int .u32 (rnds K_ W_ hf k 7) ∧ Hid (Below w.heap.size w wr) ∧ Hid (Own S (nums .u32 W_ 64) wr) ∧ Hid (Own R (nums .u32 (fun _ => 0) 8) wr) ∧ Hid (Own H (nums .u32 hf 8) wr) ∧ Hid (Has 0 0 (nums .u32 K_ 64) wr)) (fun iv _ _ _ _ _ _ _ _ _ => (64 - (intOf iv).toNat))
  case atStart => exact ⟨0, Nat.zero_le _, rfl, rfl, rfl, rfl, rfl, rfl, rfl, rfl, rfl, hB1, HS, HR, HH, HG⟩
  case round =>
    clear HS HR HH HG hB1
    obtain ⟨k, hk, rfl, rfl, rfl, rfl, rfl, rfl, rfl, rfl, rfl, HB, HS, HR, HH, HG⟩ := hrel
    by_cases hlt : k < 64
    · have IR := Lib.hid (in_rnds (K := K_) (W := W_) IH.out k)
      have Ia := Lib.hid (IR.out 0 (by decide))
      have Ib := Lib.hid (IR.out 1 (by decide))
      have Ic := Lib.hid (IR.out 2 (by decide))
      have Id := Lib.hid (IR.out 3 (by decide))
      have Ie := Lib.hid (IR.out 4 (by decide))
      have If := Lib.hid (IR.out 5 (by decide))
      have Ig := Lib.hid (IR.out 6 (by decide))
      have Il := Lib.hid (IR.out 7 (by decide))
      have RS := Lib.hid (rnds_step K_ W_ hf k)
      obtain ⟨a, ea⟩ : ∃ z, rnds K_ W_ hf k 0 = z := ⟨_, rfl⟩
      rw [ea] at Ia ⊢
      replace ea := Lib.hid ea
      obtain ⟨b, eb⟩ : ∃ z, rnds K_ W_ hf k 1 = z := ⟨_, rfl⟩
      rw [eb] at Ib ⊢
      replace eb := Lib.hid eb
      obtain ⟨c, ec⟩ : ∃ z, rnds K_ W_ hf k 2 = z := ⟨_, rfl⟩
      rw [ec] at Ic ⊢
      replace ec := Lib.hid ec
      obtain ⟨d, ed⟩ : ∃ z, rnds K_ W_ hf k 3 = z := ⟨_, rfl⟩
      rw [ed] at Id ⊢
      replace ed := Lib.hid ed
      obtain ⟨e, ee⟩ : ∃ z, rnds K_ W_ hf k 4 = z := ⟨_, rfl⟩
      rw [ee] at Ie ⊢
      replace ee := Lib.hid ee
      obtain ⟨f, ef⟩ : ∃ z, rnds K_ W_ hf k 5 = z := ⟨_, rfl⟩
      rw [ef] at If ⊢
      replace ef := Lib.hid ef
      obtain ⟨g, eg⟩ : ∃ z, rnds K_ W_ hf k 6 = z := ⟨_, rfl⟩
      rw [eg] at Ig ⊢
      replace eg := Lib.hid eg
      obtain ⟨l, el⟩ : ∃ z, rnds K_ W_ hf k 7 = z := ⟨_, rfl⟩
      rw [el] at Il ⊢
      replace el := Lib.hid el
      have VK := HG.out.at k _ (nums_at .u32 K_ hlt)
      have VW := HS.out.at k _ (nums_at .u32 W_ hlt)
      rw [Nat.zero_add] at VK
      obtain ⟨kk, ek⟩ : ∃ z, K_ k = z := ⟨_, rfl⟩
      obtain ⟨ww, ew⟩ : ∃ z, W_ k = z := ⟨_, rfl⟩
      rw [ek] at VK
      rw [ew] at VW
      obtain ⟨t1, et1⟩ : ∃ z, t1F e f g l kk ww = z := ⟨_, rfl⟩
      obtain ⟨t2, et2⟩ : ∃ z, t2F a b c = z := ⟨_, rfl⟩
      obtain ⟨n0, en0⟩ : ∃ z, add32 t1 t2 = z := ⟨_, rfl⟩
      obtain ⟨n4, en4⟩ : ∃ z, add32 d t1 = z := ⟨_, rfl⟩
      have RN := Lib.hid (RS.out a b c d e f g l t1 t2 n0 n4 ea.out eb.out ec.out ed.out ee.out ef.out eg.out el.out (by rw [ek, ew]; exact et1) et2 en0 en4)
      clear ek ew RS ea eb ec ed ee ef eg el IR
      obtain ⟨x1, f1⟩ : ∃ z, bits .xor .u32 (ror 6 e) (ror 11 e) = z := ⟨_, rfl⟩
      obtain ⟨x2, f2⟩ : ∃ z, bits .xor .u32 x1 (ror 25 e) = z := ⟨_, rfl⟩
      obtain ⟨p1, f3⟩ : ∃ z, (l + x2) % 4294967296 = z := ⟨_, rfl⟩
      obtain ⟨y1, f4⟩ : ∃ z, bits .and .u32 e f = z := ⟨_, rfl⟩
      obtain ⟨y2, f5⟩ : ∃ z, bits .xor .u32 4294967295 e = z := ⟨_, rfl⟩
      obtain ⟨y3, f6⟩ : ∃ z, bits .and .u32 y2 g = z := ⟨_, rfl⟩
      obtain ⟨y4, f7⟩ : ∃ z, bits .xor .u32 y1 y3 = z := ⟨_, rfl⟩
      obtain ⟨p2, f8⟩ : ∃ z, (p1 + y4) % 4294967296 = z := ⟨_, rfl⟩
      obtain ⟨p3, f9⟩ : ∃ z, (p2 + kk) % 4294967296 = z := ⟨_, rfl⟩
      have f10 : (p3 + ww) % 4294967296 = t1 := by rw [← f9, ← f8, ← f7, ← f6, ← f5, ← f4, ← f3, ← f2, ← f1]; exact et1
      obtain ⟨u1, g1⟩ : ∃ z, bits .xor .u32 (ror 2 a) (ror 13 a) = z := ⟨_, rfl⟩
      obtain ⟨u2, g2⟩ : ∃ z, bits .xor .u32 u1 (ror 22 a) = z := ⟨_, rfl⟩
      obtain ⟨v1, g3⟩ : ∃ z, bits .and .u32 a b = z := ⟨_, rfl⟩
      obtain ⟨v2, g4⟩ : ∃ z, bits .and .u32 a c = z := ⟨_, rfl⟩
      obtain ⟨v3, g5⟩ : ∃ z, bits .xor .u32 v1 v2 = z := ⟨_, rfl⟩
      obtain ⟨v4, g6⟩ : ∃ z, bits .and .u32 b c = z := ⟨_, rfl⟩
      obtain ⟨v5, g7⟩ : ∃ z, bits .xor .u32 v3 v4 = z := ⟨_, rfl⟩
      have g8 : (u2 + v5) % 4294967296 = t2 := by rw [← g7, ← g6, ← g5, ← g4, ← g3, ← g2, ← g1]; exact et2
      unfold add32 at en0 en4
      have h1 : IntKind.u32.wrap (l + x2) = p1 := (IntKind.wrap_u32' _).trans f3
      have h2 : IntKind.u32.wrap (p1 + y4) = p2 := (IntKind.wrap_u32' _).trans f8
      have h3 : IntKind.u32.wrap (p2 + kk) = p3 := (IntKind.wrap_u32' _).trans f9
      have h4 : IntKind.u32.wrap (p3 + ww) = t1 := (IntKind.wrap_u32' _).trans f10
      have h5 : IntKind.u32.wrap (u2 + v5) = t2 := (IntKind.wrap_u32' _).trans g8
      have h6 : IntKind.u32.wrap (t1 + t2) = n0 := (IntKind.wrap_u32' _).trans en0
      have h7 : IntKind.u32.wrap (d + t1) = n4 := (IntKind.wrap_u32' _).trans en4
      have hki : (k : Int) < 64 := by omega
      have k0 : (0 : Int) ≤ (k : Int) := by omega
      have wk : IntKind.i64.wrap ((k : Int) + 1) = (k : Int) + 1 := IntWalk.i64_in _ (by omega)
      have HLT := Lib.hid hlt
      clear hlt hk et1 et2
      go_wp2_with (fail)
      go_quiet (first | (go_at_call 27; first | (with_reducible refine Calls.quiet_of_same (rot6_sha e Ie.out _)) | (with_reducible refine Calls.quiet_of_same (rot11_sha e Ie.out _)) | (with_reducible refine Calls.quiet_of_same (rot25_sha e Ie.out _))))
      have hBd : Below wr.heap.size wr (wr.drewN nq) := below_drewN (Below.refl _ _) _
      clear VK VW
      have HSk := Lib.hid (HS.out.later hBd)
      have HRk := Lib.hid (HR.out.later hBd)
      have HHk := Lib.hid (HH.out.later hBd)
      have HGk := Lib.hid (HG.out.later hBd)
      clear HS HR HH HG
      have HS := HSk
      clear HSk
      have HR := HRk
      clear HRk
      have HH := HHk
      clear HHk
      have HG := HGk
      clear HGk
      have HBn := Lib.hid (Below.go HB.out hBd)
      clear HB hBd
      have HB := HBn
      clear HBn
      generalize wr.drewN nq = w3 at *
      go_wp2_with (fail)
      go_at_call 27
      refine (rot2_sha a Ia.out _).mono ?_
      rintro e_ wz ⟨rfl, rfl⟩
      go_wp2_with (fail)
      go_at_call 27
      refine (rot13_sha a Ia.out _).mono ?_
      rintro e_ wz ⟨rfl, rfl⟩
      go_wp2_with (fail)
      go_at_call 27
      refine (rot22_sha a Ia.out _).mono ?_
      rintro e_ wz ⟨rfl, rfl⟩
      go_wp2_with (fail)
      go_roundw
      case rel =>
        obtain ⟨r0, r1, r2, r3, r4, r5, r6, r7⟩ := RN.out
        rw [← r1, ← r2, ← r3, ← r5, ← r6, ← r7, ← r0, ← r4]
        (first | exact ⟨k + 1, HLT.out, by go_num, rfl, rfl, rfl, rfl, rfl, rfl, rfl, rfl, HB, HS, HR, HH, HG⟩ | ((repeat apply Exists.intro); exact ⟨⟨k + 1, HLT.out, by go_num, rfl, rfl, rfl, rfl, rfl, rfl, rfl, rfl, HB, HS, HR, HH, HG⟩, rfl⟩))
      case measure => (have := HLT.out; simp [intOf]; omega)
    · have e64 : k = 64 := by omega
      subst e64
      clear hlt hk
      go_wp2_with (fail)
      rw [show #[Value.int .u32 (rnds K_ W_ hf 64 0), Value.int .u32 (rnds K_ W_ hf 64 1), Value.int .u32 (rnds K_ W_ hf 64 2), Value.int .u32 (rnds K_ W_ hf 64 3), Value.int .u32 (rnds K_ W_ hf 64 4), Value.int .u32 (rnds K_ W_ hf 64 5), Value.int .u32 (rnds K_ W_ hf 64 6), Value.int .u32 (rnds K_ W_ hf 64 7)] = (nums .u32 (rnds K_ W_ hf 64) 8).toArray from rfl]
      have HX : Hid (∀ j, add32 (hf j) (rnds K_ W_ hf 64 j) = compF kC hf bf j) := Lib.hid fun j => by
        rw [← EK.out, ← EW.out]; unfold compF add32; rw [Int.add_comm]
      generalize rnds K_ W_ hf 64 = sf at *
      obtain ⟨cf, ecf⟩ : ∃ cf, compF kC hf bf = cf := ⟨_, rfl⟩
      rw [ecf] at HX
      replace ecf := Lib.hid ecf
      rw [← half_zero .u32 cf hf 8] at HH
      go_loopw [109] (fun iv wr => ∃ (k : Nat), k ≤ 8 ∧ iv = .int .i64 k ∧ Hid (Below w.heap.size w wr) ∧ Hid (Own R (nums .u32 (fun _ => 0) 8) wr) ∧ Hid (Own H (nums .u32 (halfF cf hf k) 8) wr)) (fun iv _ => (8 - (intOf iv).toNat))
      case atStart => exact ⟨0, Nat.zero_le _, rfl, HB, HR, HH⟩
      case round =>
        clear HS HR HH HG HB
        obtain ⟨k, hk, rfl, HB, HR, HH⟩ := hrel
        by_cases hlt : k < 8
        · have VH := HH.out.at k _ (nums_at .u32 _ hlt)
          have FH := HH.out.ok k (by rw [nums_length]; exact hlt)
          have Hl := HH.out.lt
          rw [half_at] at VH
          have hx := index_u8 sf k hlt wr
          have E := Lib.hid (HX.out k)
          generalize sf k = y at *
          generalize hf k = x at *
          obtain ⟨z, ez⟩ : ∃ z, add32 x y = z := ⟨_, rfl⟩
          rw [ez] at E
          have h1 : IntKind.u32.wrap (x + y) = z := (IntKind.wrap_u32' _).trans ez
          unfold add32 at ez
          have hki : (k : Int) < 8 := by omega
          have k0 : (0 : Int) ≤ (k : Int) := by omega
          have wk : IntKind.i64.wrap ((k : Int) + 1) = (k : Int) + 1 := IntWalk.i64_in _ (by omega)
          have HLT := Lib.hid hlt
          clear hlt hk
          go_wp2_with (fail)
          have e1 := half_step .u32 cf hf k 8 z E.out
          have O1 := Lib.hid (e1 ▸ own_set (v := z) HH.out HLT.out)
          have O2 := Lib.hid (Own.far (c := H) (o := k) (vs := [.int .u32 z]) HR.out nRH)
          have O3 := Lib.hid (Below.setCells HB.out Hw [.int .u32 z] k)
          clear E e1
          go_roundw
          case rel => (first | exact ⟨k + 1, HLT.out, by go_num, O3, O2, O1⟩ | ((repeat apply Exists.intro); exact ⟨⟨k + 1, HLT.out, by go_num, O3, O2, O1⟩, rfl⟩))
          case measure => (have := HLT.out; simp [intOf]; omega)
        · have e8 : k = 8 := by omega
          subst e8
          clear hlt hk
          rw [half_all] at HH
          go_upto_region 15 with fail
          have hB0 := HB.out
          refine wp_region_lit ?_
          refine wpList_load_mid rfl 28 _ rfl H 0 rfl (nums .u32 cf 8) _ HH.out.cell Tryd.underlying28 rfl (by kernel_rfl) ?_
          refine wpList_store_mid rfl 28 _ _ rfl R 0 (nums .u32 cf 8).toArray rfl rfl HR.out.free (by kernel_rfl) (nums_all _ _ _) ?_
          change wpList _ _ _ [] _ (wr.setCells R 0 (nums .u32 cf 8))
          have HRn : Hid (Own R (nums .u32 cf 8) (wr.setCells R 0 (nums .u32 cf 8))) := Lib.hid (Own.store HR.out (by simp [nums_length]))
          have HHn : Hid (Own H (nums .u32 cf 8) (wr.setCells R 0 (nums .u32 cf 8))) := Lib.hid (Own.far (o := 0) (vs := (nums .u32 cf 8)) HH.out nHR)
          have hB0n : Below w.heap.size w (wr.setCells R 0 (nums .u32 cf 8)) := Below.setCells hB0 Rw (nums .u32 cf 8) 0
          clear HR HH hB0
          generalize (wr.setCells R 0 (nums .u32 cf 8)) = wz at *
          have HR := HRn
          clear HRn
          have HH := HHn
          clear HHn
          have hB0 := hB0n
          clear hB0n
          go_wp2_with (fail)
          rw [ecf.out]
          have hL := run_loadVar_mid (P := Tryd.prog) _ R 0 28 (nums .u32 cf 8) _ HR.out.cell Tryd.underlying28 rfl (by kernel_rfl)
          exact bodyPost_ret (v := .agg (nums .u32 cf 8).toArray) (res_cell Tryd.results14 rfl hL) rfl ⟨rfl, hB0⟩
end Go.Proofs.YtajejlaoompieaaDoor
