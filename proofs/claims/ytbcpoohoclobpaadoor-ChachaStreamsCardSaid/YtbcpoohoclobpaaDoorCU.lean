/- ChachaLater: the walk. -/
import Derived.Test.YtbcpoohoclobpaaDoorCT
import Derived.Test.YtbcpoohoclobpaaDoorCL
import Derived.Test.YtbcpoohoclobpaaDoorCO
import Derived.Deep.Onto
namespace Go.Proofs.YtbcpoohoclobpaaDoor
set_option linter.unusedVariables false
set_option maxRecDepth 2000
set_option linter.unusedSimpArgs false
open Go.RowKit
/-- a key, a counter, a nonce as one struct's cells -/
def seedC (kf : Nat → Int) (c : Int) (nf : Nat → Int) : List Value := nums .u8 kf 32 ++ (.int .u32 c :: nums .u8 nf 12)
theorem seed_len (kf : Nat → Int) (c : Int) (nf : Nat → Int) : (seedC kf c nf).length = 45 := by simp [seedC, nums_length]
theorem seed_key {D : Nat} {kf nf : Nat → Int} {c : Int} {W : World} (h : Has D 0 (seedC kf c nf) W) : Has D 0 (nums .u8 kf 32) W := ⟨h.lt, fun j v hj => h.cell j v (by
  have : j < 32 := by have := (List.getElem?_eq_some_iff.1 hj).1; rwa [nums_length] at this
  rw [seedC, List.getElem?_append_left (by rw [nums_length]; exact this)]; exact hj)⟩
theorem seed_ctr {D : Nat} {kf nf : Nat → Int} {c : Int} {W : World} (h : Has D 0 (seedC kf c nf) W) : W.cell? ⟨D, 32, none⟩ = some (.int .u32 c) := by
  have := h.cell 32 (.int .u32 c) (by rw [seedC, List.getElem?_append_right (by rw [nums_length]; exact Nat.le_refl _), nums_length]; rfl)
  rwa [Nat.zero_add] at this
theorem seed_non {D : Nat} {kf nf : Nat → Int} {c : Int} {W : World} (h : Has D 0 (seedC kf c nf) W) : Has D 33 (nums .u8 nf 12) W := ⟨h.lt, fun j v hj => by
  have := h.cell (33 + j) v (by
    rw [seedC, List.getElem?_append_right (by rw [nums_length]; omega), nums_length, show 33 + j - 32 = j + 1 by omega, List.getElem?_cons_succ]; exact hj)
  rwa [Nat.zero_add] at this⟩
theorem wpList_val {P : Program} {ops : Array Oper} {rest : List Oper} {op : Oper} {a : Act} {w : World} {Q : Exit → Act → World → Prop} (hgd : op.guard = none) (v : Value)
    (hrun : (execOp (fun x => a.eval x) op).run P w = .ok (.value v) w) (h : wpList P ops Q rest (a.put op.dst v) w) : wpList P ops Q (op :: rest) a w :=
  wpList_plain hgd fun K hK => by
    unfold Oper.wp
    rw [hrun]
    exact hK _ _ h
theorem run_load1 {P : Program} {w : World} {a : Addr} {ty : TypeId} {v : Value} (hc : w.cell? a = some v) (ha : (isAgg ty).run P w = .ok false w) : (Instr.loadAt ty (.pointer (some a))).run P w = .ok v w := by
  simp [Instr.loadAt, Instr.sureAddr, loadVar, ha, hc]
theorem wpList_load1 {P : Program} {ops : Array Oper} {rest : List Oper} {op : Oper} {a : Act} {w : World} {Q : Exit → Act → World → Prop} (hgd : op.guard = none) (ty : TypeId) (x : Operand) (ho : op.op = .load ty x)
    (ad : Addr) (hx : a.eval x = .pointer (some ad)) (v : Value) (hc : w.cell? ad = some v) (ha : (isAgg ty).run P w = .ok false w) (h : wpList P ops Q rest (a.put op.dst v) w) : wpList P ops Q (op :: rest) a w :=
  wpList_plain hgd fun K hK => by
    unfold Oper.wp execOp
    simp only [ho, hx, Sem.run_bind, run_load1 hc ha, Result.andThen_ok, Sem.run_pure]
    exact hK _ _ h
theorem isAgg23 (w : World) : (isAgg 23).run Tryd.prog w = .ok false w := by simp [go_sem]
theorem byt_row {w : World} {base n : Nat} {e : TypeId} {q : Option Addr} {m c : Nat} {f : Nat → Int} (h : w.ownsRow base e 1 (.slice q m c) n (nums .u8 f n)) : m = n ∧ Byt w q n f := by
  rcases h.2 with ⟨h0, rfl⟩ | ⟨g, cap, cur, h0, _, hg, _⟩
  · cases h0; exact ⟨rfl, .inl rfl⟩
  · cases h0; exact ⟨rfl, .inr ⟨g, 0, rfl, (row_has h).1⟩⟩
/-- the address behind the first l bytes -/
def slq (p : Option Addr) (l c : Nat) : Option Addr := if c = l then p else p.map (·.add l)
theorem sliced_one (p : Option Addr) (l h c : Nat) : sliced p l h c 1 = .slice (slq p l c) (h - l) (c - l) := by
  unfold sliced slq
  rw [Nat.mul_one]
theorem byt_drop {w : World} {p : Option Addr} {L l c : Nat} {f : Nat → Int} (h : Byt w p L f) (hl : l ≤ L) (hc : L ≤ c) : Byt w (slq p l c) (L - l) (fun j => f (l + j)) := by
  by_cases h0 : L - l = 0
  · exact .inl h0
  · obtain ⟨b, off, rfl, hb⟩ := h.resolve_left (by omega)
    refine .inr ⟨b, off + l, ?_, hb.lt, fun j v hj => ?_⟩
    · unfold slq
      rw [if_neg (by omega)]
      simp [Addr.add]
    · have hjl : j < L - l := by
        have := (List.getElem?_eq_some_iff.1 hj).1
        rwa [nums_length] at this
      rw [nums_at _ _ hjl] at hj
      rw [show off + l + j = off + (l + j) by omega]
      exact hb.cell (l + j) v ((nums_at _ _ (by omega)).trans hj)
theorem strF_later (kf nf : Nat → Int) (c : Int) (k j : Nat) : strF kf c nf (64 * k + j) = strF kf ((c + (k : Int)) % 4294967296) nf j := by
  unfold strF
  rw [show (64 * k + j) / 64 = k + j / 64 by omega, show (64 * k + j) % 64 = j % 64 by omega]
  congr 1
  push_cast
  omega
attribute [local go_sem ↓ high] sliced_head sliced_one

set_option maxHeartbeats 8000000 in
theorem Later_core (kf nf : Nat → Int) (c a b : Int) (ha : inB a) (hb : inB b) (hk : ∀ i, i < 32 → inB (kf i)) (hn : ∀ i, i < 12 → inB (nf i)) (hc : in32 c) (w : World) (hg : Has 0 0 GL w) :
    Calls Tryd.prog 6 #[(.agg (seedC kf c nf).toArray), .int .u8 a, .int .u8 b] w fun e w' => e = .returned (.bool true) ∧ Below w.heap.size w w' := by
  have FK := Lib.hid hk; have FN := Lib.hid hn; have FC := Lib.hid hc; have HG0 := Lib.hid hg
  obtain ⟨n, rfl⟩ := Int.eq_ofNat_of_zero_le hb.1
  obtain ⟨k, ek⟩ : ∃ k : Nat, a % 5 = (k : Int) := ⟨(a % 5).toNat, by omega⟩
  have ek2 : a.tmod 5 = (k : Int) := by rw [Int.tmod_eq_emod_of_nonneg ha.1]; exact ek
  have hk5 : k < 5 := by omega
  have hn8 : n < 256 := by unfold inB at hb; omega
  have a0 : 0 ≤ a := ha.1
  have wk : IntKind.u8.wrap (k : Int) = (k : Int) := by rw [IntKind.wrap_u8']; omega
  have wk2 : IntKind.i64.wrap (k : Int) = (k : Int) := IntWalk.i64_in _ (by omega)
  have wn : IntKind.i64.wrap (n : Int) = (n : Int) := IntWalk.i64_in _ (by omega)
  clear ha hb hk hn hc hg ek
  go_enter Tryd.func6, Tryd.ntmps6
  go_upto_region 1 with fail
  obtain ⟨W0, hW⟩ : ∃ W0, W0 = (w.alloc (.cells (seedC kf c nf).toArray 32)) := ⟨_, rfl⟩
  have hB0 : Below w.heap.size w W0 := hW ▸ (Below.al (Below.refl _ _))
  have HD : Hid (Own w.heap.size (seedC kf c nf) W0) := Lib.hid (hW ▸ (show Own w.heap.size (seedC kf c nf) (w.alloc (.cells (seedC kf c nf).toArray 32)) from Own.newAt (by simp)))
  rw [← hW]
  clear hW
  obtain ⟨D, eD⟩ : ∃ X, X = w.heap.size := ⟨_, rfl⟩
  rw [← eD] at HD ⊢
  have Dw : w.heap.size ≤ D := by omega
  clear eD
  have HG := Lib.hid (HG0.out.later hB0)
  replace HD := Lib.hid HD.out.has
  clear HG0
  obtain ⟨B, eB⟩ : ∃ B, 64 * k = B := ⟨_, rfl⟩
  obtain ⟨L, eL⟩ : ∃ L, B + n = L := ⟨_, rfl⟩
  have b1 : (64 : Int) * (k : Int) = (B : Int) := by omega
  have b2 : IntKind.i64.wrap (B : Int) = (B : Int) := IntWalk.i64_in _ (by omega)
  have l1 : (B : Int) + (n : Int) = (L : Int) := by omega
  have l2 : IntKind.i64.wrap (L : Int) = (L : Int) := IntWalk.i64_in _ (by omega)
  have hLB : L - B = n := by omega
  have hBL : B ≤ L := by omega
  have hBLi : (B : Int) ≤ (L : Int) := by omega
  have B0 : (0 : Int) ≤ (B : Int) := by omega
  have L5 : L ≤ 65536 := by omega
  have uk : IntKind.u32.wrap (k : Int) = (k : Int) := by rw [IntKind.wrap_u32']; omega
  have uk2 : (k : Int) % 4294967296 = (k : Int) := by omega
  obtain ⟨cc, fc⟩ : ∃ z, (c + (k : Int)) % 4294967296 = z := ⟨_, rfl⟩
  have gc : IntKind.u32.wrap (c + (k : Int)) = cc := (IntKind.wrap_u32' _).trans fc
  have IC : Hid (in32 cc) := Lib.hid (by unfold in32; omega)
  have SL : Hid (∀ j, strF kf c nf (B + j) = strF kf cc nf j) := Lib.hid fun j => by rw [← eB, ← fc]; exact strF_later kf nf c k j
  have N5 : Hid (n ≤ 65536) := Lib.hid (by omega)
  have LL := Lib.hid L5; have LB := Lib.hid hLB; have BL := Lib.hid hBL
  clear eB eL hk5 hn8 L5
  go_upto_region 2 with fail
  refine wp_region_lit ?_
  refine wpList_val rfl (.pointer (some ⟨D, 0, none⟩)) (by kernel_rfl) ?_
  refine wpList_load_mid rfl 22 _ rfl D 0 rfl (nums .u8 kf 32) _ (seed_key HD.out).cell Tryd.underlying22 rfl (by kernel_rfl) ?_
  refine wpList_val rfl (.pointer (some ⟨D, 32, none⟩)) (by kernel_rfl) ?_
  refine wpList_load1 rfl 23 _ rfl ⟨D, 32, none⟩ rfl (.int .u32 c) (seed_ctr HD.out) (isAgg23 _) ?_
  refine wpList_val rfl (.pointer (some ⟨D, 33, none⟩)) (by kernel_rfl) ?_
  refine wpList_load_mid rfl 24 _ rfl D 33 rfl (nums .u8 nf 12) _ (seed_non HD.out).cell Tryd.underlying24 rfl (by kernel_rfl) ?_
  go_wp2_with (fail)
  go_at_call 15
  refine (Stream_any kf nf c (L : Int) (L : Int) L FK.out FN.out FC.out (by rw [if_neg (by omega)]) (by have := LL.out; rw [if_neg (by omega)]) LL.out _ HG.out).mono ?_
  rintro e w1 ⟨v1, rfl, hrow, hb⟩
  obtain ⟨p1, c1, rfl, hc1⟩ := row_form hrow
  have BY1 := Lib.hid (byt_row hrow).2
  have HC1 := Lib.hid hc1
  replace HD := Lib.hid (HD.out.later hb)
  replace HG := Lib.hid (HG.out.later hb)
  have hB1 := Below.go hB0 hb
  have hLc : (L : Int) ≤ (c1 : Int) := by omega
  have hBc : (B : Int) ≤ (c1 : Int) := by omega
  clear hB0 hrow hb hc1
  go_upto_region 3 with fail
  refine wp_region_lit ?_
  refine wpList_val rfl (.pointer (some ⟨D, 0, none⟩)) (by kernel_rfl) ?_
  refine wpList_load_mid rfl 22 _ rfl D 0 rfl (nums .u8 kf 32) _ (seed_key HD.out).cell Tryd.underlying22 rfl (by kernel_rfl) ?_
  refine wpList_val rfl (.pointer (some ⟨D, 32, none⟩)) (by kernel_rfl) ?_
  refine wpList_load1 rfl 23 _ rfl ⟨D, 32, none⟩ rfl (.int .u32 c) (seed_ctr HD.out) (isAgg23 _) ?_
  have m0 : w1.cell? ⟨D, 33, none⟩ = some (.int .u8 (nf 0)) := (seed_non HD.out).cell 0 _ (nums_at _ _ (by decide))
  have m1 : w1.cell? ⟨D, 34, none⟩ = some (.int .u8 (nf 1)) := (seed_non HD.out).cell 1 _ (nums_at _ _ (by decide))
  have m2 : w1.cell? ⟨D, 35, none⟩ = some (.int .u8 (nf 2)) := (seed_non HD.out).cell 2 _ (nums_at _ _ (by decide))
  have m3 : w1.cell? ⟨D, 36, none⟩ = some (.int .u8 (nf 3)) := (seed_non HD.out).cell 3 _ (nums_at _ _ (by decide))
  have m4 : w1.cell? ⟨D, 37, none⟩ = some (.int .u8 (nf 4)) := (seed_non HD.out).cell 4 _ (nums_at _ _ (by decide))
  have m5 : w1.cell? ⟨D, 38, none⟩ = some (.int .u8 (nf 5)) := (seed_non HD.out).cell 5 _ (nums_at _ _ (by decide))
  have m6 : w1.cell? ⟨D, 39, none⟩ = some (.int .u8 (nf 6)) := (seed_non HD.out).cell 6 _ (nums_at _ _ (by decide))
  have m7 : w1.cell? ⟨D, 40, none⟩ = some (.int .u8 (nf 7)) := (seed_non HD.out).cell 7 _ (nums_at _ _ (by decide))
  have m8 : w1.cell? ⟨D, 41, none⟩ = some (.int .u8 (nf 8)) := (seed_non HD.out).cell 8 _ (nums_at _ _ (by decide))
  have m9 : w1.cell? ⟨D, 42, none⟩ = some (.int .u8 (nf 9)) := (seed_non HD.out).cell 9 _ (nums_at _ _ (by decide))
  have m10 : w1.cell? ⟨D, 43, none⟩ = some (.int .u8 (nf 10)) := (seed_non HD.out).cell 10 _ (nums_at _ _ (by decide))
  have m11 : w1.cell? ⟨D, 44, none⟩ = some (.int .u8 (nf 11)) := (seed_non HD.out).cell 11 _ (nums_at _ _ (by decide))
  go_wp2_with (fail)
  go_at_call 15
  refine (Stream_any kf nf cc (n : Int) (n : Int) n FK.out FN.out IC.out (by rw [if_neg (by omega)]) (by have := N5.out; rw [if_neg (by omega)]) N5.out _ HG.out).mono ?_
  rintro e w2 ⟨v2, rfl, hrow, hb⟩
  obtain ⟨p2, c2, rfl, hc2⟩ := row_form hrow
  have BY2 := Lib.hid (byt_row hrow).2
  have BY3 : Hid (Byt w2 (slq p1 B c1) n (strF kf cc nf)) := Lib.hid (by
    have h := byt_drop (BY1.out.later hb) BL.out HC1.out
    rw [LB.out] at h
    rwa [show (fun j => strF kf c nf (B + j)) = strF kf cc nf from funext SL.out] at h)
  have hB2 := Below.go hB1 hb
  clear hB1 hrow hb hc2 HD HG BY1 m0 m1 m2 m3 m4 m5 m6 m7 m8 m9 m10 m11
  go_wp2_with (first | (go_at_call 12; refine (Equal_any _ _ n _ _ (strF kf cc nf) _ BY3.out BY2.out).mono ?_; rintro e w3 ⟨rfl, hb3⟩) | (go_at_call 11; refine (works_any _).mono ?_; rintro e w4 ⟨rfl, hb4⟩))
  all_goals (go_ret; exact ⟨rfl, Below.go (Below.go hB2 hb3) hb4⟩)
end Go.Proofs.YtbcpoohoclobpaaDoor
