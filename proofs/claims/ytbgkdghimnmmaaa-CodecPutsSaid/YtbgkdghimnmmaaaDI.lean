/- CodecPuts: the walk. -/
import Derived.Test.YtbgkdghimnmmaaaDF
import Derived.Test.YtbgkdghimnmmaaaDG
import Derived.Lib.Hide
import Derived.LoopN
import Derived.LoopTactic
import Derived.Deep.Onto
import Derived.Deep.QuietTactic
import Derived.BigQuiet
namespace Go.Proofs.Ytbgkdghimnmmaaa
set_option linter.unusedVariables false
set_option maxRecDepth 2000
set_option linter.unusedSimpArgs false
open Go.RowKit
attribute [local go_sem] nums_length
attribute [local go_sem ↓ high] sliced_head
theorem infoI : (Try.prog.info? 3).map (fun i => (i.zero, i.size, i.bytes)) = some (some (.int .i64 0), 1, 8) := by kernel_rfl
theorem infoI_parts : ∃ i, Try.prog.info? 3 = some i ∧ i.zero = some (.int .i64 0) ∧ i.size = 1 ∧ i.bytes = 8 := by
  obtain ⟨i, hi, h⟩ := Option.map_eq_some_iff.1 infoI
  simp only [Prod.mk.injEq] at h
  exact ⟨i, hi, h.1, h.2.1, h.2.2⟩
theorem in_wrap (x : Int) : -9223372036854775808 ≤ IntKind.i64.wrap x ∧ IntKind.i64.wrap x ≤ 9223372036854775807 := by
  simp [IntKind.wrap, IntKind.bits, IntKind.signed]
  omega

set_option maxHeartbeats 8000000 in
theorem Puts_law (f g : Nat → Int) (wd : Int) (q p : Option Addr) (n0 c0 n2 c2 m n : Nat) (e1 : min (n0 : Int) 40 = (m : Int)) (e2 : min (n2 : Int) 20 = (n : Int)) (hg : ∀ k, k < n → 0 ≤ g k ∧ g k ≤ 18446744073709551615)
    (h0 : n0 ≤ c0) (hc0 : c0 ≤ 9223372036854775807) (h2 : n2 ≤ c2) (hc2 : c2 ≤ 9223372036854775807) (w : World) (hq : Byt w q m f) (hp : Nm w .u64 p n g) :
    Calls Try.prog 3 #[.slice q n0 c0, .int .i64 wd, .slice p n2 c2] w fun e w' => e = .returned (.bool true) ∧ Below w.heap.size w w' := by
  have m4 : m ≤ 40 := by omega
  have n2_ : n ≤ 20 := by omega
  have mc : m ≤ c0 := by omega
  have nc : n ≤ c2 := by omega
  have mi : (m : Int) ≤ (c0 : Int) := by omega
  have ni : (n : Int) ≤ (c2 : Int) := by omega
  have m0 : (0 : Int) ≤ (m : Int) := by omega
  have n0_ : (0 : Int) ≤ (n : Int) := by omega
  have GW : ∀ k, k < n → -9223372036854775808 ≤ IntKind.i64.wrap (g k) ∧ IntKind.i64.wrap (g k) ≤ 9223372036854775807 := fun k hk => in_wrap _
  have P1 := Lib.hid (fun w hq hp => Put_any q p m c0 n c2 wd f g hg mc hc0 nc hc2 (by omega) w hq hp)
  have P2 := Lib.hid (fun w hq hp => RPut_any q p m c0 n c2 wd f g hg mc hc0 nc hc2 (by omega) w hq hp)
  have P3 := Lib.hid (fun p3 c3 h1 h2 w hq hp => Signed_any q p3 m c0 n c3 wd f (fun j => IntKind.i64.wrap (g j)) GW mc hc0 h1 h2 (by omega) w hq hp)
  have P4 := Lib.hid (fun p3 c3 h1 h2 w hq hp => RSigned_any q p3 m c0 n c3 wd f (fun j => IntKind.i64.wrap (g j)) GW mc hc0 h1 h2 (by omega) w hq hp)
  obtain ⟨E1, eE1⟩ : ∃ E, putE fitU wd n g = E := ⟨_, rfl⟩
  obtain ⟨L1, eL1⟩ : ∃ L, putL m n wd E1 = L := ⟨_, rfl⟩
  rw [eE1, eL1] at P1 P2
  obtain ⟨E2, eE2⟩ : ∃ E, putE fitS wd n (fun j => IntKind.i64.wrap (g j)) = E := ⟨_, rfl⟩
  obtain ⟨L2, eL2⟩ : ∃ L, putL m n wd E2 = L := ⟨_, rfl⟩
  rw [eE2, eL2] at P3 P4
  generalize outF f m wd.toNat g = F1 at *
  generalize outF f m wd.toNat (fun j => IntKind.i64.wrap (g j)) = F2 at *
  obtain ⟨j0_, hj, hy0, hy1, hy2⟩ := infoI_parts
  have HQ := Lib.hid hq; have HP := Lib.hid hp
  have N20 := Lib.hid n2_
  have NC := Lib.hid nc; have HC2 := Lib.hid hc2
  clear hg h0 hc0 h2 hc2 hq hp GW m4 n2_ mc nc eE1 eL1 eE2 eL2
  go_enter Try.func3, Try.ntmps3
  go_wp2_with (fail)
  go_quiet (fail)
  obtain ⟨w3, e3⟩ : ∃ x, x = w.drewN nq := ⟨_, rfl⟩
  have hB0 : Below w.heap.size w w3 := e3 ▸ below_drewN (Below.refl _ _) _
  rw [← e3]
  clear e3 e1 e2
  have HQk := Lib.hid (HQ.out.later hB0)
  have HPk := Lib.hid (HP.out.later hB0)
  clear HQ HP
  have HQ := HQk
  clear HQk
  have HP := HPk
  clear HPk
  go_wp2_with (fail)
  go_at_call 7
  refine (P1.out  _ HQ.out HP.out).mono ?_
  rintro e w4 ⟨v1_, rfl, hrow, hb⟩
  obtain ⟨pv1, cv1, rfl, _⟩ := row_form hrow
  have B1 := Lib.hid (byt_row hrow).2
  have hB1 := Below.go hB0 hb
  have HQk := Lib.hid (HQ.out.later hb)
  have HPk := Lib.hid (HP.out.later hb)
  clear HQ HP
  have HQ := HQk
  clear HQk
  have HP := HPk
  clear HPk
  clear hrow hb hB0 P1
  go_wp2_with (fail)
  go_at_call 8
  refine (P2.out  _ HQ.out HP.out).mono ?_
  rintro e w5 ⟨v2_, rfl, hrow, hb⟩
  obtain ⟨pv2, cv2, rfl, _⟩ := row_form hrow
  have B2 := Lib.hid (byt_row hrow).2
  have hB2 := Below.go hB1 hb
  have HQk := Lib.hid (HQ.out.later hb)
  have HPk := Lib.hid (HP.out.later hb)
  have B1k := Lib.hid (B1.out.later hb)
  clear HQ HP B1
  have HQ := HQk
  clear HQk
  have HP := HPk
  clear HPk
  have B1 := B1k
  clear B1k
  clear hrow hb hB1 P2
  go_wp2_with (fail)
  go_loopw [11, 44] (fun v iv wr => ∃ (k : Nat) (p3 : Option Addr) (c3 : Nat), k ≤ n ∧ v = .slice p3 k c3 ∧ iv = .int .i64 k ∧ Hid (wr.ownsRow w5.heap.size 3 1 (.slice p3 k c3) k (nums .i64 (fun j => IntKind.i64.wrap (g j)) k)) ∧ Hid (Below w5.heap.size w5 wr)) (fun _ iv _ => (n - (intOf iv).toNat))
  case atStart => exact ⟨0, none, 0, Nat.zero_le _, rfl, rfl, Lib.hid (World.ownsRow_nil _ _ _ _), Lib.hid (Below.refl _ _)⟩
  case round =>
    obtain ⟨k, p3, c3, hk, rfl, rfl, ROW, HB⟩ := hrel
    by_cases hlt : k < n
    · obtain ⟨D, o, rfl, hD, hcell⟩ := (HP.out.later HB.out).at hlt
      have hki : (k : Int) < (n : Int) := by omega
      have k0 : (0 : Int) ≤ (k : Int) := by omega
      have wk : IntKind.i64.wrap ((k : Int) + 1) = (k : Int) + 1 := IntWalk.i64_in _ (by have := N20.out; omega)
      obtain ⟨x, ex⟩ : ∃ x, g k = x := ⟨_, rfl⟩
      rw [ex] at hcell
      obtain ⟨y, ey⟩ : ∃ y, IntKind.i64.wrap x = y := ⟨_, rfl⟩
      have XS : Hid (nums .i64 (fun j => IntKind.i64.wrap (g j)) k ++ [.int .i64 y] = nums .i64 (fun j => IntKind.i64.wrap (g j)) (k + 1)) := Lib.hid (nums_append .i64 (fun j => IntKind.i64.wrap (g j)) (fun _ => y) k 1 (fun i hi => by
        obtain rfl : i = 0 := by omega
        rw [Nat.add_zero, ex]
        exact ey))
      have N63 := Lib.hid (show k + 1 ≤ maxLen by have := N20.out; unfold maxLen; omega)
      have NBY := Lib.hid (show (k + 1) * 8 ≤ 140737488355328 by have := N20.out; omega)
      have HS2 : Hid (w5.heap.size ≤ (wr.alloc (.cells #[.int .i64 y] 3)).heap.size) := Lib.hid (Below.al HB.out).size
      have HLT := Lib.hid hlt
      clear hlt hk ex
      go_wp2_with (at_builtin; refine wpList_append_own _ rfl _ _ 29 rfl w5.heap.size 3 j0_ (.int .i64 0) 1 8 Try.underlying29 hj hy0 hy1 hy2 rfl (by decide) _ (k) _ rfl (row_later ROW.out (Below.al (Below.refl _ _))) ⟨wr.heap.size, 0, none⟩ 1 1 [.int .i64 (y)] rfl rfl (Own.newAt (by rfl)).news (by intro v hv; cases hv with | head => rfl | tail _ h => nomatch h) N63.out NBY.out HS2.out ?_; intro v' w6 hrow hgr _; obtain ⟨p', c', rfl, _⟩ := row_form hrow; rw [XS.out] at hrow; have o4 := Lib.hid ((Below.al HB.out).grown hgr (Below.al HB.out).size fun q hq => row_ge ROW.out q hq); have o6 := Lib.hid hrow; clear hrow hgr)
      go_roundw
      case rel => (first | exact ⟨k + 1, _, _, HLT.out, rfl, by go_num, o6, o4⟩ | ((repeat apply Exists.intro); exact ⟨⟨k + 1, _, _, HLT.out, rfl, by go_num, o6, o4⟩, rfl⟩))
      case measure => (have := HLT.out; simp [intOf]; omega)
    · obtain rfl : k = n := by omega
      have HI := Lib.hid (nm_row ROW.out).2
      have cap := row_cap_ ROW.out
      have hB3 := Below.go hB2 HB.out
      have hB3n := HB.out
      have HC3 := Lib.hid cap
      clear hlt hk cap hB2 ROW HP
      have HQk := Lib.hid (HQ.out.later hB3n)
      have B1k := Lib.hid (B1.out.later hB3n)
      have B2k := Lib.hid (B2.out.later hB3n)
      clear HQ B1 B2
      have HQ := HQk
      clear HQk
      have B1 := B1k
      clear B1k
      have B2 := B2k
      clear B2k
      go_wp2_with (fail)
      go_at_call 9
      refine (P3.out _ _ HC3.out.1 HC3.out.2 _ HQ.out HI.out).mono ?_
      rintro e w6 ⟨v3_, rfl, hrow, hb⟩
      obtain ⟨pv3, cv3, rfl, _⟩ := row_form hrow
      have B3 := Lib.hid (byt_row hrow).2
      have hB4 := Below.go hB3 hb
      have HQk := Lib.hid (HQ.out.later hb)
      have B1k := Lib.hid (B1.out.later hb)
      have B2k := Lib.hid (B2.out.later hb)
      have HIk := Lib.hid (HI.out.later hb)
      clear HQ B1 B2 HI
      have HQ := HQk
      clear HQk
      have B1 := B1k
      clear B1k
      have B2 := B2k
      clear B2k
      have HI := HIk
      clear HIk
      clear hrow hb hB3 P3
      go_wp2_with (fail)
      go_at_call 10
      refine (P4.out _ _ HC3.out.1 HC3.out.2 _ HQ.out HI.out).mono ?_
      rintro e w7 ⟨v4_, rfl, hrow, hb⟩
      obtain ⟨pv4, cv4, rfl, _⟩ := row_form hrow
      have B4 := Lib.hid (byt_row hrow).2
      have hB5 := Below.go hB4 hb
      have B1k := Lib.hid (B1.out.later hb)
      have B2k := Lib.hid (B2.out.later hb)
      have B3k := Lib.hid (B3.out.later hb)
      clear B1 B2 B3
      have B1 := B1k
      clear B1k
      have B2 := B2k
      clear B2k
      have B3 := B3k
      clear B3k
      clear hrow hb hB4 P4
      go_wp2_with (fail)
      go_at_call 11
      refine (Equal_any _ _ L1 _ _ F1 _ B1.out B2.out).mono ?_
      rintro e w8 ⟨rfl, hb⟩
      have hB6 := Below.go hB5 hb
      have B3k := Lib.hid (B3.out.later hb)
      have B4k := Lib.hid (B4.out.later hb)
      clear B3 B4
      have B3 := B3k
      clear B3k
      have B4 := B4k
      clear B4k
      clear hb hB5 B1 B2
      go_wp2_with (fail)
      go_at_call 11
      refine (Equal_any _ _ L2 _ _ F2 _ B3.out B4.out).mono ?_
      rintro e w9 ⟨rfl, hb⟩
      have hB7 := Below.go hB6 hb
      clear hb hB6 B3 B4
      go_wp2_with (fail)
      go_at_call 12
      refine (works11_any _).mono ?_
      rintro e wz ⟨rfl, hb⟩
      have hB8 := Below.go hB7 hb
      go_wp2_with (fail)
      go_ret
      exact ⟨rfl, hB8⟩
end Go.Proofs.Ytbgkdghimnmmaaa
