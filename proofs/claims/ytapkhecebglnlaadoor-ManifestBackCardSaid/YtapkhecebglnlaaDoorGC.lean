/- manifest: Check of both. -/
import Derived.Test.YtapkhecebglnlaaDoorGB
import Derived.Lib.Hide
import Derived.LoopN
import Derived.LoopTactic
import Derived.Deep.Onto
import Derived.Deep.RegionHeld3
import Derived.Deep.QuietTactic
import Derived.BigQuiet
namespace Go.Proofs.YtapkhecebglnlaaDoor
set_option linter.unusedVariables false
set_option maxRecDepth 2000
set_option linter.unusedSimpArgs false
open Go.RowKit
def checkF (k : Int) (g : Nat → Int) (f t s c : Int) : Int := if capF k = 0 then 12 else if maskB g = false ∨ t < f ∨ s < 1 then 5 else if capF k < s then 9 else if c ≠ chunkF s then 5 else 0
theorem in_check (k : Int) (g : Nat → Int) (f t s c : Int) : 0 ≤ checkF k g f t s c ∧ checkF k g f t s c ≤ 12 := by
  unfold checkF
  split
  · omega
  · split
    · omega
    · split
      · omega
      · split <;> omega
/-- what a manifest that may be is -/
theorem check_ok {k : Int} {g : Nat → Int} {f t s c : Int} (h : checkF k g f t s c = 0) : (1 ≤ k ∧ k ≤ 4) ∧ (∀ j, j < 8 → g j ≤ 15) ∧ f ≤ t ∧ 1 ≤ s ∧ s ≤ 2048 ∧ c = chunkF s ∧ 1 ≤ c ∧ c ≤ 8 := by
  unfold checkF at h
  split at h
  · omega
  · rename_i h1
    split at h
    · omega
    · rename_i h2
      split at h
      · omega
      · rename_i h3
        split at h
        · omega
        · rename_i h4
          have hc := capF_le k
          have hm : maskB g = true := by
            cases e : maskB g with
            | true => rfl
            | false => exact absurd (.inl e) h2
          have h5 : c = chunkF s := Classical.byContradiction h4
          have h6 : ¬(t < f ∨ s < 1) := fun a => h2 (.inr a)
          have h7 : ¬s < 1 := by omega
          have h8 := chunkF_yes h7
          exact ⟨cap_kind h1, maskB_yes.1 hm, by omega, by omega, by omega, h5, by omega, by omega⟩
theorem chk_a {k : Int} {g : Nat → Int} {f t s c : Int} (h : capF k = 0) : checkF k g f t s c = 12 := if_pos h
theorem chk_b {k : Int} {g : Nat → Int} {f t s c : Int} (h : ¬capF k = 0) (h2 : maskB g = false ∨ t < f ∨ s < 1) : checkF k g f t s c = 5 := by unfold checkF; rw [if_neg h, if_pos h2]
theorem chk_e {k : Int} {g : Nat → Int} {f t s c : Int} (h : ¬capF k = 0) (h2 : ¬(maskB g = false ∨ t < f ∨ s < 1)) (h3 : capF k < s) : checkF k g f t s c = 9 := by unfold checkF; rw [if_neg h, if_neg h2, if_pos h3]
theorem chk_f {k : Int} {g : Nat → Int} {f t s c : Int} (h : ¬capF k = 0) (h2 : ¬(maskB g = false ∨ t < f ∨ s < 1)) (h3 : ¬capF k < s) (h4 : ¬c = chunkF s) : checkF k g f t s c = 5 := by unfold checkF; rw [if_neg h, if_neg h2, if_neg h3, if_pos h4]
theorem chk_g {k : Int} {g : Nat → Int} {f t s c : Int} (h : ¬capF k = 0) (h2 : ¬(maskB g = false ∨ t < f ∨ s < 1)) (h3 : ¬capF k < s) (h4 : c = chunkF s) : checkF k g f t s c = 0 := by unfold checkF; rw [if_neg h, if_neg h2, if_neg h3, if_neg (fun a => a h4)]

set_option maxHeartbeats 8000000 in
theorem Check_any (mi mk ml : Int) (mg : Nat → Int) (mf mt ms mc : Int) (hs : -9223372036854775808 ≤ ms ∧ ms ≤ 9223372036854775807) (w : World) (hg : Has 0 0 CapL w) : Calls Tryd.prog 12 #[(.agg #[.int .u64 mi, .int .i64 mk, .int .u32 ml, .int .u8 (mg 0), .int .u8 (mg 1), .int .u8 (mg 2), .int .u8 (mg 3), .int .u8 (mg 4), .int .u8 (mg 5), .int .u8 (mg 6), .int .u8 (mg 7), .int .u32 mf, .int .u32 mt, .int .i64 ms, .int .i64 mc])] w fun e w' => e = .returned (.int .i64 (checkF mk mg mf mt ms mc)) ∧ Below w.heap.size w w' := by
  have HG := Lib.hid hg
  have FK := Lib.hid (Cap_any mk)
  have FM := Lib.hid (Masks_any mg)
  have FC := Lib.hid (Chunks_any ms hs)
  have VA := Lib.hid (@chk_a mk mg mf mt ms mc); have VB := Lib.hid (@chk_b mk mg mf mt ms mc); have VE := Lib.hid (@chk_e mk mg mf mt ms mc); have VF := Lib.hid (@chk_f mk mg mf mt ms mc); have VG := Lib.hid (@chk_g mk mg mf mt ms mc)
  clear hs hg
  generalize checkF mk mg mf mt ms mc = z at *
  generalize capF mk = q at *
  generalize maskB mg = mb at *
  generalize chunkF ms = ch at *
  go_enter Tryd.func12, Tryd.ntmps12
  go_upto_region 1 with fail
  obtain ⟨W0, hW⟩ : ∃ W0, W0 = (w.alloc (.cells #[.int .u64 mi, .int .i64 mk, .int .u32 ml, .int .u8 (mg 0), .int .u8 (mg 1), .int .u8 (mg 2), .int .u8 (mg 3), .int .u8 (mg 4), .int .u8 (mg 5), .int .u8 (mg 6), .int .u8 (mg 7), .int .u32 mf, .int .u32 mt, .int .i64 ms, .int .i64 mc] 26)) := ⟨_, rfl⟩
  have hB0 : Below w.heap.size w W0 := hW ▸ (Below.al (Below.refl _ _))
  have HA : Hid (Own w.heap.size [.int .u64 mi, .int .i64 mk, .int .u32 ml, .int .u8 (mg 0), .int .u8 (mg 1), .int .u8 (mg 2), .int .u8 (mg 3), .int .u8 (mg 4), .int .u8 (mg 5), .int .u8 (mg 6), .int .u8 (mg 7), .int .u32 mf, .int .u32 mt, .int .i64 ms, .int .i64 mc] W0) := Lib.hid (hW ▸ (Own.newAt (by simp)))
  rw [← hW]
  clear hW
  obtain ⟨A, eA⟩ : ∃ X, X = w.heap.size := ⟨_, rfl⟩
  rw [← eA] at HA ⊢
  have Aw : w.heap.size ≤ A := by omega
  clear eA
  have HB0 := Lib.hid hB0
  clear hB0
  have HG0 := Lib.hid (HG.out.later HB0.out)
  clear HG
  have oA := HA.out
  have A1 := oA.at 1 _ rfl
  have A3 := oA.at 3 _ rfl
  have A4 := oA.at 4 _ rfl
  have A5 := oA.at 5 _ rfl
  have A6 := oA.at 6 _ rfl
  have A7 := oA.at 7 _ rfl
  have A8 := oA.at 8 _ rfl
  have A9 := oA.at 9 _ rfl
  have A10 := oA.at 10 _ rfl
  have A11 := oA.at 11 _ rfl
  have A12 := oA.at 12 _ rfl
  have A13 := oA.at 13 _ rfl
  have A14 := oA.at 14 _ rfl
  have Al := oA.lt
  clear oA
  go_wp2_with (fail)
  go_at_call 8
  refine (FK.out _ HG0.out).mono ?_
  rintro e y1 ⟨rfl, hw⟩
  obtain rfl : W0 = y1 := hw.symm
  clear FK HG0
  by_cases ha : q = 0
  · have HV := Lib.hid (VA.out ha)
    subst ha
    clear VA VB VE VF VG FM FC
    go_wp2_with (fail)
    go_ret
    exact ⟨by rw [HV.out]; rfl, HB0.out⟩
  have hqb : (q == 0) = false := by simpa using ha
  have hqd : decide (q = 0) = false := decide_eq_false ha
  cases mb with
  | false =>
    have HV := Lib.hid (VB.out ha (.inl rfl))
    clear VA VB VE VF VG FC
    go_wp2_with (fail)
    go_at_call 21
    refine (FM.out _).mono ?_
    rintro e y2 ⟨rfl, hb⟩
    have HB2 := Lib.hid (Below.go HB0.out hb)
    have HA2 := Lib.hid (HA.out.later hb)
    clear A1 A3 A4 A5 A6 A7 A8 A9 A10 A11 A12 A13 A14 Al hb
    have oA := HA2.out
    have A11 := oA.at 11 _ rfl
    have A12 := oA.at 12 _ rfl
    have A13 := oA.at 13 _ rfl
    have A14 := oA.at 14 _ rfl
    have Al := oA.lt
    clear oA
    go_wp2_with (fail)
    go_ret
    exact ⟨by rw [HV.out]; rfl, HB2.out⟩
  | true =>
    by_cases hc : mt < mf
    · have HV := Lib.hid (VB.out ha (.inr (.inl hc)))
      have d1 : decide (mt < mf) = true := decide_eq_true hc
      clear VA VB VE VF VG FC
      go_wp2_with (fail)
      go_at_call 21
      refine (FM.out _).mono ?_
      rintro e y2 ⟨rfl, hb⟩
      have HB2 := Lib.hid (Below.go HB0.out hb)
      have HA2 := Lib.hid (HA.out.later hb)
      clear A1 A3 A4 A5 A6 A7 A8 A9 A10 A11 A12 A13 A14 Al hb
      have oA := HA2.out
      have A11 := oA.at 11 _ rfl
      have A12 := oA.at 12 _ rfl
      have A13 := oA.at 13 _ rfl
      have A14 := oA.at 14 _ rfl
      have Al := oA.lt
      clear oA
      go_wp2_with (fail)
      go_ret
      exact ⟨by rw [HV.out]; rfl, HB2.out⟩
    have d1 : decide (mt < mf) = false := decide_eq_false hc
    by_cases hd : ms < 1
    · have HV := Lib.hid (VB.out ha (.inr (.inr hd)))
      have d2 : decide (ms < 1) = true := decide_eq_true hd
      clear VA VB VE VF VG FC
      go_wp2_with (fail)
      go_at_call 21
      refine (FM.out _).mono ?_
      rintro e y2 ⟨rfl, hb⟩
      have HB2 := Lib.hid (Below.go HB0.out hb)
      have HA2 := Lib.hid (HA.out.later hb)
      clear A1 A3 A4 A5 A6 A7 A8 A9 A10 A11 A12 A13 A14 Al hb
      have oA := HA2.out
      have A11 := oA.at 11 _ rfl
      have A12 := oA.at 12 _ rfl
      have A13 := oA.at 13 _ rfl
      have A14 := oA.at 14 _ rfl
      have Al := oA.lt
      clear oA
      go_wp2_with (fail)
      go_ret
      exact ⟨by rw [HV.out]; rfl, HB2.out⟩
    have d2 : decide (ms < 1) = false := decide_eq_false hd
    have hn : ¬(true = false ∨ mt < mf ∨ ms < 1) := by simp; omega
    by_cases hh : q < ms
    · have HV := Lib.hid (VE.out ha hn hh)
      have d3 : decide (q < ms) = true := decide_eq_true hh
      clear VA VB VE VF VG FC hn
      go_wp2_with (fail)
      go_at_call 21
      refine (FM.out _).mono ?_
      rintro e y2 ⟨rfl, hb⟩
      have HB2 := Lib.hid (Below.go HB0.out hb)
      have HA2 := Lib.hid (HA.out.later hb)
      clear A1 A3 A4 A5 A6 A7 A8 A9 A10 A11 A12 A13 A14 Al hb
      have oA := HA2.out
      have A11 := oA.at 11 _ rfl
      have A12 := oA.at 12 _ rfl
      have A13 := oA.at 13 _ rfl
      have A14 := oA.at 14 _ rfl
      have Al := oA.lt
      clear oA
      go_wp2_with (fail)
      go_ret
      exact ⟨by rw [HV.out]; rfl, HB2.out⟩
    have d3 : decide (q < ms) = false := decide_eq_false hh
    by_cases hi : mc = ch
    · have HV := Lib.hid (VG.out ha hn (by omega) hi)
      have d4 : (mc != ch) = false := by simpa using hi
      clear VA VB VE VF VG hn
      go_wp2_with (fail)
      go_at_call 21
      refine (FM.out _).mono ?_
      rintro e y2 ⟨rfl, hb⟩
      have HB2 := Lib.hid (Below.go HB0.out hb)
      have HA2 := Lib.hid (HA.out.later hb)
      clear A1 A3 A4 A5 A6 A7 A8 A9 A10 A11 A12 A13 A14 Al hb
      have oA := HA2.out
      have A11 := oA.at 11 _ rfl
      have A12 := oA.at 12 _ rfl
      have A13 := oA.at 13 _ rfl
      have A14 := oA.at 14 _ rfl
      have Al := oA.lt
      clear oA
      go_wp2_with (fail)
      go_quiet (first | (go_at_call 10; exact Calls.quiet_of_same (FC.out _)))
      go_wp2_with (fail)
      go_ret
      exact ⟨by rw [HV.out]; rfl, below_drewN HB2.out _⟩
    · have HV := Lib.hid (VF.out ha hn (by omega) hi)
      have d4 : (mc != ch) = true := by simpa using hi
      clear VA VB VE VF VG hn
      go_wp2_with (fail)
      go_at_call 21
      refine (FM.out _).mono ?_
      rintro e y2 ⟨rfl, hb⟩
      have HB2 := Lib.hid (Below.go HB0.out hb)
      have HA2 := Lib.hid (HA.out.later hb)
      clear A1 A3 A4 A5 A6 A7 A8 A9 A10 A11 A12 A13 A14 Al hb
      have oA := HA2.out
      have A11 := oA.at 11 _ rfl
      have A12 := oA.at 12 _ rfl
      have A13 := oA.at 13 _ rfl
      have A14 := oA.at 14 _ rfl
      have Al := oA.lt
      clear oA
      go_wp2_with (fail)
      go_quiet (first | (go_at_call 10; exact Calls.quiet_of_same (FC.out _)))
      go_wp2_with (fail)
      go_ret
      exact ⟨by rw [HV.out]; rfl, below_drewN HB2.out _⟩
end Go.Proofs.YtapkhecebglnlaaDoor
