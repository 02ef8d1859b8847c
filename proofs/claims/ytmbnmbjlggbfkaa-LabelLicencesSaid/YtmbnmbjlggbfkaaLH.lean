/- label: LabelLicences' walk. -/
import Derived.Test.YtmbnmbjlggbfkaaLC
import Derived.Test.YtmbnmbjlggbfkaaLD
import Derived.Test.YtmbnmbjlggbfkaaLF
import Derived.Laws.AppendOwn
import Derived.Laws.OwnMore
import Derived.Deep.QuietTactic
import Derived.BigQuiet
namespace Go.Proofs.Ytmbnmbjlggbfkaa
set_option linter.unusedVariables false
set_option maxRecDepth 2000
set_option linter.unusedSimpArgs false
open Go.RowKit
theorem linfoU : (Try.prog.info? 23).map (fun i => (i.zero, i.size, i.bytes)) = some (some (.int .u32 0), 1, 4) := by kernel_rfl
theorem linfoU_parts : ∃ i, Try.prog.info? 23 = some i ∧ i.zero = some (.int .u32 0) ∧ i.size = 1 ∧ i.bytes = 4 := by
  have h := linfoU
  generalize Try.prog.info? 23 = x at *
  match x, h with
  | some i, h =>
    simp only [Option.map_some, Option.some.injEq, Prod.mk.injEq] at h
    exact ⟨i, rfl, h.1, h.2.1, h.2.2⟩
theorem lrow_form {w : World} {base size n : Nat} {e : TypeId} {v : Value} {xs : List Value} (h : w.ownsRow base e size v n xs) : ∃ p c, v = .slice p n c ∧ n ≤ c := by
  rcases h.2 with ⟨rfl, rfl⟩ | ⟨g, cap, cur, rfl, _, _, hc, _⟩
  · exact ⟨none, 0, rfl, Nat.le_refl _⟩
  · exact ⟨_, cap, rfl, hc⟩
theorem lrow_has {w : World} {base n d : Nat} {e : TypeId} {q : Option Addr} {xs : List Value} (h : w.ownsRow base e 1 (.slice q n d) n xs) (hn : 0 < n) : ∃ g, q = some ⟨g, 0, none⟩ ∧ Has g 0 xs w := by
  rcases h.2 with ⟨h0, rfl⟩ | ⟨g, cap, cur, h0, _, hg, _⟩
  · omega
  · cases h0; exact ⟨g, rfl, (row_has h).1⟩
def uL (L : List Int) : List Value := L.map (Value.int .u32)
theorem lat_iff (x : Int) (F : Nat → Int) (c : Int) : ∀ n, latF x F n ≤ c ↔ x ≤ c ∧ ∀ k, k < n → F k ≤ c
  | 0 => ⟨fun h => ⟨h, fun k hk => absurd hk (by omega)⟩, fun h => h.1⟩
  | n + 1 => by
    have ih := lat_iff x F c n
    unfold latF mxU
    constructor
    · intro h
      have h1 : latF x F n ≤ c ∧ F n ≤ c := by split at h <;> omega
      obtain ⟨a, b⟩ := ih.1 h1.1
      refine ⟨a, fun k hk => ?_⟩
      by_cases e : k = n
      · rw [e]; exact h1.2
      · exact b k (by omega)
    · intro ⟨a, b⟩
      have h1 := ih.2 ⟨a, fun k hk => b k (by omega)⟩
      have h2 := b n (by omega)
      split <;> omega
theorem ear_iff (x : Int) (T : Nat → Int) (c : Int) : ∀ n, c ≤ earF x T n ↔ c ≤ x ∧ ∀ k, k < n → c ≤ T k
  | 0 => ⟨fun h => ⟨h, fun k hk => absurd hk (by omega)⟩, fun h => h.1⟩
  | n + 1 => by
    have ih := ear_iff x T c n
    unfold earF mnU
    constructor
    · intro h
      have h1 : c ≤ earF x T n ∧ c ≤ T n := by split at h <;> omega
      obtain ⟨a, b⟩ := ih.1 h1.1
      refine ⟨a, fun k hk => ?_⟩
      by_cases e : k = n
      · rw [e]; exact h1.2
      · exact b k (by omega)
    · intro ⟨a, b⟩
      have h1 := ih.2 ⟨a, fun k hk => b k (by omega)⟩
      have h2 := b n (by omega)
      split <;> omega
/-- does a clock lie in the k-th window? -/
def winB (F T : Nat → Int) (c : Int) (k : Nat) : Bool := decide (F k ≤ c) && decide (c ≤ T k)
theorem meet_all (x y : Int) (F T : Nat → Int) (c : Int) (n : Nat) : (decide (latF x F n ≤ c) && decide (c ≤ earF y T n)) = (decide (x ≤ c) && decide (c ≤ y) && alB (winB F T c) n) := by
  apply Bool.eq_iff_iff.2
  simp only [Bool.and_eq_true, decide_eq_true_eq, alB_iff, lat_iff, ear_iff, winB]
  constructor
  · intro ⟨⟨a, b⟩, c, d⟩
    exact ⟨⟨a, c⟩, fun k hk => ⟨b k hk, d k hk⟩⟩
  · intro ⟨⟨a, c⟩, b⟩
    exact ⟨⟨a, fun k hk => (b k hk).1⟩, c, fun k hk => (b k hk).2⟩
set_option maxHeartbeats 4000000 in
theorem Licences_law (x y : Int) (p : Option Addr) (n c m : Nat) (F T : Nat → Int) (hm : m = min n 8) (hc : n ≤ c) (hc2 : c ≤ 9223372036854775807) (w : World) (hp : Mans w p m F T) :
    Calls Try.prog 5 #[.int .u32 x, .int .u32 y, .slice p n c] w fun e w' => e = .returned (.bool true) ∧ Below w.heap.size w w' := by
  have hm8 : m ≤ 8 := by omega
  have HM : Hid (m ≤ 8) := Lib.hid hm8
  have HJ := Lib.hid (Meet_any x y p m c F T (by omega) w hp)
  have HP := Lib.hid hp
  have MA := Lib.hid (fun c => meet_all x y F T c m)
  obtain ⟨a, ea⟩ : ∃ a, latF x F m = a := ⟨_, rfl⟩
  obtain ⟨b, eb⟩ : ∃ b, earF y T m = b := ⟨_, rfl⟩
  rw [ea, eb] at HJ MA
  have em : (if (8 : Int) < (n : Int) then 8 else (n : Int)) = (m : Int) := by split <;> omega
  have mc : m ≤ c := by omega
  have mn : (m : Int) ≤ (c : Int) := by omega
  have m0 : (0 : Int) ≤ (m : Int) := by omega
  clear hm hm8 hp ea eb
  go_enter Try.func5, Try.ntmps5
  go_wp2_with (fail)
  go_at_call 14
  refine HJ.out.mono ?_
  rintro e w1 ⟨rfl, hb⟩
  have HB1 := Lib.hid hb
  clear hb HJ
  go_wp2_with (fail)
  obtain ⟨i0, hi, hz0, hz1, hz2⟩ := linfoU_parts
  go_loopw [9, 44] (fun mv iv wr => ∃ (k : Nat) (L : List Int) (q : Option Addr) (d : Nat), k ≤ m ∧ mv = .slice q (10 + 4 * k) d ∧ iv = .int .i64 k ∧ Hid (L.length = 10 + 4 * k) ∧ Hid (wr.ownsRow w.heap.size 23 1 (.slice q (10 + 4 * k) d) (10 + 4 * k) (uL L)) ∧ Hid (Below w.heap.size w wr)) (fun _ iv _ => (m - (intOf iv).toNat))
  case atStart =>
    refine ⟨0, [0, 4294967295, x, y, a, b, (x - 1) % 4294967296, (y + 1) % 4294967296, (a - 1) % 4294967296, (b + 1) % 4294967296], _, _, Nat.zero_le _, rfl, rfl, Lib.hid rfl, Lib.hid ?_, Lib.hid (Below.al HB1.out)⟩
    exact World.ownsRow_lit w1 _ 10 HB1.out.size (by decide) rfl
  case round =>
    obtain ⟨k, L, q, d, hk, rfl, rfl, HL, ROW, HB⟩ := hrel
    by_cases h : k < m
    · have wk : IntKind.i64.wrap ((k : Int) + 1) = (k : Int) + 1 := IntWalk.i64_in _ (by have := HM.out; omega)
      obtain ⟨D, o, rfl, hl, hcc⟩ := (HP.out.later HB.out).resolve_left (by omega)
      obtain ⟨l, ⟨mi, mk, ml, mg, ms, mc, rfl⟩, hh⟩ := hcc k h
      have HH := Lib.hid hh
      have e1 : decide (k < m) = true := decide_eq_true h
      have HK := Lib.hid h
      have N63 := Lib.hid (show (10 + 4 * k) + 4 ≤ maxLen by have := HM.out; unfold maxLen; omega)
      have NBY := Lib.hid (show ((10 + 4 * k) + 4) * 4 ≤ 140737488355328 by have := HM.out; omega)
      clear hk hcc hh
      go_upto_region 7 with (refine wpList_load_mid rfl 37 _ rfl D (o + k * 15) rfl _ _ HH.out.cell Try.underlying37 rfl (by kernel_rfl) ?_)
      obtain ⟨W1, X, eW, eX, HX, HBX, XW, S⟩ := lal1 wr _ #[.int .u64 mi, .int .i64 mk, .int .u32 ml, .int .u8 (mg 0), .int .u8 (mg 1), .int .u8 (mg 2), .int .u8 (mg 3), .int .u8 (mg 4), .int .u8 (mg 5), .int .u8 (mg 6), .int .u8 (mg 7), .int .u32 (F k), .int .u32 (T k), .int .i64 ms, .int .i64 mc] 37 [.int .u64 mi, .int .i64 mk, .int .u32 ml, .int .u8 (mg 0), .int .u8 (mg 1), .int .u8 (mg 2), .int .u8 (mg 3), .int .u8 (mg 4), .int .u8 (mg 5), .int .u8 (mg 6), .int .u8 (mg 7), .int .u32 (F k), .int .u32 (T k), .int .i64 ms, .int .i64 mc] rfl rfl
      rw [eW, eX]
      have c1 := HX.out.at 11 _ rfl
      have c2 := HX.out.at 12 _ rfl
      have HBW : Hid (Below w.heap.size w W1) := Lib.hid (Below.go HB.out HBX.out)
      have ROW1 := Lib.hid (row_later ROW.out HBX.out)
      have HS2 : Hid (w.heap.size ≤ (W1.alloc (.cells (uL [F k, T k, (F k - 1) % 4294967296, (T k + 1) % 4294967296]).toArray 23)).heap.size) := Lib.hid (Below.al HBW.out).size
      clear eW eX S HX HBX XW HB ROW HH hl h
      go_wp2_with (at_builtin; refine wpList_append_own _ rfl _ _ 22 rfl w.heap.size 23 i0 (.int .u32 0) 1 4 Try.underlying22 hi hz0 hz1 hz2 rfl (by decide) _ (10 + 4 * k) _ rfl (row_later ROW1.out (Below.al (Below.refl _ _))) ⟨W1.heap.size, 0, none⟩ 4 4 (uL [F k, T k, (F k - 1) % 4294967296, (T k + 1) % 4294967296]) rfl rfl (Own.newAt rfl).news (by intro v hv; simp [uL] at hv; rcases hv with rfl | rfl | rfl | rfl <;> rfl) N63.out NBY.out HS2.out ?_; intro v' w6 hrow hgr _; obtain ⟨p', c', rfl, _⟩ := lrow_form hrow; have o4 := Lib.hid ((Below.al HBW.out).grown hgr (Below.al HBW.out).size fun q hq => row_ge ROW1.out q hq); have o6 : Hid (w6.ownsRow w.heap.size 23 1 (.slice p' (10 + 4 * k + 4) c') (10 + 4 * k + 4) (uL (L ++ [F k, T k, (F k - 1) % 4294967296, (T k + 1) % 4294967296]))) := Lib.hid (by rw [uL, List.map_append]; exact hrow); clear hrow hgr)
      go_roundw
      case rel => (first | exact ⟨k + 1, _, _, _, HK.out, rfl, by go_num, Lib.hid (by rw [List.length_append, HL.out]; rfl), o6, o4⟩ | ((repeat apply Exists.intro); exact ⟨⟨k + 1, _, _, _, HK.out, rfl, by go_num, Lib.hid (by rw [List.length_append, HL.out]; rfl), o6, o4⟩, rfl⟩))
      case measure => (have := HK.out; simp [intOf]; omega)
    · obtain rfl : k = m := by omega
      have e1 : decide (k < k) = false := decide_eq_false h
      clear hk h
      obtain ⟨N, eN⟩ : ∃ N, 10 + 4 * k = N := ⟨_, rfl⟩
      rw [eN] at HL ROW ⊢
      have HN : Hid (10 ≤ N ∧ N ≤ 42) := Lib.hid (by have := HM.out; omega)
      clear eN
      obtain ⟨g, rfl, hg⟩ : ∃ g, q = some ⟨g, 0, none⟩ ∧ Has g 0 (uL L) wr := lrow_has ROW.out (by have := HN.out; omega)
      have HG := Lib.hid hg
      have HBV0 := HB
      replace HP := Lib.hid (HP.out.later HB.out)
      clear hg ROW HB
      generalize wr = V at *
      clear e1
      generalize k = m at *
      go_wp2_with (fail)
      go_loopw [64] (fun iv wr => ∃ (i : Nat), i ≤ N ∧ iv = .int .i64 i ∧ Hid (Below V.heap.size V wr)) (fun iv _ => (N - (intOf iv).toNat))
      case atStart => exact ⟨0, Nat.zero_le _, rfl, Lib.hid (Below.refl _ _)⟩
      case round =>
        obtain ⟨i, hi', rfl, HBV⟩ := hrel
        by_cases h : i < N
        · have wi : IntKind.i64.wrap ((i : Int) + 1) = (i : Int) + 1 := IntWalk.i64_in _ (by have := HN.out; omega)
          have e2 : decide (i < N) = true := decide_eq_true h
          have HI := Lib.hid h
          have hi2 : i < L.length := by rw [HL.out]; exact h
          obtain ⟨z, ez⟩ : ∃ z, L[i]? = some z := ⟨_, List.getElem?_eq_getElem hi2⟩
          have hgw := HG.out.later HBV.out
          have c0 := hgw.at i (.int .u32 z) (by unfold uL; rw [List.getElem?_map, ez]; rfl)
          rw [Nat.zero_add] at c0
          have hgl := hgw.lt
          have MZ := Lib.hid (MA.out z)
          clear hi' h hi2 ez hgw
          by_cases hx : x ≤ z
          · obtain ⟨B0, eb⟩ : ∃ B, decide (z ≤ y) = B := ⟨_, rfl⟩
            have EB := Lib.hid eb.symm
            have ex : decide (x ≤ z) = true := decide_eq_true hx
            rw [ex] at MZ
            rw [Bool.true_and, eb] at MZ
            clear hx
            go_wp2_with (fail)
            go_loopw [14, 78] (fun sv kv wr => ∃ (k : Nat), k ≤ m ∧ sv = .bool (B0 && alB (winB F T z) k) ∧ kv = .int .i64 k ∧ Hid (Below V.heap.size V wr)) (fun _ kv _ => (m - (intOf kv).toNat))
            case atStart => exact ⟨0, Nat.zero_le _, by rw [EB.out]; simp [alB], rfl, HBV⟩
            case round =>
              obtain ⟨k, hk, rfl, rfl, HB⟩ := hrel
              by_cases h : k < m
              · have wk : IntKind.i64.wrap ((k : Int) + 1) = (k : Int) + 1 := IntWalk.i64_in _ (by have := HM.out; omega)
                obtain ⟨D, o, rfl, hl, hcc⟩ := (HP.out.later HB.out).resolve_left (by omega)
                obtain ⟨l, ⟨mi, mk, ml, mg, ms, mc, rfl⟩, hh⟩ := hcc k h
                have HH := Lib.hid hh
                have e1 : decide (k < m) = true := decide_eq_true h
                have HK := Lib.hid h
                clear hk hcc hh
                go_upto_region 16 with (refine wpList_load_mid rfl 37 _ rfl D (o + k * 15) rfl _ _ HH.out.cell Try.underlying37 rfl (by kernel_rfl) ?_)
                obtain ⟨W1, X, eW, eX, HX, HBX, XW, S⟩ := lal1 wr _ #[.int .u64 mi, .int .i64 mk, .int .u32 ml, .int .u8 (mg 0), .int .u8 (mg 1), .int .u8 (mg 2), .int .u8 (mg 3), .int .u8 (mg 4), .int .u8 (mg 5), .int .u8 (mg 6), .int .u8 (mg 7), .int .u32 (F k), .int .u32 (T k), .int .i64 ms, .int .i64 mc] 37 [.int .u64 mi, .int .i64 mk, .int .u32 ml, .int .u8 (mg 0), .int .u8 (mg 1), .int .u8 (mg 2), .int .u8 (mg 3), .int .u8 (mg 4), .int .u8 (mg 5), .int .u8 (mg 6), .int .u8 (mg 7), .int .u32 (F k), .int .u32 (T k), .int .i64 ms, .int .i64 mc] rfl rfl
                rw [eW, eX]
                have c1 := HX.out.at 11 _ rfl
                have c2 := HX.out.at 12 _ rfl
                have hXl := HX.out.lt
                have HB2 : Hid (Below V.heap.size V W1) := Lib.hid (Below.go HB.out HBX.out)
                have HO := Lib.hid (Holds_any (F k) (T k) z)
                obtain ⟨Q2, eq2⟩ : ∃ Q, (B0 && alB (winB F T z) (k + 1)) = Q := ⟨_, rfl⟩
                have HN2 := Lib.hid eq2
                have EN : Hid (Q2 = ((B0 && alB (winB F T z) k) && (decide (F k ≤ z) && decide (z ≤ T k)))) := Lib.hid (by rw [← eq2, Bool.and_assoc]; rfl)
                clear eW eX S HX HBX XW HB HH hl h eq2
                generalize (B0 && alB (winB F T z) k) = Q at *
                by_cases hF : F k ≤ z
                · have eF : decide (F k ≤ z) = true := decide_eq_true hF
                  rw [eF, Bool.true_and] at HO EN
                  clear hF
                  cases Q with
                  | true =>
                    go_quiet (first | (go_at_call 15; exact Calls.quiet_of_same (HO.out _)))
                    obtain ⟨W2, e3⟩ : ∃ x, x = W1.drewN nq := ⟨_, rfl⟩
                    have hBd : Below W1.heap.size W1 W2 := e3 ▸ below_drewN (Below.refl _ _) _
                    rw [← e3]
                    have d1 := (hBd.cell (p := ⟨X, 11, none⟩) hXl).trans c1
                    have d2 := (hBd.cell (p := ⟨X, 12, none⟩) hXl).trans c2
                    have HB4 := Lib.hid (Below.go HB2.out hBd)
                    clear e3 hBd c1 c2 hXl HB2
                    go_wp2_with (fail)
                    go_roundw
                    case rel => exact ⟨k + 1, HK.out, by rw [HN2.out, EN.out]; simp [*], by go_num, HB4⟩
                    case measure => (have := HK.out; simp [intOf]; omega)
                  | false =>
                    go_quiet (first | (go_at_call 15; exact Calls.quiet_of_same (HO.out _)))
                    obtain ⟨W2, e3⟩ : ∃ x, x = W1.drewN nq := ⟨_, rfl⟩
                    have hBd : Below W1.heap.size W1 W2 := e3 ▸ below_drewN (Below.refl _ _) _
                    rw [← e3]
                    have d1 := (hBd.cell (p := ⟨X, 11, none⟩) hXl).trans c1
                    have d2 := (hBd.cell (p := ⟨X, 12, none⟩) hXl).trans c2
                    have HB4 := Lib.hid (Below.go HB2.out hBd)
                    clear e3 hBd c1 c2 hXl HB2
                    go_wp2_with (fail)
                    go_roundw
                    case rel => exact ⟨k + 1, HK.out, by rw [HN2.out, EN.out]; simp [*], by go_num, HB4⟩
                    case measure => (have := HK.out; simp [intOf]; omega)
                · have eF : decide (F k ≤ z) = false := decide_eq_false hF
                  rw [eF, Bool.false_and] at HO EN
                  clear hF
                  cases Q with
                  | true =>
                    go_quiet (first | (go_at_call 15; exact Calls.quiet_of_same (HO.out _)))
                    obtain ⟨W2, e3⟩ : ∃ x, x = W1.drewN nq := ⟨_, rfl⟩
                    have hBd : Below W1.heap.size W1 W2 := e3 ▸ below_drewN (Below.refl _ _) _
                    rw [← e3]
                    have d1 := (hBd.cell (p := ⟨X, 11, none⟩) hXl).trans c1
                    have d2 := (hBd.cell (p := ⟨X, 12, none⟩) hXl).trans c2
                    have HB4 := Lib.hid (Below.go HB2.out hBd)
                    clear e3 hBd c1 c2 hXl HB2
                    go_wp2_with (fail)
                    go_roundw
                    case rel => exact ⟨k + 1, HK.out, by rw [HN2.out, EN.out]; simp [*], by go_num, HB4⟩
                    case measure => (have := HK.out; simp [intOf]; omega)
                  | false =>
                    go_quiet (first | (go_at_call 15; exact Calls.quiet_of_same (HO.out _)))
                    obtain ⟨W2, e3⟩ : ∃ x, x = W1.drewN nq := ⟨_, rfl⟩
                    have hBd : Below W1.heap.size W1 W2 := e3 ▸ below_drewN (Below.refl _ _) _
                    rw [← e3]
                    have d1 := (hBd.cell (p := ⟨X, 11, none⟩) hXl).trans c1
                    have d2 := (hBd.cell (p := ⟨X, 12, none⟩) hXl).trans c2
                    have HB4 := Lib.hid (Below.go HB2.out hBd)
                    clear e3 hBd c1 c2 hXl HB2
                    go_wp2_with (fail)
                    go_roundw
                    case rel => exact ⟨k + 1, HK.out, by rw [HN2.out, EN.out]; simp [*], by go_num, HB4⟩
                    case measure => (have := HK.out; simp [intOf]; omega)
              · obtain rfl : k = m := by omega
                have e1 : decide (k < k) = false := decide_eq_false h
                clear hk
                have HO := Lib.hid (Holds_any a b z)
                rw [MZ.out] at HO
                clear MZ h
                generalize (B0 && alB (winB F T z) k) = Q at *
                go_wp2_with (fail)
                go_at_call 15
                refine (HO.out _).mono ?_
                rintro e w7 ⟨rfl, hw⟩
                obtain rfl : wr = w7 := hw.symm
                go_wp2_with (fail)
                go_roundw
                case rel => exact ⟨i + 1, HI.out, by go_num, HB⟩
                case measure => (have := HI.out; simp [intOf]; omega)
          · obtain ⟨B0, eb⟩ : ∃ B, false = B := ⟨_, rfl⟩
            have EB := Lib.hid eb.symm
            have ex : decide (x ≤ z) = false := decide_eq_false hx
            rw [ex] at MZ
            rw [Bool.false_and, eb] at MZ
            clear hx eb
            go_wp2_with (fail)
            go_loopw [14, 78] (fun sv kv wr => ∃ (k : Nat), k ≤ m ∧ sv = .bool (B0 && alB (winB F T z) k) ∧ kv = .int .i64 k ∧ Hid (Below V.heap.size V wr)) (fun _ kv _ => (m - (intOf kv).toNat))
            case atStart => exact ⟨0, Nat.zero_le _, by rw [EB.out]; simp [alB], rfl, HBV⟩
            case round =>
              obtain ⟨k, hk, rfl, rfl, HB⟩ := hrel
              by_cases h : k < m
              · have wk : IntKind.i64.wrap ((k : Int) + 1) = (k : Int) + 1 := IntWalk.i64_in _ (by have := HM.out; omega)
                obtain ⟨D, o, rfl, hl, hcc⟩ := (HP.out.later HB.out).resolve_left (by omega)
                obtain ⟨l, ⟨mi, mk, ml, mg, ms, mc, rfl⟩, hh⟩ := hcc k h
                have HH := Lib.hid hh
                have e1 : decide (k < m) = true := decide_eq_true h
                have HK := Lib.hid h
                clear hk hcc hh
                go_upto_region 16 with (refine wpList_load_mid rfl 37 _ rfl D (o + k * 15) rfl _ _ HH.out.cell Try.underlying37 rfl (by kernel_rfl) ?_)
                obtain ⟨W1, X, eW, eX, HX, HBX, XW, S⟩ := lal1 wr _ #[.int .u64 mi, .int .i64 mk, .int .u32 ml, .int .u8 (mg 0), .int .u8 (mg 1), .int .u8 (mg 2), .int .u8 (mg 3), .int .u8 (mg 4), .int .u8 (mg 5), .int .u8 (mg 6), .int .u8 (mg 7), .int .u32 (F k), .int .u32 (T k), .int .i64 ms, .int .i64 mc] 37 [.int .u64 mi, .int .i64 mk, .int .u32 ml, .int .u8 (mg 0), .int .u8 (mg 1), .int .u8 (mg 2), .int .u8 (mg 3), .int .u8 (mg 4), .int .u8 (mg 5), .int .u8 (mg 6), .int .u8 (mg 7), .int .u32 (F k), .int .u32 (T k), .int .i64 ms, .int .i64 mc] rfl rfl
                rw [eW, eX]
                have c1 := HX.out.at 11 _ rfl
                have c2 := HX.out.at 12 _ rfl
                have hXl := HX.out.lt
                have HB2 : Hid (Below V.heap.size V W1) := Lib.hid (Below.go HB.out HBX.out)
                have HO := Lib.hid (Holds_any (F k) (T k) z)
                obtain ⟨Q2, eq2⟩ : ∃ Q, (B0 && alB (winB F T z) (k + 1)) = Q := ⟨_, rfl⟩
                have HN2 := Lib.hid eq2
                have EN : Hid (Q2 = ((B0 && alB (winB F T z) k) && (decide (F k ≤ z) && decide (z ≤ T k)))) := Lib.hid (by rw [← eq2, Bool.and_assoc]; rfl)
                clear eW eX S HX HBX XW HB HH hl h eq2
                generalize (B0 && alB (winB F T z) k) = Q at *
                by_cases hF : F k ≤ z
                · have eF : decide (F k ≤ z) = true := decide_eq_true hF
                  rw [eF, Bool.true_and] at HO EN
                  clear hF
                  cases Q with
                  | true =>
                    go_quiet (first | (go_at_call 15; exact Calls.quiet_of_same (HO.out _)))
                    obtain ⟨W2, e3⟩ : ∃ x, x = W1.drewN nq := ⟨_, rfl⟩
                    have hBd : Below W1.heap.size W1 W2 := e3 ▸ below_drewN (Below.refl _ _) _
                    rw [← e3]
                    have d1 := (hBd.cell (p := ⟨X, 11, none⟩) hXl).trans c1
                    have d2 := (hBd.cell (p := ⟨X, 12, none⟩) hXl).trans c2
                    have HB4 := Lib.hid (Below.go HB2.out hBd)
                    clear e3 hBd c1 c2 hXl HB2
                    go_wp2_with (fail)
                    go_roundw
                    case rel => exact ⟨k + 1, HK.out, by rw [HN2.out, EN.out]; simp [*], by go_num, HB4⟩
                    case measure => (have := HK.out; simp [intOf]; omega)
                  | false =>
                    go_quiet (first | (go_at_call 15; exact Calls.quiet_of_same (HO.out _)))
                    obtain ⟨W2, e3⟩ : ∃ x, x = W1.drewN nq := ⟨_, rfl⟩
                    have hBd : Below W1.heap.size W1 W2 := e3 ▸ below_drewN (Below.refl _ _) _
                    rw [← e3]
                    have d1 := (hBd.cell (p := ⟨X, 11, none⟩) hXl).trans c1
                    have d2 := (hBd.cell (p := ⟨X, 12, none⟩) hXl).trans c2
                    have HB4 := Lib.hid (Below.go HB2.out hBd)
                    clear e3 hBd c1 c2 hXl HB2
                    go_wp2_with (fail)
                    go_roundw
                    case rel => exact ⟨k + 1, HK.out, by rw [HN2.out, EN.out]; simp [*], by go_num, HB4⟩
                    case measure => (have := HK.out; simp [intOf]; omega)
                · have eF : decide (F k ≤ z) = false := decide_eq_false hF
                  rw [eF, Bool.false_and] at HO EN
                  clear hF
                  cases Q with
                  | true =>
                    go_quiet (first | (go_at_call 15; exact Calls.quiet_of_same (HO.out _)))
                    obtain ⟨W2, e3⟩ : ∃ x, x = W1.drewN nq := ⟨_, rfl⟩
                    have hBd : Below W1.heap.size W1 W2 := e3 ▸ below_drewN (Below.refl _ _) _
                    rw [← e3]
                    have d1 := (hBd.cell (p := ⟨X, 11, none⟩) hXl).trans c1
                    have d2 := (hBd.cell (p := ⟨X, 12, none⟩) hXl).trans c2
                    have HB4 := Lib.hid (Below.go HB2.out hBd)
                    clear e3 hBd c1 c2 hXl HB2
                    go_wp2_with (fail)
                    go_roundw
                    case rel => exact ⟨k + 1, HK.out, by rw [HN2.out, EN.out]; simp [*], by go_num, HB4⟩
                    case measure => (have := HK.out; simp [intOf]; omega)
                  | false =>
                    go_quiet (first | (go_at_call 15; exact Calls.quiet_of_same (HO.out _)))
                    obtain ⟨W2, e3⟩ : ∃ x, x = W1.drewN nq := ⟨_, rfl⟩
                    have hBd : Below W1.heap.size W1 W2 := e3 ▸ below_drewN (Below.refl _ _) _
                    rw [← e3]
                    have d1 := (hBd.cell (p := ⟨X, 11, none⟩) hXl).trans c1
                    have d2 := (hBd.cell (p := ⟨X, 12, none⟩) hXl).trans c2
                    have HB4 := Lib.hid (Below.go HB2.out hBd)
                    clear e3 hBd c1 c2 hXl HB2
                    go_wp2_with (fail)
                    go_roundw
                    case rel => exact ⟨k + 1, HK.out, by rw [HN2.out, EN.out]; simp [*], by go_num, HB4⟩
                    case measure => (have := HK.out; simp [intOf]; omega)
              · obtain rfl : k = m := by omega
                have e1 : decide (k < k) = false := decide_eq_false h
                clear hk
                have HO := Lib.hid (Holds_any a b z)
                rw [MZ.out] at HO
                clear MZ h
                generalize (B0 && alB (winB F T z) k) = Q at *
                go_wp2_with (fail)
                go_at_call 15
                refine (HO.out _).mono ?_
                rintro e w7 ⟨rfl, hw⟩
                obtain rfl : wr = w7 := hw.symm
                go_wp2_with (fail)
                go_roundw
                case rel => exact ⟨i + 1, HI.out, by go_num, HB⟩
                case measure => (have := HI.out; simp [intOf]; omega)
        · obtain rfl : i = N := by omega
          have e2 : decide (i < i) = false := decide_eq_false h
          clear hi' h
          have HBE := Lib.hid (Below.go HBV0.out HBV.out)
          go_wp2_with (fail)
          go_at_call 11
          refine (works_any _).mono ?_
          rintro e w7 ⟨rfl, hb⟩
          have HB7 := Lib.hid (Below.go HBE.out hb)
          clear hb
          go_wp2_with (fail)
          go_ret
          exact ⟨rfl, HB7.out⟩
end Go.Proofs.Ytmbnmbjlggbfkaa
