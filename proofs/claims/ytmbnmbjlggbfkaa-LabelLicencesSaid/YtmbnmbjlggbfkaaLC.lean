/- label: licences: the two closures, the fold over manifests, Meet. -/
import Derived.Test.YtmbnmbjlggbfkaaLB
import Derived.Deep.MidRow
import Derived.Laws.EntriesVeiled
namespace Go.Proofs.Ytmbnmbjlggbfkaa
set_option linter.unusedVariables false
set_option maxRecDepth 2000
set_option linter.unusedSimpArgs false
open Go.RowKit
/-- the cells of a manifest whose window is from f to t -/
def IsMan (l : List Value) (mf mt : Int) : Prop := ∃ (mi mk ml : Int) (mg : Nat → Int) (ms mc : Int), l = [.int .u64 mi, .int .i64 mk, .int .u32 ml, .int .u8 (mg 0), .int .u8 (mg 1), .int .u8 (mg 2), .int .u8 (mg 3), .int .u8 (mg 4), .int .u8 (mg 5), .int .u8 (mg 6), .int .u8 (mg 7), .int .u32 mf, .int .u32 mt, .int .i64 ms, .int .i64 mc]
def mxU (a b : Int) : Int := if a < b then b else a
def mnU (a b : Int) : Int := if b < a then b else a
theorem Later_any (a mi mk ml : Int) (mg : Nat → Int) (mf mt ms mc : Int) (w : World) : Calls Try.prog 18 #[.int .u32 a, .agg #[.int .u64 mi, .int .i64 mk, .int .u32 ml, .int .u8 (mg 0), .int .u8 (mg 1), .int .u8 (mg 2), .int .u8 (mg 3), .int .u8 (mg 4), .int .u8 (mg 5), .int .u8 (mg 6), .int .u8 (mg 7), .int .u32 mf, .int .u32 mt, .int .i64 ms, .int .i64 mc]] w fun e w' => e = .returned (.int .u32 (mxU a mf)) ∧ Below w.heap.size w w' := by
  by_cases h : a < mf
  · go_enter Try.func18, Try.ntmps18
    go_wp2_with (fail)
    go_ret
    exact ⟨by unfold mxU; rw [if_pos h]; rfl, (by repeat (first | exact Below.refl _ _ | assumption | refine below_drewN ?_ _ | refine Below.drew ?_ | refine Below.alloc ?_ (by first | omega | (simp; done) | (simp; omega)) _ | refine Below.setCell ?_ (by first | (simp; done) | (simp; omega)) _))⟩
  · have h2 : mf ≤ a := by omega
    go_enter Try.func18, Try.ntmps18
    go_wp2_with (fail)
    go_ret
    exact ⟨by unfold mxU; rw [if_neg (by omega)]; rfl, (by repeat (first | exact Below.refl _ _ | assumption | refine below_drewN ?_ _ | refine Below.drew ?_ | refine Below.alloc ?_ (by first | omega | (simp; done) | (simp; omega)) _ | refine Below.setCell ?_ (by first | (simp; done) | (simp; omega)) _))⟩
theorem Earlier_any (a mi mk ml : Int) (mg : Nat → Int) (mf mt ms mc : Int) (w : World) : Calls Try.prog 19 #[.int .u32 a, .agg #[.int .u64 mi, .int .i64 mk, .int .u32 ml, .int .u8 (mg 0), .int .u8 (mg 1), .int .u8 (mg 2), .int .u8 (mg 3), .int .u8 (mg 4), .int .u8 (mg 5), .int .u8 (mg 6), .int .u8 (mg 7), .int .u32 mf, .int .u32 mt, .int .i64 ms, .int .i64 mc]] w fun e w' => e = .returned (.int .u32 (mnU a mt)) ∧ Below w.heap.size w w' := by
  by_cases h : mt < a
  · go_enter Try.func19, Try.ntmps19
    go_wp2_with (fail)
    go_ret
    exact ⟨by unfold mnU; rw [if_pos h]; rfl, (by repeat (first | exact Below.refl _ _ | assumption | refine below_drewN ?_ _ | refine Below.drew ?_ | refine Below.alloc ?_ (by first | omega | (simp; done) | (simp; omega)) _ | refine Below.setCell ?_ (by first | (simp; done) | (simp; omega)) _))⟩
  · have h2 : a ≤ mt := by omega
    go_enter Try.func19, Try.ntmps19
    go_wp2_with (fail)
    go_ret
    exact ⟨by unfold mnU; rw [if_neg (by omega)]; rfl, (by repeat (first | exact Below.refl _ _ | assumption | refine below_drewN ?_ _ | refine Below.drew ?_ | refine Below.alloc ?_ (by first | omega | (simp; done) | (simp; omega)) _ | refine Below.setCell ?_ (by first | (simp; done) | (simp; omega)) _))⟩
/-- a slice of n manifests, whose windows are from F k to T k -/
def Mans (w : World) (p : Option Addr) (n : Nat) (F T : Nat → Int) : Prop := n = 0 ∨ ∃ b o, p = some ⟨b, o, none⟩ ∧ b < w.heap.size ∧ ∀ k, k < n → ∃ l, IsMan l (F k) (T k) ∧ Has b (o + k * 15) l w
theorem Mans.later {w w' : World} {p : Option Addr} {n : Nat} {F T : Nat → Int} (h : Mans w p n F T) (hb : Below w.heap.size w w') : Mans w' p n F T := by
  rcases h with h | ⟨b, o, e, hl, hc⟩
  · exact .inl h
  · refine .inr ⟨b, o, e, Nat.lt_of_lt_of_le hl hb.size, fun k hk => ?_⟩
    obtain ⟨l, h1, h2⟩ := hc k hk
    exact ⟨l, h1, h2.later hb⟩
theorem Mans.take {w : World} {p : Option Addr} {n m : Nat} {F T : Nat → Int} (h : Mans w p n F T) (hm : m ≤ n) : Mans w p m F T := by
  rcases h with h | ⟨b, o, e, hl, hc⟩
  · exact .inl (by omega)
  · exact .inr ⟨b, o, e, hl, fun k hk => hc k (by omega)⟩
def latF (s : Int) (f : Nat → Int) : Nat → Int
  | 0 => s
  | k + 1 => mxU (latF s f k) (f k)
def earF (s : Int) (f : Nat → Int) : Nat → Int
  | 0 => s
  | k + 1 => mnU (earF s f k) (f k)
/-- what a function value does with a number and a manifest -/
def Steps (g : Nat) (st : Int → Int → Int → Int) : Prop := ∀ (a mi mk ml : Int) (mg : Nat → Int) (mf mt ms mc : Int) (w : World), Calls Try.prog g #[.int .u32 a, .agg #[.int .u64 mi, .int .i64 mk, .int .u32 ml, .int .u8 (mg 0), .int .u8 (mg 1), .int .u8 (mg 2), .int .u8 (mg 3), .int .u8 (mg 4), .int .u8 (mg 5), .int .u8 (mg 6), .int .u8 (mg 7), .int .u32 mf, .int .u32 mt, .int .i64 ms, .int .i64 mc]] w fun e w' => e = .returned (.int .u32 (st a mf mt)) ∧ Below w.heap.size w w'
def fldF (st : Int → Int → Int → Int) (s : Int) (F T : Nat → Int) : Nat → Int
  | 0 => s
  | k + 1 => st (fldF st s F T k) (F k) (T k)
theorem there_newm {W : World} {cs : List Value} {T : TypeId} {n : Nat} (h : cs.length = n) : (W.alloc (.cells cs.toArray T)).there W.heap.size 0 n := h ▸ (Own.new W cs T).free
set_option maxHeartbeats 4000000 in
theorem FoldM_any (g : Nat) (st : Int → Int → Int → Int) (s : Int) (p : Option Addr) (n c : Nat) (F T : Nat → Int) (eg : ∀ args w, (callFunc g args).run Try.prog w = .ok (.enter g args) w) (hst : Steps g st) (hn : n ≤ 4611686018427387904) (w : World) (hp : Mans w p n F T) :
    Calls Try.prog 20 #[.func (.func g) #[] #[], .int .u32 s, .slice p n c] w fun e w' => e = .returned (.int .u32 (fldF st s F T n)) ∧ Below w.heap.size w w' := by
  have HS := Lib.hid hst
  have HN := Lib.hid hn
  have HP := Lib.hid hp
  clear hst hn hp
  go_enter Try.func20, Try.ntmps20
  go_wp2_with (fail)
  go_loopw [1, 11] (fun sv iv wr => ∃ (k : Nat), k ≤ n ∧ sv = .int .u32 (fldF st s F T k) ∧ iv = .int .i64 k ∧ Hid (Below w.heap.size w wr)) (fun _ iv _ => (n - (intOf iv).toNat))
  case atStart => exact ⟨0, Nat.zero_le _, rfl, rfl, Lib.hid (Below.refl _ _)⟩
  case round =>
    obtain ⟨k, hk, rfl, rfl, HB⟩ := hrel
    by_cases h : k < n
    · have wk : IntKind.i64.wrap ((k : Int) + 1) = (k : Int) + 1 := IntWalk.i64_in _ (by have := HN.out; omega)
      obtain ⟨b, o, rfl, hl, hc⟩ := (HP.out.later HB.out).resolve_left (by omega)
      obtain ⟨l, ⟨mi, mk, ml, mg, ms, mc, rfl⟩, hh⟩ := hc k h
      have HH := Lib.hid hh
      have e1 : decide (k < n) = true := decide_eq_true h
      have HK := Lib.hid h
      clear hk hc hh
      go_wp2_with (refine wpList_load_mid rfl 37 _ rfl b (o + k * 15) rfl _ _ HH.out.cell Try.underlying37 rfl (by kernel_rfl) ?_)
      refine (HS.out _ _ _ _ _ _ _ _ _ _).mono ?_
      rintro e w1 ⟨rfl, hb⟩
      have HB1 := Lib.hid (Below.go (Below.al HB.out) hb)
      clear hb HB HH
      go_wp2_with (fail)
      go_roundw
      case rel => exact ⟨k + 1, HK.out, rfl, by go_num, HB1⟩
      case measure => (have := HK.out; simp [intOf]; omega)
    · obtain rfl : k = n := by omega
      have e1 : decide (k < k) = false := decide_eq_false h
      clear hk
      go_wp2_with (fail)
      go_ret
      exact ⟨rfl, HB.out⟩
theorem fld_lat (s : Int) (F T : Nat → Int) : ∀ n, fldF (fun a f _ => mxU a f) s F T n = latF s F n
  | 0 => rfl
  | k + 1 => by simp only [fldF, latF, fld_lat s F T k]
theorem fld_ear (s : Int) (F T : Nat → Int) : ∀ n, fldF (fun a _ t => mnU a t) s F T n = earF s T n
  | 0 => rfl
  | k + 1 => by simp only [fldF, earF, fld_ear s F T k]
theorem Meet_any (x y : Int) (p : Option Addr) (n c : Nat) (F T : Nat → Int) (hn : n ≤ 4611686018427387904) (w : World) (hp : Mans w p n F T) :
    Calls Try.prog 14 #[.int .u32 x, .int .u32 y, .slice p n c] w fun e w' => e = .returned (.tuple #[.int .u32 (latF x F n), .int .u32 (earF y T n)]) ∧ Below w.heap.size w w' := by
  have F1 := Lib.hid (fun w hp => FoldM_any 18 (fun a f _ => mxU a f) x p n c F T (fun _ _ => rfl) (fun a mi mk ml mg mf mt ms mc w => Later_any a mi mk ml mg mf mt ms mc w) hn w hp)
  have F2 := Lib.hid (fun w hp => FoldM_any 19 (fun a _ t => mnU a t) y p n c F T (fun _ _ => rfl) (fun a mi mk ml mg mf mt ms mc w => Earlier_any a mi mk ml mg mf mt ms mc w) hn w hp)
  rw [fld_lat] at F1
  rw [fld_ear] at F2
  have HP := Lib.hid hp
  clear hp hn
  generalize latF x F n = a at *
  generalize earF y T n = b at *
  go_enter Try.func14, Try.ntmps14
  go_wp2_with (fail)
  go_at_call 20
  refine (F1.out w HP.out).mono ?_
  rintro e w1 ⟨rfl, hb⟩
  have HB1 := Lib.hid hb
  clear hb
  go_wp2_with (fail)
  go_at_call 20
  refine (F2.out w1 (HP.out.later HB1.out)).mono ?_
  rintro e w2 ⟨rfl, hb⟩
  have HB2 := Lib.hid (Below.go HB1.out hb)
  clear hb HB1
  go_wp2_with (fail)
  exact bodyPost_ret (v := .tuple #[.int .u32 a, .int .u32 b]) (by simp [results, Try.results14, go_sem, ]) rfl ⟨rfl, HB2.out⟩
theorem Holds_any (x y c : Int) (w : World) : Calls Try.prog 15 #[.int .u32 x, .int .u32 y, .int .u32 c] w fun e w' => e = .returned (.bool (decide (x ≤ c) && decide (c ≤ y))) ∧ w' = w := by
  by_cases h : x ≤ c
  · have e1 : decide (x ≤ c) = true := decide_eq_true h
    rw [e1]
    go_enter Try.func15, Try.ntmps15
    go_wp2_with (fail)
    go_ret
    exact ⟨rfl, rfl⟩
  · have e1 : decide (x ≤ c) = false := decide_eq_false h
    rw [e1]
    go_enter Try.func15, Try.ntmps15
    go_wp2_with (fail)
    go_ret
    exact ⟨rfl, rfl⟩
end Go.Proofs.Ytmbnmbjlggbfkaa
