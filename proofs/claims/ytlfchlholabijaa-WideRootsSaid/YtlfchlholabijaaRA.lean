/- The document's numbers, as digits: what a slice of digits reads as; trim, digit. -/
import Derived.Test.YtlfchlholabijaaWF
import Derived.LoopTactic
namespace Go.Proofs.Ytlfchlholabijaa
set_option linter.unusedVariables false
set_option maxRecDepth 2000
open Go.RowKit

/-- the slice s reads as the digits ds in the world w -/
def SlR (w : World) (s : Value) (ds : List Int) : Prop :=
  (s = .slice none 0 0 ∧ ds = []) ∨ ∃ blk n cap, s = .slice (some ⟨blk, 0, none⟩) n cap ∧ ds.length = n ∧ n ≤ cap ∧ n ≤ 1000000 ∧ blk < w.heap.size ∧ ∀ i, i < n → w.cell? ⟨blk, i, none⟩ = some (.int .i64 (ds.getD i 0))
theorem SlR.later {w w' : World} {s : Value} {ds : List Int} {B : Nat} (h : SlR w s ds) (hb : Below B w w') (hB : w.heap.size ≤ B) : SlR w' s ds := by
  rcases h with h | ⟨blk, n, cap, h1, h2, h3, h4, h5, h6⟩
  · exact .inl h
  · exact .inr ⟨blk, n, cap, h1, h2, h3, h4, Nat.lt_of_lt_of_le h5 hb.size, fun i hi => (hb.cell (p := ⟨blk, i, none⟩) (Nat.lt_of_lt_of_le h5 hB)).trans (h6 i hi)⟩

/-- what trim leaves: the digits up to the last that is not 0 -/
def TrimRes (w : World) (b : Bool) (ds : List Int) (e : Ending) (w' : World) : Prop :=
  ∃ s k, e = .returned (.agg #[.bool (b && decide (0 < k)), s]) ∧ k ≤ ds.length ∧ (∀ i, k ≤ i → ds.getD i 0 = 0) ∧ (k = 0 ∨ ds.getD (k - 1) 0 ≠ 0) ∧ SlR w' s (ds.take k) ∧ Below w.heap.size w w'

theorem trim_nil (b : Bool) (w : World) :
    Calls Try.prog 19 #[.agg #[.bool b, .slice none 0 0]] w fun e w' => e = .returned (.agg #[.bool false, .slice none 0 0]) ∧ Below w.heap.size w w' := by
  go_enter Try.func19, Try.ntmps19
  go_wp2
  go_loop [3] (fun x => x = .int .i64 0) (fun _ => 0)
  case atStart => rfl
  case round =>
    subst hrel
    go_wp2
    exact bodyPost_ret (v := .agg #[.bool false, .slice none 0 0]) (by simp [results, Try.results19, go_sem]) rfl ⟨rfl, (by repeat (first | exact Below.refl _ _ | assumption | refine below_drewN ?_ _ | refine Below.drew ?_ | refine Below.alloc ?_ (by first | omega | (simp; done) | (simp; omega)) _ | refine Below.setCell ?_ (by first | (simp; done) | (simp; omega)) _))⟩

theorem trim_some (b : Bool) (blk n cap : Nat) (ds : List Int) (hn : ds.length = n) (hc : n ≤ cap) (hcap : n ≤ 1000000) (w : World) (hb : blk < w.heap.size)
    (cells : ∀ i, i < n → w.cell? ⟨blk, i, none⟩ = some (.int .i64 (ds.getD i 0))) :
    Calls Try.prog 19 #[.agg #[.bool b, .slice (some ⟨blk, 0, none⟩) n cap]] w (TrimRes w b ds) := by
  have CL := Lib.hid cells; clear cells
  have HN := Lib.hid hn; clear hn
  go_enter Try.func19, Try.ntmps19
  go_wp2
  go_loop [3] (fun x => ∃ k : Nat, k ≤ n ∧ x = .int .i64 k ∧ Hid (∀ i, k ≤ i → ds.getD i 0 = 0)) (fun x => (intOf x).toNat)
  case atStart => exact ⟨n, by omega, rfl, fun i hi => by rw [List.getD_eq_getElem?_getD, List.getElem?_eq_none (by rw [HN.out]; exact hi)]; rfl⟩
  case round =>
    obtain ⟨k, hk, rfl, hz⟩ := hrel
    by_cases h0 : k = 0
    · subst h0
      go_wp2
      exact bodyPost_ret (v := .agg #[.bool false, .slice (some ⟨blk, 0, none⟩) 0 cap]) (by simp [results, Try.results19, go_sem]) rfl
        ⟨_, 0, by simp, Nat.zero_le _, hz.out, .inl rfl, .inr ⟨blk, 0, cap, rfl, rfl, by omega, by omega, by simp; omega, fun i hi => by omega⟩, (by repeat (first | exact Below.refl _ _ | assumption | refine below_drewN ?_ _ | refine Below.drew ?_ | refine Below.alloc ?_ (by first | omega | (simp; done) | (simp; omega)) _ | refine Below.setCell ?_ (by first | (simp; done) | (simp; omega)) _))⟩
    · obtain ⟨j, rfl⟩ : ∃ j, k = j + 1 := ⟨k - 1, by omega⟩
      have cj := CL.out j (by omega)
      have hlt : blk < w.heap.size := hb
      by_cases hd : ds.getD j 0 = 0
      · rw [hd] at cj
        go_wp2
        go_round
        case rel => exact ⟨j, by omega, by go_num, fun i hi => by rcases Nat.eq_or_lt_of_le hi with e | e; exact e ▸ hd; exact hz.out i e⟩
        case measure => simp [intOf]
      · have hdb : (ds.getD j 0 == 0) = false := by simpa using hd
        generalize hdj : ds.getD j 0 = d at *
        go_wp2
        refine bodyPost_ret (v := .agg #[.bool b, .slice (some ⟨blk, 0, none⟩) (j + 1) cap]) (by simp [results, Try.results19, go_sem]) rfl
          ⟨.slice (some ⟨blk, 0, none⟩) (j + 1) cap, j + 1, by simp, by rw [HN.out]; exact hk, hz.out, .inr (by rw [Nat.add_sub_cancel, hdj]; exact hd), ?_, (by repeat (first | exact Below.refl _ _ | assumption | refine below_drewN ?_ _ | refine Below.drew ?_ | refine Below.alloc ?_ (by first | omega | (simp; done) | (simp; omega)) _ | refine Below.setCell ?_ (by first | (simp; done) | (simp; omega)) _))⟩
        refine .inr ⟨blk, j + 1, cap, rfl, by rw [List.length_take, HN.out]; omega, by omega, by omega, by simp; omega, fun i hi => ?_⟩
        have e : (ds.take (j + 1)).getD i 0 = ds.getD i 0 := by
          rw [List.getD_eq_getElem?_getD, List.getD_eq_getElem?_getD, List.getElem?_take_of_lt hi]
        rw [e]
        have bl : Below w.heap.size w ((w.alloc (.cells #[.bool b, .slice (some ⟨blk, 0, none⟩) (j + 1) cap] 29)).alloc (.cells #[.bool b, .slice (some ⟨blk, 0, none⟩) (j + 1) cap] 29)) := (by repeat (first | exact Below.refl _ _ | assumption | refine below_drewN ?_ _ | refine Below.drew ?_ | refine Below.alloc ?_ (by first | omega | (simp; done) | (simp; omega)) _ | refine Below.setCell ?_ (by first | (simp; done) | (simp; omega)) _))
        exact (bl.cell (p := ⟨blk, i, none⟩) hb).trans (CL.out i (by omega))

theorem trim_any (b : Bool) (s : Value) (ds : List Int) (w : World) (h : SlR w s ds) : Calls Try.prog 19 #[.agg #[.bool b, s]] w (TrimRes w b ds) := by
  rcases h with ⟨rfl, rfl⟩ | ⟨blk, n, cap, rfl, h2, h3, h4, h5, h6⟩
  · exact (trim_nil b w).mono fun e w' ⟨he, hb⟩ => ⟨.slice none 0 0, 0, by rw [he]; simp, Nat.zero_le _, fun i _ => by simp, .inl rfl, .inl ⟨rfl, rfl⟩, hb⟩
  · exact trim_some b blk n cap ds h2 h3 h4 w h5 h6

/-- the number that digits of 16 bits make, the lowest first -/
def val : List Int → Int
  | [] => 0
  | d :: l => d + 65536 * val l
theorem val_nonneg (ds : List Int) (h : ∀ i, 0 ≤ ds.getD i 0) : 0 ≤ val ds := by
  induction ds with
  | nil => exact Int.le_refl _
  | cons d l ih =>
    have h0 := h 0
    have hl := ih fun i => by simpa using h (i + 1)
    simp at h0
    unfold val; omega
theorem val_take (ds : List Int) (k : Nat) (h : ∀ i, k ≤ i → ds.getD i 0 = 0) : val (ds.take k) = val ds := by
  induction ds generalizing k with
  | nil => simp
  | cons d l ih =>
    cases k with
    | zero =>
      have h0 := h 0 (Nat.le_refl _)
      have hl := ih 0 fun i hi => by simpa using h (i + 1) (by omega)
      simp at h0 hl
      simp [val, h0, ← hl]
    | succ k =>
      have hl := ih k fun i hi => by simpa using h (i + 1) (by omega)
      simp [val, hl]
theorem val_zero (ds : List Int) (h : ∀ i, 0 ≤ ds.getD i 0) (hv : val ds = 0) : ∀ i, ds.getD i 0 = 0 := by
  induction ds with
  | nil => intro i; simp
  | cons d l ih =>
    have h0 := h 0
    have hl' : ∀ i, 0 ≤ l.getD i 0 := fun i => by simpa using h (i + 1)
    have hl := val_nonneg l hl'
    simp at h0
    unfold val at hv
    intro i
    cases i with
    | zero => simp; omega
    | succ i => simpa using ih hl' (by omega) i

/-- v is the document's number z in the world w: canonical digits -/
def NumR (w : World) (v : Value) (z : Int) : Prop :=
  ∃ (b : Bool) (s : Value) (ds : List Int), v = .agg #[.bool b, s] ∧ SlR w s ds ∧ (∀ i, 0 ≤ ds.getD i 0 ∧ ds.getD i 0 ≤ 65535) ∧ (ds = [] ∨ ds.getD (ds.length - 1) 0 ≠ 0) ∧ (ds = [] → b = false) ∧ z = if b then -val ds else val ds
theorem NumR.later {w w' : World} {v : Value} {z : Int} {B : Nat} (h : NumR w v z) (hb : Below B w w') (hB : w.heap.size ≤ B) : NumR w' v z := by
  obtain ⟨b, s, ds, h1, h2, h3⟩ := h
  exact ⟨b, s, ds, h1, h2.later hb hB, h3⟩

theorem TrimRes.num {w w' : World} {b : Bool} {ds : List Int} {e : Ending} (hd : ∀ i, 0 ≤ ds.getD i 0 ∧ ds.getD i 0 ≤ 65535) (h : TrimRes w b ds e w') :
    ∃ v, e = .returned v ∧ NumR w' v (if b then -val ds else val ds) ∧ Below w.heap.size w w' := by
  obtain ⟨s, k, rfl, h1, h2, h3, h4, h5⟩ := h
  refine ⟨_, rfl, ⟨_, s, ds.take k, rfl, h4, ?_, ?_, ?_, ?_⟩, h5⟩
  · intro i
    by_cases hi : i < k
    · have e : (ds.take k).getD i 0 = ds.getD i 0 := by rw [List.getD_eq_getElem?_getD, List.getD_eq_getElem?_getD, List.getElem?_take_of_lt hi]
      rw [e]; exact hd i
    · have e : (ds.take k).getD i 0 = 0 := by rw [List.getD_eq_getElem?_getD, List.getElem?_eq_none (by rw [List.length_take]; omega)]; rfl
      rw [e]; omega
  · rcases h3 with rfl | h3
    · exact .inl (by simp)
    · by_cases hk : k = 0
      · subst hk; exact .inl (by simp)
      · refine .inr ?_
        have e : (ds.take k).getD (k - 1) 0 = ds.getD (k - 1) 0 := by rw [List.getD_eq_getElem?_getD, List.getD_eq_getElem?_getD, List.getElem?_take_of_lt (by omega)]
        rw [List.length_take, Nat.min_eq_left h1, e]; exact h3
  · intro hn
    have : k = 0 := by
      have := congrArg List.length hn
      rw [List.length_take, Nat.min_eq_left h1] at this
      simpa using this
    simp [this]
  · rw [val_take ds k h2]
    cases b
    · simp
    · by_cases hk : 0 < k
      · simp [hk]
      · have : k = 0 := by omega
        subst this
        have : val ds = 0 := by rw [← val_take ds 0 h2]; simp [val]
        simp [this]

/-- trim of digits that are not canonical yet -/
theorem trim_num (b : Bool) (s : Value) (ds : List Int) (w : World) (h : SlR w s ds) (hd : ∀ i, 0 ≤ ds.getD i 0 ∧ ds.getD i 0 ≤ 65535) :
    Calls Try.prog 19 #[.agg #[.bool b, s]] w fun e w' => ∃ v, e = .returned v ∧ NumR w' v (if b then -val ds else val ds) ∧ Below w.heap.size w w' :=
  (trim_any b s ds w h).mono fun _ _ h => h.num hd

theorem digit_some (b : Bool) (blk n cap i : Nat) (ds : List Int) (hn : ds.length = n) (hi : i ≤ 1000000) (hnn : n ≤ 1000000) (w : World) (hb : blk < w.heap.size)
    (cells : ∀ i, i < n → w.cell? ⟨blk, i, none⟩ = some (.int .i64 (ds.getD i 0))) :
    Calls Try.prog 18 #[.agg #[.bool b, .slice (some ⟨blk, 0, none⟩) n cap], .int .i64 i] w fun e w' => e = .returned (.int .i64 (ds.getD i 0)) ∧ Below w.heap.size w w' := by
  by_cases hlt : i < n
  · have ci := cells i hlt
    clear cells hn
    generalize ds.getD i 0 = d at *
    go_enter Try.func18, Try.ntmps18
    go_wp2
    go_ret
    exact ⟨rfl, (by repeat (first | exact Below.refl _ _ | assumption | refine below_drewN ?_ _ | refine Below.drew ?_ | refine Below.alloc ?_ (by first | omega | (simp; done) | (simp; omega)) _ | refine Below.setCell ?_ (by first | (simp; done) | (simp; omega)) _))⟩
  · have e : ds.getD i 0 = 0 := by rw [List.getD_eq_getElem?_getD, List.getElem?_eq_none (by omega)]; rfl
    rw [e]
    clear cells hn e
    go_enter Try.func18, Try.ntmps18
    go_wp2
    go_ret
    exact ⟨rfl, (by repeat (first | exact Below.refl _ _ | assumption | refine below_drewN ?_ _ | refine Below.drew ?_ | refine Below.alloc ?_ (by first | omega | (simp; done) | (simp; omega)) _ | refine Below.setCell ?_ (by first | (simp; done) | (simp; omega)) _))⟩
theorem digit_nil (b : Bool) (i : Nat) (hi : i ≤ 1000000) (w : World) :
    Calls Try.prog 18 #[.agg #[.bool b, .slice none 0 0], .int .i64 i] w fun e w' => e = .returned (.int .i64 0) ∧ Below w.heap.size w w' := by
  have h0 : ¬ (i : Int) < 0 := by omega
  go_enter Try.func18, Try.ntmps18
  go_wp2
  go_ret
  exact ⟨rfl, (by repeat (first | exact Below.refl _ _ | assumption | refine below_drewN ?_ _ | refine Below.drew ?_ | refine Below.alloc ?_ (by first | omega | (simp; done) | (simp; omega)) _ | refine Below.setCell ?_ (by first | (simp; done) | (simp; omega)) _))⟩
theorem digit_any (b : Bool) (s : Value) (ds : List Int) (i : Nat) (hi : i ≤ 1000000) (w : World) (h : SlR w s ds) :
    Calls Try.prog 18 #[.agg #[.bool b, s], .int .i64 i] w fun e w' => e = .returned (.int .i64 (ds.getD i 0)) ∧ Below w.heap.size w w' := by
  rcases h with ⟨rfl, rfl⟩ | ⟨blk, n, cap, rfl, h2, h3, h4, h5, h6⟩
  · simpa using digit_nil b i hi w
  · exact digit_some b blk n cap i ds h2 hi h4 w h5 h6
end Go.Proofs.Ytlfchlholabijaa
