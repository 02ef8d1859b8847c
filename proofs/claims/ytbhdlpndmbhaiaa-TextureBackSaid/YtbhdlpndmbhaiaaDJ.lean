/- codec: a Reader's cells; fail, Err, Left, End; those of a Reader that New did not make, and of none; Clone, New; number. -/
import Derived.Test.YtbhdlpndmbhaiaaDG
import Derived.Lib.Hide
import Derived.LoopN
import Derived.LoopTactic
import Derived.Deep.Onto
import Derived.Laws.BitsAllLaws
import Derived.Lib.SliceRun
namespace Go.Proofs.Ytbhdlpndmbhaiaa
set_option linter.unusedVariables false
set_option maxRecDepth 2000
set_option linter.unusedSimpArgs false
open Go.RowKit
attribute [local go_sem] nums_length
attribute [local go_sem ↓ high] sliced_head sliced_one
/-- how many bytes are left -/
def leftN (N at_ : Nat) (er : Int) : Nat := if er = 0 then N - at_ else 0
/-- a slice that holds f's first n bytes, in block D, which is not K -/
def BytD (w : World) (q : Option Addr) (n : Nat) (f : Nat → Int) (K D : Nat) : Prop := n = 0 ∨ ∃ off, q = some ⟨D, off, none⟩ ∧ D ≠ K ∧ Has D off (nums .u8 f n) w
theorem BytD.later {w w' : World} {q : Option Addr} {n K D : Nat} {f : Nat → Int} (h : BytD w q n f K D) (hb : Below w.heap.size w w') : BytD w' q n f K D := by
  rcases h with h | ⟨off, h1, h2, h3⟩
  · exact .inl h
  · exact .inr ⟨off, h1, h2, h3.later hb⟩
theorem BytD.but {w w' : World} {q : Option Addr} {n K D : Nat} {f : Nat → Int} (h : BytD w q n f K D) (hb : But K w w') : BytD w' q n f K D := by
  rcases h with h | ⟨off, h1, h2, h3⟩
  · exact .inl h
  · exact .inr ⟨off, h1, h2, h3.but hb h2⟩
theorem BytD.far {w w' : World} {q : Option Addr} {n K D S : Nat} {f : Nat → Int} (h : BytD w q n f K D) (hb : But S w w') (hn : D ≠ S) : BytD w' q n f K D := by
  rcases h with h | ⟨off, h1, h2, h3⟩
  · exact .inl h
  · exact .inr ⟨off, h1, h2, h3.but hb hn⟩
theorem BytD.byt {w : World} {q : Option Addr} {n K D : Nat} {f : Nat → Int} (h : BytD w q n f K D) : Byt w q n f := by
  rcases h with h | ⟨off, h1, _, h3⟩
  · exact .inl h
  · exact .inr ⟨D, off, h1, h3⟩
theorem bytD_drop {w : World} {p : Option Addr} {L l c K D : Nat} {f : Nat → Int} (h : BytD w p L f K D) (hl : l ≤ L) (hc : L ≤ c) : BytD w (slq p l c) (L - l) (fun j => f (l + j)) K D := by
  by_cases h0 : L - l = 0
  · exact .inl h0
  · obtain ⟨off, rfl, hk, hb⟩ := h.resolve_left (by omega)
    refine .inr ⟨off + l, ?_, hk, ?_⟩
    · unfold slq
      rw [if_neg (by omega)]
      simp [Addr.add]
    · exact has_drop hb (by omega)
theorem bytD_take {w : World} {p : Option Addr} {L l K D : Nat} {f : Nat → Int} (h : BytD w p L f K D) (hl : l ≤ L) : BytD w p l f K D := by
  by_cases h0 : l = 0
  · exact .inl h0
  · obtain ⟨off, rfl, hk, hb⟩ := h.resolve_left (by omega)
    exact .inr ⟨off, rfl, hk, has_take hb hl⟩
/-- a Reader of N bytes F, of which at_ were read -/
structure Rd (w : World) (K D : Nat) (F : Nat → Int) (N at_ : Nat) (er : Int) : Prop where
  ex : ∃ p c, Own K [.slice p (leftN N at_ er) c, .int .i64 er, .bool true] w ∧ BytD w p (leftN N at_ er) (fun j => F (at_ + j)) K D ∧ leftN N at_ er ≤ c ∧ c ≤ 9223372036854775807
theorem Rd.lt {w : World} {K D : Nat} {F : Nat → Int} {N at_ : Nat} {er : Int} (h : Rd w K D F N at_ er) : K < w.heap.size := by
  obtain ⟨p, c, h1, _⟩ := h.ex
  exact h1.lt
theorem Rd.later {w w' : World} {K D : Nat} {F : Nat → Int} {N at_ : Nat} {er : Int} (h : Rd w K D F N at_ er) (hb : Below w.heap.size w w') : Rd w' K D F N at_ er := by
  obtain ⟨p, c, h1, h2, h3, h4⟩ := h.ex
  exact ⟨p, c, h1.later hb, h2.later hb, h3, h4⟩
/-- the error behind a question of x bytes, of which there are at least lo and at most hi -/
def nxE (N at_ : Nat) (er x lo hi : Int) : Int := if er ≠ 0 then er else if x < lo ∨ hi < x then 2 else if ((N - at_ : Nat) : Int) < x then 4 else 0
def nxA (at_ : Nat) (x E : Int) : Nat := if E = 0 then at_ + x.toNat else at_
def nxL (x E : Int) : Nat := if E = 0 then x.toNat else 0
def endE (N at_ : Nat) (er : Int) : Int := if er ≠ 0 then er else if at_ < N then 5 else 0

theorem fail_any (K : Nat) (a b c : Value) (e : Int) (w : World) (hK : Own K [a, b, c] w) :
    Calls Try.prog 53 #[.pointer (some ⟨K, 0, none⟩), .int .i64 e] w fun r w' => r = .returned (.tuple #[]) ∧ Own K [.slice none 0 0, .int .i64 e, c] w' ∧ But K w w' := by
  have f0 := hK.ok 0 (by simp); have f1 := hK.ok 1 (by simp)
  have k0 := hK.at 0 _ rfl; have k1 := hK.at 1 _ rfl
  have Kl := hK.lt
  have O1 : Own K [.slice none 0 0, b, c] (w.setCells K 0 [.slice none 0 0]) := Own.part (o := 0) (vs := [.slice none 0 0]) hK (by simp)
  have O2 : Own K [.slice none 0 0, .int .i64 e, c] ((w.setCells K 0 [.slice none 0 0]).setCells K 1 [.int .i64 e]) := Own.part (o := 1) (vs := [.int .i64 e]) O1 (by simp)
  have B2 : But K w ((w.setCells K 0 [.slice none 0 0]).setCells K 1 [.int .i64 e]) := But.store.trans But.store
  have OO := Lib.hid O2; have BB := Lib.hid B2
  clear O1 O2 B2 hK
  go_enter Try.func53, Try.ntmps53
  go_wp2_with (fail)
  refine bodyPost_end (results_none rfl _ _ _) rfl ?_
  exact ⟨rfl, OO.out, BB.out⟩
theorem Err_cell (K : Nat) (er : Int) (w : World) (h1 : w.cell? ⟨K, 1, none⟩ = some (.int .i64 er)) (h2 : w.cell? ⟨K, 2, none⟩ = some (.bool true)) (Kl : K < w.heap.size) :
    Calls Try.prog 47 #[.pointer (some ⟨K, 0, none⟩)] w fun e w' => e = .returned (.int .i64 er) ∧ w' = w := by
  go_enter Try.func47, Try.ntmps47
  go_wp2_with (fail)
  go_ret
  exact ⟨rfl, rfl⟩
theorem Err_unmade (K : Nat) (w : World) (h2 : w.cell? ⟨K, 2, none⟩ = some (.bool false)) (Kl : K < w.heap.size) :
    Calls Try.prog 47 #[.pointer (some ⟨K, 0, none⟩)] w fun e w' => e = .returned (.int .i64 1) ∧ w' = w := by
  go_enter Try.func47, Try.ntmps47
  go_wp2_with (fail)
  go_ret
  exact ⟨rfl, rfl⟩
theorem Err_nil (w : World) : Calls Try.prog 47 #[.pointer none] w fun e w' => e = .returned (.int .i64 1) ∧ w' = w := by
  go_enter Try.func47, Try.ntmps47
  go_wp2_with (fail)
  go_ret
  exact ⟨rfl, rfl⟩
theorem Left_cell (K n c : Nat) (p : Option Addr) (w : World) (h0 : w.cell? ⟨K, 0, none⟩ = some (.slice p n c)) (Kl : K < w.heap.size) :
    Calls Try.prog 48 #[.pointer (some ⟨K, 0, none⟩)] w fun e w' => e = .returned (.int .i64 n) ∧ w' = w := by
  go_enter Try.func48, Try.ntmps48
  go_wp2_with (fail)
  go_ret
  exact ⟨rfl, rfl⟩
theorem Left_nil (w : World) : Calls Try.prog 48 #[.pointer none] w fun e w' => e = .returned (.int .i64 0) ∧ w' = w := by
  go_enter Try.func48, Try.ntmps48
  go_wp2_with (fail)
  go_ret
  exact ⟨rfl, rfl⟩
theorem Rd.far {w w' : World} {K D S : Nat} {F : Nat → Int} {N at_ : Nat} {er : Int} (h : Rd w K D F N at_ er) (hb : But S w w') (hK : K ≠ S) (hD : D ≠ S) : Rd w' K D F N at_ er := by
  obtain ⟨p, c, h1, h2, h3, h4⟩ := h.ex
  exact ⟨p, c, h1.but hb hK, h2.far hb hD, h3, h4⟩
theorem Err_any {K D N at_ : Nat} {er : Int} {F : Nat → Int} {w : World} (h : Rd w K D F N at_ er) : Calls Try.prog 47 #[.pointer (some ⟨K, 0, none⟩)] w fun e w' => e = .returned (.int .i64 er) ∧ w' = w := by
  obtain ⟨p, c, h1, _⟩ := h.ex
  exact Err_cell K er w (h1.at 1 _ rfl) (h1.at 2 _ rfl) h1.lt
theorem Left_any {K D N at_ : Nat} {er : Int} {F : Nat → Int} {w : World} (h : Rd w K D F N at_ er) : Calls Try.prog 48 #[.pointer (some ⟨K, 0, none⟩)] w fun e w' => e = .returned (.int .i64 (leftN N at_ er)) ∧ w' = w := by
  obtain ⟨p, c, h1, _⟩ := h.ex
  exact Left_cell K _ c p w (h1.at 0 _ rfl) h1.lt
set_option maxHeartbeats 4000000 in
theorem End_any {K D N at_ : Nat} {er : Int} {F : Nat → Int} {w : World} (h : Rd w K D F N at_ er) : Calls Try.prog 31 #[.pointer (some ⟨K, 0, none⟩)] w fun e w' => e = .returned (.int .i64 (endE N at_ er)) ∧ w' = w := by
  have HE := Lib.hid (Err_any h); have HL := Lib.hid (Left_any h)
  clear h
  by_cases h0 : er = 0
  · subst h0
    obtain ⟨n, en⟩ : ∃ n, leftN N at_ 0 = n := ⟨_, rfl⟩
    rw [en] at HL
    by_cases hn : at_ < N
    · have e1 : endE N at_ 0 = 5 := by simp [endE, hn]
      have n1 : (0 : Int) < (n : Int) := by simp [leftN] at en; omega
      have n2 : 0 < n := by omega
      rw [e1]
      go_enter Try.func31, Try.ntmps31
      go_wp2_with (fail)
      go_at_call 47
      refine (HE.out).mono ?_
      rintro e w1 ⟨rfl, hw⟩
      obtain rfl : w = w1 := hw.symm
      go_wp2_with (fail)
      go_at_call 48
      refine (HL.out).mono ?_
      rintro e w1 ⟨rfl, hw⟩
      obtain rfl : w = w1 := hw.symm
      go_wp2_with (fail)
      go_ret
      exact ⟨rfl, rfl⟩
    · have e1 : endE N at_ 0 = 0 := by simp [endE, hn]
      have n2 : n = 0 := by simp [leftN] at en; omega
      subst n2
      rw [e1]
      go_enter Try.func31, Try.ntmps31
      go_wp2_with (fail)
      go_at_call 47
      refine (HE.out).mono ?_
      rintro e w1 ⟨rfl, hw⟩
      obtain rfl : w = w1 := hw.symm
      go_wp2_with (fail)
      go_at_call 48
      refine (HL.out).mono ?_
      rintro e w1 ⟨rfl, hw⟩
      obtain rfl : w = w1 := hw.symm
      go_wp2_with (fail)
      go_ret
      exact ⟨rfl, rfl⟩
  · have e1 : endE N at_ er = er := by simp [endE, h0]
    rw [e1]
    go_enter Try.func31, Try.ntmps31
    go_wp2_with (fail)
    go_at_call 47
    refine (HE.out).mono ?_
    rintro e w1 ⟨rfl, hw⟩
    obtain rfl : w = w1 := hw.symm
    go_wp2_with (fail)
    go_ret
    exact ⟨rfl, rfl⟩
theorem End_unmade (K : Nat) (w : World) (h2 : w.cell? ⟨K, 2, none⟩ = some (.bool false)) (Kl : K < w.heap.size) :
    Calls Try.prog 31 #[.pointer (some ⟨K, 0, none⟩)] w fun e w' => e = .returned (.int .i64 1) ∧ w' = w := by
  have HE := Lib.hid (Err_unmade K w h2 Kl)
  clear h2 Kl
  go_enter Try.func31, Try.ntmps31
  go_wp2_with (fail)
  go_at_call 47
  refine (HE.out).mono ?_
  rintro e w1 ⟨rfl, hw⟩
  obtain rfl : w = w1 := hw.symm
  go_wp2_with (fail)
  go_ret
  exact ⟨rfl, rfl⟩
set_option maxHeartbeats 4000000 in
theorem Clone_any (q : Option Addr) (n c : Nat) (f : Nat → Int) (hn : n ≤ 70368744177664) (w : World) (hq : Byt w q n f) :
    Calls Try.prog 44 #[.slice q n c] w fun e w' => ∃ v, e = .returned v ∧ w'.ownsRow w.heap.size 5 1 v n (nums .u8 f n) ∧ Below w.heap.size w w' := by
  have HQ := Lib.hid hq; have HN := Lib.hid (show 0 + n ≤ 140737488355328 by omega)
  clear hq hn
  have hcv := Lib.run_eql_slice_nil (P := Try.prog) w 26 5 q n c 0 0 Try.underlying26
  cases q with
  | none =>
    have n0 : n = 0 := by
      rcases HQ.out with h | ⟨b, off, h, _⟩
      · exact h
      · cases h
    subst n0
    go_enter Try.func44, Try.ntmps44
    go_wp2_with (fail)
    go_ret
    exact ⟨_, rfl, World.ownsRow_nil _ _ _ _, Below.refl _ _⟩
  | some a =>
    go_enter Try.func44, Try.ntmps44
    go_wp2_with (at_builtin; refine wpList_append_b rfl _ _ rfl w.heap.size _ 0 [] rfl (World.ownsRow_lit w #[] 0 (Nat.le_refl _) (by decide) rfl) (some a) n c f rfl (HQ.out.later (Below.al (Below.refl _ _))) HN.out (by simp) ?_; intro v' w6 hrow hgr; obtain ⟨p', c', rfl, _⟩ := row_form hrow; rw [Nat.zero_add, List.nil_append] at hrow; have o4 := Lib.hid ((Below.al (o := (.cells #[] 5)) (Below.refl w.heap.size w)).grown hgr (by simp) (fun q hq => by cases hq; exact Nat.le_refl _)); have o6 := Lib.hid hrow; clear hrow hgr)
    go_ret
    exact ⟨_, rfl, o6.out, o4.out⟩
theorem New_any (q : Option Addr) (n c : Nat) (f : Nat → Int) (hn : n ≤ 70368744177664) (w : World) (hq : Byt w q n f) :
    Calls Try.prog 28 #[.slice q n c] w fun e w' => ∃ K D, e = .returned (.pointer (some ⟨K, 0, none⟩)) ∧ w.heap.size ≤ K ∧ w.heap.size ≤ D ∧ D < w'.heap.size ∧ Rd w' K D f n 0 0 ∧ Below w.heap.size w w' := by
  have HC := Lib.hid (Clone_any q n c f hn w hq)
  clear hn hq
  go_enter Try.func28, Try.ntmps28
  go_wp2_with (fail)
  go_at_call 44
  refine (HC.out).mono ?_
  rintro e w1 ⟨v, rfl, hrow, hb⟩
  obtain ⟨p1, c1, rfl, _⟩ := row_form hrow
  have ROW := Lib.hid hrow; have HB := Lib.hid hb
  clear hrow hb HC
  go_wp2_with (fail)
  go_ret
  rcases (byt_row ROW.out).2 with h | ⟨b, off, h1, h2⟩
  · refine ⟨_, w1.heap.size, rfl, HB.out.size, HB.out.size, by simp, ⟨p1, c1, ?_, ?_, ?_⟩, Below.al HB.out⟩
    · exact Own.newAt rfl
    · exact .inl (by simpa [leftN] using h)
    · have := row_cap_ ROW.out
      simpa [leftN] using this
  · have hb : w.heap.size ≤ b := by
      rcases ROW.out.2 with ⟨h0, _⟩ | ⟨g, cap, cur, h0, hg, _⟩
      · cases h0; cases h1
      · cases h0; cases h1; exact hg
    have hl := h2.lt
    refine ⟨_, b, rfl, HB.out.size, hb, by simp; omega, ⟨p1, c1, ?_, ?_, ?_⟩, Below.al HB.out⟩
    · exact Own.newAt rfl
    · exact .inr ⟨off, h1, by omega, by simpa [leftN] using h2.alloc⟩
    · have := row_cap_ ROW.out
      simpa [leftN] using this
end Go.Proofs.Ytbhdlpndmbhaiaa
