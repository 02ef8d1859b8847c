/- mesh: the bytes of a mesh: numbers; the codec's calls. -/
import Derived.Test.YtbhdlpndmbhaiaaSA
import Derived.Test.YtbhdlpndmbhaiaaDD
import Derived.Test.YtbhdlpndmbhaiaaDF
import Derived.Test.YtbhdlpndmbhaiaaDG
import Derived.Test.YtbhdlpndmbhaiaaCV
import Derived.Lib.Hide
import Derived.LoopN
import Derived.LoopTactic
import Derived.Deep.Onto
import Derived.Deep.RegionHeld3
import Derived.Deep.QuietTactic
import Derived.BigQuiet
namespace Go.Proofs.Ytbhdlpndmbhaiaa
set_option linter.unusedVariables false
set_option maxRecDepth 2000
set_option linter.unusedSimpArgs false
open Go.RowKit
def cntF (nv nt : Nat) (k : Nat) : Int := if k = 0 then (nv : Int) else (nt : Int)
def enc1 (nv nt : Nat) : Nat → Int := outF (fun _ => 0) 0 1 (cntF nv nt)
def enc2 (nv nt : Nat) (V : Nat → Int) : Nat → Int := outF (enc1 nv nt) 2 2 V
def enc3 (nv nu nt : Nat) (V U : Nat → Int) : Nat → Int := outF (enc2 nv nt V) (2 + 2 * (nv * 3)) 2 U
/-- the bytes of a mesh -/
def encF (nv nu nt : Nat) (V U R : Nat → Int) : Nat → Int := outF (enc3 nv nu nt V U) (2 + 2 * (nv * 3) + 2 * (nu * 2)) 1 R
def encN (nv nu nt : Nat) : Nat := 2 + 2 * (nv * 3) + 2 * (nu * 2) + 1 * (nt * 3)
def encL (z : Int) (n : Nat) : Nat := if z = 0 then n else 0
theorem putE_ok {fit : Nat → Int → Bool} {W n : Nat} {g : Nat → Int} (h1 : 1 ≤ W) (h8 : W ≤ 8) (h : ∀ k, k < n → fit W (g k) = true) : putE fit (W : Int) n g = 0 := by
  have hb : badW (W : Int) = false := decide_eq_false (by omega)
  unfold putE
  rw [hb, Int.toNat_natCast, allB_iff.2 h]
  rfl
theorem putL_ok (m n W : Nat) : putL m n (W : Int) 0 = m + W * n := by unfold putL; rw [if_pos rfl, Int.toNat_natCast]
theorem fit_1 {x : Int} (h : x < 256) : fitU 1 x = true := decide_eq_true (by have := pw_vals.1; omega)
theorem fit_2 {x : Int} (h : x < 65536) : fitU 2 x = true := decide_eq_true (by have := pw_vals.2.1; omega)
theorem fit_s {x : Int} (h : -4096 ≤ x ∧ x ≤ 4096) : fitS 2 x = true := decide_eq_true (by have := pw_vals.2.1; omega)
theorem Put_ok (q p : Option Addr) (m c n c2 W N : Nat) (f g : Nat → Int) (eN : m + W * n = N) (h1 : 1 ≤ W) (h8 : W ≤ 8) (hg : ∀ k, k < n → 0 ≤ g k ∧ g k ≤ 65535) (hf : ∀ k, k < n → fitU W (g k) = true) (hmc : m ≤ c) (hc : c ≤ 9223372036854775807) (hnc : n ≤ c2) (hc2 : c2 ≤ 9223372036854775807) (hm : m ≤ 100000) (hn : n ≤ 1000) (w : World) (hq : Byt w q m f) (hp : Nm w .u64 p n g) :
    Calls Try.prog 24 #[.slice q m c, .int .i64 (W : Int), .slice p n c2] w fun e w' => (∃ v, e = .returned (.tuple #[v, .int .i64 0]) ∧ RowR w' v N (outF f m W g)) ∧ Below w.heap.size w w' := by
  refine (Put_any q p m c n c2 (W : Int) f g (fun k hk => by have := hg k hk; omega) hmc hc hnc hc2 (by omega) w hq hp).mono ?_
  rintro e w' ⟨v, he, hr, hb⟩
  rw [putE_ok h1 h8 hf] at he hr
  rw [putL_ok, Int.toNat_natCast, eN] at hr
  exact ⟨⟨v, he, RowR.of hr⟩, hb⟩
theorem nm_newAt {w : World} {k : IntKind} {n b : Nat} {f : Nat → Int} {T : TypeId} {cs : Array Value} (e : b = w.heap.size) (h : cs.toList = nums k f n) : Nm (w.alloc (.cells cs T)) k (some ⟨b, 0, none⟩) n f := by subst e; exact nm_new h
theorem infoI : (Try.prog.info? 3).map (fun i => (i.zero, i.size, i.bytes)) = some (some (.int .i64 0), 1, 8) := by kernel_rfl
theorem infoI_parts : ∃ i, Try.prog.info? 3 = some i ∧ i.zero = some (.int .i64 0) ∧ i.size = 1 ∧ i.bytes = 8 := by
  obtain ⟨i, hi, h⟩ := Option.map_eq_some_iff.1 infoI
  simp only [Prod.mk.injEq] at h
  exact ⟨i, hi, h.1, h.2.1, h.2.2⟩
end Go.Proofs.Ytbhdlpndmbhaiaa
