/- CodecReads: the walk. -/
import Derived.Test.YtbgkdghimnmmaaaDQ
import Derived.Lib.Hide
import Derived.LoopN
import Derived.LoopTactic
import Derived.Deep.Onto
import Derived.Deep.RegionHeld3
import Derived.Deep.QuietTactic
import Derived.BigQuiet
namespace Go.Proofs.Ytbgkdghimnmmaaa
set_option linter.unusedVariables false
set_option maxRecDepth 2000
set_option linter.unusedSimpArgs false
open Go.RowKit
attribute [local go_sem] nums_length
attribute [local go_sem ↓ high] sliced_head
/-- what is done to two elder blocks, and to no other one -/
structure But2 (K S : Nat) (w w' : World) : Prop where
  below : Below (min K S) w w'
  heap : ∀ b, b < w.heap.size → b ≠ K → b ≠ S → w'.heap[b]? = w.heap[b]?
theorem Below.le {B C : Nat} {w w' : World} (h : Below B w w') (hc : C ≤ B) : Below C w w' := h.mono hc
theorem But2.left {K S : Nat} {w w' : World} (h : But K w w') : But2 K S w w' := ⟨h.below.mono (Nat.min_le_left _ _), fun b hb h1 _ => h.heap b hb h1⟩
theorem But2.right {K S : Nat} {w w' : World} (h : But S w w') : But2 K S w w' := ⟨h.below.mono (Nat.min_le_right _ _), fun b hb _ h2 => h.heap b hb h2⟩
theorem But2.of {K S : Nat} {w w' : World} (h : Below w.heap.size w w') (hK : K < w.heap.size) : But2 K S w w' := But2.left (But.of h hK)
theorem But2.trans {K S : Nat} {a b c : World} (h : But2 K S a b) (k : But2 K S b c) : But2 K S a c := ⟨h.below.trans k.below, fun i hi h1 h2 => (k.heap i (Nat.lt_of_lt_of_le hi h.below.size) h1 h2).trans (h.heap i hi h1 h2)⟩
theorem Own.but2 {b K S : Nat} {cs : List Value} {w w' : World} (h : Own b cs w) (hb : But2 K S w w') (h1 : b ≠ K) (h2 : b ≠ S) : Own b cs w' where
  lt := Nat.lt_of_lt_of_le h.lt hb.below.size
  cell := fun j v hv => by rw [World.cell?_of_block (w := w) (a := ⟨b, 0 + j, none⟩) (hb.heap b h.lt h1 h2)]; exact h.cell j v hv
  free := fun j hj => by
    rw [World.cell?_of_block (w := w) (a := ⟨b, 0 + j, none⟩) (hb.heap b h.lt h1 h2), World.frozen?_of_block (w := w) (a := ⟨b, 0 + j, none⟩) (hb.heap b h.lt h1 h2)]
    exact h.free j hj
theorem BytN.but2 {w w' : World} {q : Option Addr} {n K S : Nat} {f : Nat → Int} (h : BytN w q n f S) (hb : But K w w') (hq : ∀ b off, q = some ⟨b, off, none⟩ → 0 < n → b ≠ K) : BytN w' q n f S := by
  rcases h with h | ⟨b, off, h1, h2, h3⟩
  · exact .inl h
  · by_cases h0 : n = 0
    · exact .inl h0
    · exact .inr ⟨b, off, h1, h2, h3.but hb (hq b off h1 (by omega))⟩
/-- the questions: what and how much -/
def AskL (w : World) (p : Option Addr) (n : Nat) (gx gy : Nat → Int) : Prop := ∀ k, k < n → ∃ blk off, p = some ⟨blk, off, none⟩ ∧ Has blk (off + k * 2) [.int .i64 (gx k), .int .i64 (gy k)] w
theorem AskL.later {w w' : World} {p : Option Addr} {n : Nat} {gx gy : Nat → Int} (h : AskL w p n gx gy) (hb : Below w.heap.size w w') : AskL w' p n gx gy := fun k hk => by
  obtain ⟨blk, off, h1, h2⟩ := h k hk
  exact ⟨blk, off, h1, h2.later hb⟩

set_option maxHeartbeats 8000000 in
theorem Reads_law (f gx gy : Nat → Int) (q p : Option Addr) (n0 c0 n c2 m : Nat) (e1 : min (n0 : Int) 200 = (m : Int)) (hf : ∀ j, j < m → inB (f j)) (hy : ∀ k, k < n → gy k ≤ 9223372036854775807)
    (h0 : n0 ≤ c0) (hc0 : c0 ≤ 9223372036854775807) (h2 : n ≤ c2) (hc2 : c2 ≤ 9223372036854775807) (w : World) (hq : Byt w q m f) (hp : AskL w p n gx gy) :
    Calls Try.prog 4 #[.slice q n0 c0, .slice p n c2] w fun e w' => e = .returned (.bool true) ∧ Below w.heap.size w w' := by
  have mi : (m : Int) ≤ (c0 : Int) := by omega
  have m0 : (0 : Int) ≤ (m : Int) := by omega
  have M200 := Lib.hid (show m ≤ 200 by omega)
  have MC := Lib.hid (show m ≤ c0 by omega)
  have HF := Lib.hid hf; have HY := Lib.hid hy; have HC0 := Lib.hid hc0; have NC := Lib.hid h2; have HC2 := Lib.hid hc2
  have HQ := Lib.hid hq; have HP := Lib.hid hp
  have NW := Lib.hid (fun w hq => New_any q m c0 f (by have := M200.out; omega) w hq)
  clear hf hy h0 hc0 h2 hc2 hq hp
  go_enter Try.func4, Try.ntmps4
  go_wp2_with (fail)
  go_at_call 13
  refine (NW.out _ HQ.out).mono ?_
  rintro e w1 ⟨K, D, rfl, hKw, hDw, hDl, hrd, hb⟩
  have RD1 := Lib.hid hrd
  have HB1 := Lib.hid hb
  have Kl := hrd.lt
  clear hrd hb NW
  go_upto_region 6 with fail
  obtain ⟨D2, hD2, hDK⟩ : ∃ D2, BytD w1 q m f w1.heap.size D2 ∧ D2 ≠ K := by
    rcases HQ.out with h | ⟨b, off, h1, h2⟩
    · exact ⟨w1.heap.size, .inl h, by omega⟩
    · have h3 := h2.later HB1.out
      exact ⟨b, .inr ⟨off, h1, by have := h3.lt; omega, h3⟩, by have := h2.lt; omega⟩
  obtain ⟨W2, hW⟩ : ∃ W2, W2 = ((w1.alloc (.cells #[.slice q m c0, .int .i64 0, .int .i64 0] 41)).alloc (.cells #[.slice none 0 0, .int .i64 0, .bool false] 43)) := ⟨_, rfl⟩
  have hb2 : Below w1.heap.size w1 W2 := hW ▸ (Below.al (Below.al (Below.refl _ _)))
  have hS2 : Own w1.heap.size [.slice q m c0, .int .i64 0, .int .i64 0] W2 := hW ▸ (show Own w1.heap.size [.slice q m c0, .int .i64 0, .int .i64 0] (w1.alloc (.cells #[.slice q m c0, .int .i64 0, .int .i64 0] 41)) from Own.newAt rfl).alloc
  have hZ2 : Own (w1.heap.size + 1) [.slice none 0 0, .int .i64 0, .bool false] W2 := hW ▸ (show Own (w1.heap.size + 1) [.slice none 0 0, .int .i64 0, .bool false] ((w1.alloc (.cells #[.slice q m c0, .int .i64 0, .int .i64 0] 41)).alloc (.cells #[.slice none 0 0, .int .i64 0, .bool false] 43)) from Own.newAt (by simp))
  rw [← hW]
  have HR := Lib.hid (RD1.out.later hb2)
  have HS : Hid (RRd W2 w1.heap.size D2 f m 0 0) := Lib.hid ⟨⟨q, c0, hS2, hD2.later hb2, MC.out, HC0.out⟩, Nat.zero_le _⟩
  have HZ := Lib.hid hZ2
  have HB := Lib.hid (Below.go HB1.out hb2)
  obtain ⟨Z, eZ⟩ : ∃ X, X = w1.heap.size + 1 := ⟨_, rfl⟩
  rw [← eZ] at HZ ⊢
  have hwS := HB1.out.size
  obtain ⟨S, eS⟩ : ∃ X, X = w1.heap.size := ⟨_, rfl⟩
  rw [← eS] at HS Kl hDl hwS eZ ⊢
  have nKS : K ≠ S := by omega
  have nSK : S ≠ K := Ne.symm nKS
  have nDS : D ≠ S := by omega
  have nZK : Z ≠ K := by omega
  have nZS : Z ≠ S := by omega
  have KW := Lib.hid hKw
  have SW := Lib.hid hwS
  clear hW hb2 hS2 hZ2 RD1 HB1 Kl hDl hKw hDw eZ eS hwS hD2 HQ e1
  go_wp2_with (fail)
  go_loopw [8] (fun iv wr => ∃ (k at_ : Nat) (er : Int), k ≤ n ∧ k ≤ 30 ∧ iv = .int .i64 k ∧ Hid (Rd wr K D f m at_ er) ∧ Hid (RRd wr S D2 f m at_ er) ∧ Hid (Own Z [.slice none 0 0, .int .i64 0, .bool false] wr) ∧ Hid (Below w.heap.size w wr)) (fun iv _ => (30 - (intOf iv).toNat))
  case atStart => exact ⟨0, 0, 0, Nat.zero_le _, Nat.zero_le _, rfl, HR, HS, HZ, HB⟩
  case round =>
    clear HR HS HZ HB
    obtain ⟨k, at_, er, hk, hk30, rfl, HR, HS, HZ, HB⟩ := hrel
    by_cases hlt : k < n ∧ k < 30
    · obtain ⟨hkn, hk3⟩ := hlt
      obtain ⟨blk, off, rfl, ha⟩ := (HP.out.later HB.out) k hkn
      have hki : (k : Int) < (n : Int) := by omega
      have hk3i : (k : Int) < 30 := by omega
      have k0 : (0 : Int) ≤ (k : Int) := by omega
      have wk : IntKind.i64.wrap ((k : Int) + 1) = (k : Int) + 1 := IntWalk.i64_in _ (by omega)
      have hyk := HY.out k hkn
      obtain ⟨x, ex⟩ : ∃ x, gx k = x := ⟨_, rfl⟩
      obtain ⟨y, ey⟩ : ∃ y, gy k = y := ⟨_, rfl⟩
      rw [ex, ey] at ha
      rw [ey] at hyk
      obtain ⟨a0, ea0⟩ : ∃ a, off + k * 2 = a := ⟨_, rfl⟩
      rw [ea0] at ha
      have c0_ := ha.at 0 _ rfl
      rw [Nat.add_zero] at c0_
      have c1_ := ha.at 1 _ rfl
      have al := ha.lt
      have HLT := Lib.hid (show k + 1 ≤ n by omega)
      have HL30 := Lib.hid (show k + 1 ≤ 30 by omega)
      have HYK := Lib.hid hyk
      clear hkn hk3 hk hk30 ex ey ha hyk
      go_upto_region 10 with fail
      obtain ⟨w3, e3⟩ : ∃ z, z = wr.alloc (.cells #[.int .i64 x, .int .i64 y] 45) := ⟨_, rfl⟩
      have hb3 : Below wr.heap.size wr w3 := e3 ▸ Below.al (Below.refl _ _)
      have hA : Own wr.heap.size [.int .i64 x, .int .i64 y] w3 := e3 ▸ (show Own wr.heap.size [.int .i64 x, .int .i64 y] (wr.alloc (.cells #[.int .i64 x, .int .i64 y] 45)) from Own.newAt rfl)
      rw [← e3]
      have HR3 := Lib.hid (HR.out.later hb3)
      have HS3 := Lib.hid (HS.out.later hb3)
      have HZ3 := Lib.hid (HZ.out.later hb3)
      have HB3 := Lib.hid (Below.go HB.out hb3)
      have kl := HR.out.lt
      have sl := HS.out.lt
      obtain ⟨A, eA⟩ : ∃ X, X = wr.heap.size := ⟨_, rfl⟩
      rw [← eA] at hA kl sl ⊢
      have nAK : A ≠ K := by omega
      have nAS : A ≠ S := by omega
      have HA := Lib.hid hA
      have A0 := hA.at 0 _ rfl
      have Al := hA.lt
      clear hA hb3 e3 eA kl sl HR HS HZ HB c0_ c1_ al
      by_cases hx0 : x = 0
      · subst hx0
        have CA := Lib.hid (fun w h => Num_any (K := K) (D := D) (N := m) (at_ := at_) (er := er) (F := f) (w := w) y HF.out h)
        have CB := Lib.hid (fun w h => RNum_any (S := S) (D := D2) (N := m) (at_ := at_) (er := er) (F := f) (w := w) y HYK.out HF.out h)
        have CZ := Lib.hid (fun w h1 h2 => Num_none (.pointer (some ⟨Z, 0, none⟩)) y w (Err_unmade Z w h1 h2))
        generalize nxE m at_ er y 1 8 = e5 at *
        generalize numF f at_ y e5 = v5 at *
        generalize nxA at_ y e5 = a5 at *
        have SH : Hid (∀ w', But2 K S w3 w' → w'.cell? ⟨A, 1, none⟩ = some (.int .i64 y)) := Lib.hid fun w' hb => (HA.out.but2 hb nAK nAS).at 1 _ rfl
        have HRd := Lib.hid (HR3.out.later (Below.refl w3.heap.size w3).drew)
        have HSd := Lib.hid (HS3.out.later (Below.refl w3.heap.size w3).drew)
        have HZd := Lib.hid (HZ3.out.later (Below.refl w3.heap.size w3).drew)
        have hBd : But2 K S w3 w3.drew := But2.of (Below.refl _ _).drew HR3.out.lt
        go_upto_region 14 with fail
        go_region_held3 (fun w' => w'.cell? ⟨A, 1, none⟩ = some (.int .i64 y)) (first | exact SH.out _ (by assumption)) (first | (go_at_call 14; (with_reducible refine (CA.out _ HRd.out).mono ?_); rintro e y1 ⟨rfl, h1, h2⟩; have by1 : But2 K S w3 y1 := hBd.trans (But2.left h2); have HR1 := Lib.hid h1; have HS1 := Lib.hid (HSd.out.far h2 nSK hDK); have HZ1 := Lib.hid (HZd.out.but h2 nZK); clear h1 h2) | (go_at_call 15; (with_reducible refine (CB.out _ HS1.out).mono ?_); rintro e w5 ⟨rfl, h1, h2⟩; have by5 : But2 K S w3 w5 := by1.trans (But2.right h2); have HS5 := Lib.hid h1; have HR5 := Lib.hid (HR1.out.far h2 nKS nDS); have HZ5 := Lib.hid (HZ1.out.but h2 nZS); clear h1 h2) | (go_at_call 14; (with_reducible refine (CZ.out _ (HZ5.out.at 2 _ rfl) HZ5.out.lt).mono ?_); rintro e y3 ⟨rfl, hw⟩; obtain rfl : w5 = y3 := hw.symm))
        have HB5 := Lib.hid (HB3.out.trans (by5.below.mono (Nat.le_min.2 ⟨KW.out, SW.out⟩)))
        clear SH HRd HSd HZd hBd by1 by5 CA CB CZ HR3 HS3 HZ3 HB3
        have LA := Lib.hid (fun j => Left_any (HR5.out.later (below_drewN (Below.refl _ _) j)))
        have EA := Lib.hid (fun j => Err_any (HR5.out.later (below_drewN (Below.refl _ _) j)))
        have NA := Lib.hid (fun j => End_any (HR5.out.later (below_drewN (Below.refl _ _) j)))
        have LB := Lib.hid (fun j => RLeft_any (HS5.out.later (below_drewN (Below.refl _ _) j)))
        have NB := Lib.hid (fun j => REnd_any (HS5.out.later (below_drewN (Below.refl _ _) j)))
        obtain ⟨ps, cs_, hSo, _⟩ := HS5.out.ex
        have s2 := hSo.at 2 _ rfl
        have Sl5 := hSo.lt
        obtain ⟨lf, elf⟩ : ∃ l, leftN m a5 e5 = l := ⟨_, rfl⟩
        obtain ⟨en, een⟩ : ∃ l, endE m a5 e5 = l := ⟨_, rfl⟩
        rw [elf] at LA LB
        rw [een] at NA NB
        clear hSo elf een
        go_wp2_with (fail)
        go_quiet (first | (go_at_call 20; exact Calls.quiet_of_same (LA.out _)) | (go_at_call 21; exact Calls.quiet_of (LB.out _)) | (go_at_call 22; exact Calls.quiet_of_same (EA.out _)) | (go_at_call 23; exact Calls.quiet_of_same (NA.out _)) | (go_at_call 24; exact Calls.quiet_of (NB.out _)))
        obtain ⟨w6, e6⟩ : ∃ x, x = World.drewN w5 nq := ⟨_, rfl⟩
        have hBd6 : Below w5.heap.size w5 w6 := e6 ▸ below_drewN (Below.refl _ _) _
        rw [← e6]
        have O1 := Lib.hid (HR5.out.later hBd6)
        have O2 := Lib.hid (HS5.out.later hBd6)
        have O3 := Lib.hid (HZ5.out.later hBd6)
        have O4 := Lib.hid (Below.go HB5.out hBd6)
        clear e6 hBd6 s2 Sl5 LA EA NA LB NB HR5 HS5 HZ5 HB5
        go_wp2_with (fail)
        go_roundw
        case rel => (first | exact ⟨k + 1, a5, e5, HLT.out, HL30.out, by go_num, O1, O2, O3, O4⟩ | ((repeat apply Exists.intro); exact ⟨⟨k + 1, a5, e5, HLT.out, HL30.out, by go_num, O1, O2, O3, O4⟩, rfl⟩))
        case measure => (have := HL30.out; simp [intOf]; omega)
      · by_cases hx1 : x = 1
        · subst hx1
          have CA := Lib.hid (fun w h => Int_any (K := K) (D := D) (N := m) (at_ := at_) (er := er) (F := f) (w := w) y HF.out h)
          have CB := Lib.hid (fun w h => RInt_any (S := S) (D := D2) (N := m) (at_ := at_) (er := er) (F := f) (w := w) y HYK.out HF.out h)
          have CZ := Lib.hid (fun w h1 h2 => Int_none (.pointer (some ⟨Z, 0, none⟩)) y w (Err_unmade Z w h1 h2))
          generalize nxE m at_ er y 1 8 = e5 at *
          generalize intF f at_ y e5 = v5 at *
          generalize nxA at_ y e5 = a5 at *
          have SH : Hid (∀ w', But2 K S w3 w' → w'.cell? ⟨A, 1, none⟩ = some (.int .i64 y)) := Lib.hid fun w' hb => (HA.out.but2 hb nAK nAS).at 1 _ rfl
          have HRd := Lib.hid (HR3.out.later (Below.refl w3.heap.size w3).drew)
          have HSd := Lib.hid (HS3.out.later (Below.refl w3.heap.size w3).drew)
          have HZd := Lib.hid (HZ3.out.later (Below.refl w3.heap.size w3).drew)
          have hBd : But2 K S w3 w3.drew := But2.of (Below.refl _ _).drew HR3.out.lt
          go_upto_region 17 with fail
          go_region_held3 (fun w' => w'.cell? ⟨A, 1, none⟩ = some (.int .i64 y)) (first | exact SH.out _ (by assumption)) (first | (go_at_call 16; (with_reducible refine (CA.out _ HRd.out).mono ?_); rintro e y1 ⟨rfl, h1, h2⟩; have by1 : But2 K S w3 y1 := hBd.trans (But2.left h2); have HR1 := Lib.hid h1; have HS1 := Lib.hid (HSd.out.far h2 nSK hDK); have HZ1 := Lib.hid (HZd.out.but h2 nZK); clear h1 h2) | (go_at_call 17; (with_reducible refine (CB.out _ HS1.out).mono ?_); rintro e w5 ⟨rfl, h1, h2⟩; have by5 : But2 K S w3 w5 := by1.trans (But2.right h2); have HS5 := Lib.hid h1; have HR5 := Lib.hid (HR1.out.far h2 nKS nDS); have HZ5 := Lib.hid (HZ1.out.but h2 nZS); clear h1 h2) | (go_at_call 16; (with_reducible refine (CZ.out _ (HZ5.out.at 2 _ rfl) HZ5.out.lt).mono ?_); rintro e y3 ⟨rfl, hw⟩; obtain rfl : w5 = y3 := hw.symm))
          have HB5 := Lib.hid (HB3.out.trans (by5.below.mono (Nat.le_min.2 ⟨KW.out, SW.out⟩)))
          clear SH HRd HSd HZd hBd by1 by5 CA CB CZ HR3 HS3 HZ3 HB3
          have LA := Lib.hid (fun j => Left_any (HR5.out.later (below_drewN (Below.refl _ _) j)))
          have EA := Lib.hid (fun j => Err_any (HR5.out.later (below_drewN (Below.refl _ _) j)))
          have NA := Lib.hid (fun j => End_any (HR5.out.later (below_drewN (Below.refl _ _) j)))
          have LB := Lib.hid (fun j => RLeft_any (HS5.out.later (below_drewN (Below.refl _ _) j)))
          have NB := Lib.hid (fun j => REnd_any (HS5.out.later (below_drewN (Below.refl _ _) j)))
          obtain ⟨ps, cs_, hSo, _⟩ := HS5.out.ex
          have s2 := hSo.at 2 _ rfl
          have Sl5 := hSo.lt
          obtain ⟨lf, elf⟩ : ∃ l, leftN m a5 e5 = l := ⟨_, rfl⟩
          obtain ⟨en, een⟩ : ∃ l, endE m a5 e5 = l := ⟨_, rfl⟩
          rw [elf] at LA LB
          rw [een] at NA NB
          clear hSo elf een
          go_wp2_with (fail)
          go_quiet (first | (go_at_call 20; exact Calls.quiet_of_same (LA.out _)) | (go_at_call 21; exact Calls.quiet_of (LB.out _)) | (go_at_call 22; exact Calls.quiet_of_same (EA.out _)) | (go_at_call 23; exact Calls.quiet_of_same (NA.out _)) | (go_at_call 24; exact Calls.quiet_of (NB.out _)))
          obtain ⟨w6, e6⟩ : ∃ x, x = World.drewN w5 nq := ⟨_, rfl⟩
          have hBd6 : Below w5.heap.size w5 w6 := e6 ▸ below_drewN (Below.refl _ _) _
          rw [← e6]
          have O1 := Lib.hid (HR5.out.later hBd6)
          have O2 := Lib.hid (HS5.out.later hBd6)
          have O3 := Lib.hid (HZ5.out.later hBd6)
          have O4 := Lib.hid (Below.go HB5.out hBd6)
          clear e6 hBd6 s2 Sl5 LA EA NA LB NB HR5 HS5 HZ5 HB5
          go_wp2_with (fail)
          go_roundw
          case rel => (first | exact ⟨k + 1, a5, e5, HLT.out, HL30.out, by go_num, O1, O2, O3, O4⟩ | ((repeat apply Exists.intro); exact ⟨⟨k + 1, a5, e5, HLT.out, HL30.out, by go_num, O1, O2, O3, O4⟩, rfl⟩))
          case measure => (have := HL30.out; simp [intOf]; omega)
        · have CA := Lib.hid (fun w h => Take_any (K := K) (D := D) (N := m) (at_ := at_) (er := er) (F := f) (w := w) y (by have := M200.out; omega) h)
          have CB := Lib.hid (fun w h => RTake_any (S := S) (D := D2) (N := m) (at_ := at_) (er := er) (F := f) (w := w) y HYK.out h)
          have CZ := Lib.hid (fun w h1 h2 => Take_none (.pointer (some ⟨Z, 0, none⟩)) y w (Err_unmade Z w h1 h2))
          generalize nxE m at_ er y 0 9223372036854775807 = e5 at *
          generalize nxL y e5 = L5 at *
          generalize nxA at_ y e5 = a5 at *
          have SH : Hid (∀ w', But2 K S w3 w' → w'.cell? ⟨A, 1, none⟩ = some (.int .i64 y)) := Lib.hid fun w' hb => (HA.out.but2 hb nAK nAS).at 1 _ rfl
          have HRd := Lib.hid (HR3.out.later (Below.refl w3.heap.size w3).drew)
          have HSd := Lib.hid (HS3.out.later (Below.refl w3.heap.size w3).drew)
          have HZd := Lib.hid (HZ3.out.later (Below.refl w3.heap.size w3).drew)
          have hBd : But2 K S w3 w3.drew := But2.of (Below.refl _ _).drew HR3.out.lt
          have SLd : Hid (S < (World.drew w3).heap.size) := Lib.hid HS3.out.lt
          go_upto_region 11 with fail
          go_region_held3 (fun w' => w'.cell? ⟨A, 1, none⟩ = some (.int .i64 y)) (first | exact SH.out _ (by assumption)) (first | (go_at_call 18; (with_reducible refine (CA.out _ HRd.out).mono ?_); rintro e y1 ⟨v1, rfl, hrow, h1, h2⟩; obtain ⟨p1, c1, rfl, _⟩ := row_form hrow; have ROW1 := Lib.hid hrow; have by1 : But2 K S w3 y1 := hBd.trans (But2.left h2); have HR1 := Lib.hid h1; have HS1 := Lib.hid (HSd.out.far h2 nSK hDK); have HZ1 := Lib.hid (HZd.out.but h2 nZK); clear h1 h2 hrow) | (go_at_call 19; (with_reducible refine (CB.out _ HS1.out).mono ?_); rintro e y2 ⟨p2, c2_, rfl, _, _, hby, h1, h2⟩; have BY1 := Lib.hid (byt_row (row_but ROW1.out h2 (row_ne ROW1.out SLd.out))).2; have BY2 := Lib.hid hby; have by2 : But2 K S w3 y2 := by1.trans (But2.right h2); have HS2 := Lib.hid h1; have HR2 := Lib.hid (HR1.out.far h2 nKS nDS); have HZ2 := Lib.hid (HZ1.out.but h2 nZS); clear h1 h2 hby) | (go_at_call 11; (with_reducible refine (Equal_any _ _ L5 _ _ _ _ BY1.out BY2.out).mono ?_); rintro e w5 ⟨rfl, h2⟩; have by5 : But2 K S w3 w5 := by2.trans (But2.of h2 HR2.out.lt); have HS5 := Lib.hid (HS2.out.later h2); have HR5 := Lib.hid (HR2.out.later h2); have HZ5 := Lib.hid (HZ2.out.later h2); clear h2) | (go_at_call 18; (with_reducible refine (CZ.out _ (HZ5.out.at 2 _ rfl) HZ5.out.lt).mono ?_); rintro e y3 ⟨rfl, hw⟩; obtain rfl : w5 = y3 := hw.symm))
          have HB5 := Lib.hid (HB3.out.trans (by5.below.mono (Nat.le_min.2 ⟨KW.out, SW.out⟩)))
          clear SH HRd HSd HZd hBd by1 by5 CA CB CZ HR3 HS3 HZ3 HB3
          clear SLd BY1 BY2 by2 HS2 HR2 HZ2 HS1 HR1 HZ1 ROW1
          have LA := Lib.hid (fun j => Left_any (HR5.out.later (below_drewN (Below.refl _ _) j)))
          have EA := Lib.hid (fun j => Err_any (HR5.out.later (below_drewN (Below.refl _ _) j)))
          have NA := Lib.hid (fun j => End_any (HR5.out.later (below_drewN (Below.refl _ _) j)))
          have LB := Lib.hid (fun j => RLeft_any (HS5.out.later (below_drewN (Below.refl _ _) j)))
          have NB := Lib.hid (fun j => REnd_any (HS5.out.later (below_drewN (Below.refl _ _) j)))
          obtain ⟨ps, cs_, hSo, _⟩ := HS5.out.ex
          have s2 := hSo.at 2 _ rfl
          have Sl5 := hSo.lt
          obtain ⟨lf, elf⟩ : ∃ l, leftN m a5 e5 = l := ⟨_, rfl⟩
          obtain ⟨en, een⟩ : ∃ l, endE m a5 e5 = l := ⟨_, rfl⟩
          rw [elf] at LA LB
          rw [een] at NA NB
          clear hSo elf een
          go_wp2_with (fail)
          go_quiet (first | (go_at_call 20; exact Calls.quiet_of_same (LA.out _)) | (go_at_call 21; exact Calls.quiet_of (LB.out _)) | (go_at_call 22; exact Calls.quiet_of_same (EA.out _)) | (go_at_call 23; exact Calls.quiet_of_same (NA.out _)) | (go_at_call 24; exact Calls.quiet_of (NB.out _)))
          obtain ⟨w6, e6⟩ : ∃ x, x = World.drewN w5 nq := ⟨_, rfl⟩
          have hBd6 : Below w5.heap.size w5 w6 := e6 ▸ below_drewN (Below.refl _ _) _
          rw [← e6]
          have O1 := Lib.hid (HR5.out.later hBd6)
          have O2 := Lib.hid (HS5.out.later hBd6)
          have O3 := Lib.hid (HZ5.out.later hBd6)
          have O4 := Lib.hid (Below.go HB5.out hBd6)
          clear e6 hBd6 s2 Sl5 LA EA NA LB NB HR5 HS5 HZ5 HB5
          go_wp2_with (fail)
          go_roundw
          case rel => (first | exact ⟨k + 1, a5, e5, HLT.out, HL30.out, by go_num, O1, O2, O3, O4⟩ | ((repeat apply Exists.intro); exact ⟨⟨k + 1, a5, e5, HLT.out, HL30.out, by go_num, O1, O2, O3, O4⟩, rfl⟩))
          case measure => (have := HL30.out; simp [intOf]; omega)
    · by_cases hkn : k = n
      · subst hkn
        have g1 : decide ((k : Int) < (k : Int)) = false := by simp
        clear hlt hk hk30
        have z0 := HZ.out.at 0 _ rfl
        have z2 := HZ.out.at 2 _ rfl
        have zl := HZ.out.lt
        have E1 := Lib.hid (Err_unmade Z wr z2 zl)
        have E2 := Lib.hid (End_unmade Z wr z2 zl)
        have E3 := Lib.hid (Left_cell Z 0 0 none wr z0 zl)
        clear z0 z2 zl HZ HR HS
        go_wp2_with (fail)
        go_at_call 22
        refine (E1.out).mono ?_
        rintro e y1 ⟨rfl, hw⟩
        obtain rfl : wr = y1 := hw.symm
        go_wp2_with (fail)
        go_at_call 23
        refine (E2.out).mono ?_
        rintro e y1 ⟨rfl, hw⟩
        obtain rfl : wr = y1 := hw.symm
        go_wp2_with (fail)
        go_at_call 20
        refine (E3.out).mono ?_
        rintro e y1 ⟨rfl, hw⟩
        obtain rfl : wr = y1 := hw.symm
        go_wp2_with (fail)
        go_at_call 22
        refine (Err_nil wr).mono ?_
        rintro e y1 ⟨rfl, hw⟩
        obtain rfl : wr = y1 := hw.symm
        go_wp2_with (fail)
        go_at_call 14
        refine (Num_none (.pointer none) 1 wr (Err_nil wr)).mono ?_
        rintro e y1 ⟨rfl, hw⟩
        obtain rfl : wr = y1 := hw.symm
        go_wp2_with (fail)
        go_at_call 12
        refine (works11_any _).mono ?_
        rintro e y7 ⟨rfl, hb⟩
        have hB9 := Below.go HB.out hb
        go_wp2_with (fail)
        go_ret
        exact ⟨rfl, hB9⟩
      · have e30 : k = 30 := by omega
        subst e30
        have g1 : ((30 : Nat) : Int) < (n : Int) := by omega
        clear hlt hk hk30 hkn
        have z0 := HZ.out.at 0 _ rfl
        have z2 := HZ.out.at 2 _ rfl
        have zl := HZ.out.lt
        have E1 := Lib.hid (Err_unmade Z wr z2 zl)
        have E2 := Lib.hid (End_unmade Z wr z2 zl)
        have E3 := Lib.hid (Left_cell Z 0 0 none wr z0 zl)
        clear z0 z2 zl HZ HR HS
        go_wp2_with (fail)
        go_at_call 22
        refine (E1.out).mono ?_
        rintro e y1 ⟨rfl, hw⟩
        obtain rfl : wr = y1 := hw.symm
        go_wp2_with (fail)
        go_at_call 23
        refine (E2.out).mono ?_
        rintro e y1 ⟨rfl, hw⟩
        obtain rfl : wr = y1 := hw.symm
        go_wp2_with (fail)
        go_at_call 20
        refine (E3.out).mono ?_
        rintro e y1 ⟨rfl, hw⟩
        obtain rfl : wr = y1 := hw.symm
        go_wp2_with (fail)
        go_at_call 22
        refine (Err_nil wr).mono ?_
        rintro e y1 ⟨rfl, hw⟩
        obtain rfl : wr = y1 := hw.symm
        go_wp2_with (fail)
        go_at_call 14
        refine (Num_none (.pointer none) 1 wr (Err_nil wr)).mono ?_
        rintro e y1 ⟨rfl, hw⟩
        obtain rfl : wr = y1 := hw.symm
        go_wp2_with (fail)
        go_at_call 12
        refine (works11_any _).mono ?_
        rintro e y7 ⟨rfl, hb⟩
        have hB9 := Below.go HB.out hb
        go_wp2_with (fail)
        go_ret
        exact ⟨rfl, hB9⟩
end Go.Proofs.Ytbgkdghimnmmaaa
