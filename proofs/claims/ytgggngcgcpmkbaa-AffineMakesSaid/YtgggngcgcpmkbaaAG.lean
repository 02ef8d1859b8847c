/- affine.Then; transforms as numbers. -/
import Derived.Test.YtgggngcgcpmkbaaAF
import Derived.Test.YtgggngcgcpmkbaaAC
import Derived.Test.YtgggngcgcpmkbaaAK
import Derived.LoopN
import Derived.LoopTactic
import Derived.Deep.DeepCutAuto
namespace Go.Proofs.Ytgggngcgcpmkbaa
set_option linter.unusedVariables false
set_option maxRecDepth 2000
set_option linter.unusedSimpArgs false
open Go.RowKit
attribute [local go_sem] setCell_twice setCell_pair

/-- a transform's numbers -/
structure Aff where
  m0 : Int
  m1 : Int
  m2 : Int
  m3 : Int
  m4 : Int
  m5 : Int
  m6 : Int
  m7 : Int
  m8 : Int
  tx : Int
  ty : Int
  tz : Int
def Aff.cells (a : Aff) : List Value := [.int .i64 a.m0, .int .i64 a.m1, .int .i64 a.m2, .int .i64 a.m3, .int .i64 a.m4, .int .i64 a.m5, .int .i64 a.m6, .int .i64 a.m7, .int .i64 a.m8, .int .i64 a.tx, .int .i64 a.ty, .int .i64 a.tz]
def inA (a : Aff) : Prop := in64 a.m0 ∧ in64 a.m1 ∧ in64 a.m2 ∧ in64 a.m3 ∧ in64 a.m4 ∧ in64 a.m5 ∧ in64 a.m6 ∧ in64 a.m7 ∧ in64 a.m8 ∧ in64 a.tx ∧ in64 a.ty ∧ in64 a.tz
def sameA : Aff := ⟨4294967296, 0, 0, 0, 4294967296, 0, 0, 0, 4294967296, 0, 0, 0⟩
theorem in_sameA : inA sameA := by unfold inA sameA in64; simp
def T0 (a : Aff) (x y z : Int) : Int := dotF a.m0 a.m1 a.m2 x y z
def T1 (a : Aff) (x y z : Int) : Int := dotF a.m3 a.m4 a.m5 x y z
def T2 (a : Aff) (x y z : Int) : Int := dotF a.m6 a.m7 a.m8 x y z
def A0 (a : Aff) (x y z : Int) : Int := sat (T0 a x y z + a.tx)
def A1 (a : Aff) (x y z : Int) : Int := sat (T1 a x y z + a.ty)
def A2 (a : Aff) (x y z : Int) : Int := sat (T2 a x y z + a.tz)
def compF (f g : Aff) : Aff :=
  ⟨T0 g f.m0 f.m3 f.m6, T0 g f.m1 f.m4 f.m7, T0 g f.m2 f.m5 f.m8, T1 g f.m0 f.m3 f.m6, T1 g f.m1 f.m4 f.m7, T1 g f.m2 f.m5 f.m8, T2 g f.m0 f.m3 f.m6, T2 g f.m1 f.m4 f.m7, T2 g f.m2 f.m5 f.m8, A0 g f.tx f.ty f.tz, A1 g f.tx f.ty f.tz, A2 g f.tx f.ty f.tz⟩
theorem dotF_in (a b c d e f : Int) : in64 (dotF a b c d e f) := in64_sat _
theorem inA_comp (f g : Aff) : inA (compF f g) := ⟨dotF_in _ _ _ _ _ _, dotF_in _ _ _ _ _ _, dotF_in _ _ _ _ _ _, dotF_in _ _ _ _ _ _, dotF_in _ _ _ _ _ _, dotF_in _ _ _ _ _ _, dotF_in _ _ _ _ _ _, dotF_in _ _ _ _ _ _, dotF_in _ _ _ _ _ _, in64_sat _, in64_sat _, in64_sat _⟩

theorem Turn_any (a : Aff) (x y z : Int) (ha : inA a) (hx : in64 x) (hy : in64 y) (hz : in64 z) (w : World) : Calls Try.prog 107 #[(.agg #[.int .i64 a.m0, .int .i64 a.m1, .int .i64 a.m2, .int .i64 a.m3, .int .i64 a.m4, .int .i64 a.m5, .int .i64 a.m6, .int .i64 a.m7, .int .i64 a.m8, .int .i64 a.tx, .int .i64 a.ty, .int .i64 a.tz]), (.agg #[.int .i64 x, .int .i64 y, .int .i64 z])] w fun e w' => e = .returned (.agg #[.int .i64 (T0 a x y z), .int .i64 (T1 a x y z), .int .i64 (T2 a x y z)]) ∧ Below w.heap.size w w' := by
  obtain ⟨h0, h1, h2, h3, h4, h5, h6, h7, h8, h9, h10, h11⟩ := ha
  exact Turn_core _ _ _ _ _ _ _ _ _ _ _ _ x y z _ _ _ w (fun w => VDot_any _ _ _ x y z h0 h1 h2 hx hy hz w) (fun w => VDot_any _ _ _ x y z h3 h4 h5 hx hy hz w) (fun w => VDot_any _ _ _ x y z h6 h7 h8 hx hy hz w)

theorem RTurn_any (a : Aff) (x y z : Int) (ha : inA a) (hx : in64 x) (hy : in64 y) (hz : in64 z) (w : World) : Calls Try.prog 91 #[(.agg #[.int .i64 a.m0, .int .i64 a.m1, .int .i64 a.m2, .int .i64 a.m3, .int .i64 a.m4, .int .i64 a.m5, .int .i64 a.m6, .int .i64 a.m7, .int .i64 a.m8, .int .i64 a.tx, .int .i64 a.ty, .int .i64 a.tz]), (.agg #[.int .i64 x, .int .i64 y, .int .i64 z])] w fun e w' => e = .returned (.agg #[.int .i64 (T0 a x y z), .int .i64 (T1 a x y z), .int .i64 (T2 a x y z)]) ∧ Below w.heap.size w w' := by
  obtain ⟨h0, h1, h2, h3, h4, h5, h6, h7, h8, h9, h10, h11⟩ := ha
  exact RTurn_core _ _ _ _ _ _ _ _ _ _ _ _ x y z _ _ _ w (fun w => RVDot_any _ _ _ x y z h0 h1 h2 hx hy hz w) (fun w => RVDot_any _ _ _ x y z h3 h4 h5 hx hy hz w) (fun w => RVDot_any _ _ _ x y z h6 h7 h8 hx hy hz w)

theorem Apply_any (a : Aff) (x y z : Int) (ha : inA a) (hx : in64 x) (hy : in64 y) (hz : in64 z) (w : World) : Calls Try.prog 97 #[(.agg #[.int .i64 a.m0, .int .i64 a.m1, .int .i64 a.m2, .int .i64 a.m3, .int .i64 a.m4, .int .i64 a.m5, .int .i64 a.m6, .int .i64 a.m7, .int .i64 a.m8, .int .i64 a.tx, .int .i64 a.ty, .int .i64 a.tz]), (.agg #[.int .i64 x, .int .i64 y, .int .i64 z])] w fun e w' => e = .returned (.agg #[.int .i64 (A0 a x y z), .int .i64 (A1 a x y z), .int .i64 (A2 a x y z)]) ∧ Below w.heap.size w w' := by
  have ht := Turn_any a x y z ha hx hy hz
  obtain ⟨h0, h1, h2, h3, h4, h5, h6, h7, h8, h9, h10, h11⟩ := ha
  exact Apply_core _ _ _ _ _ _ _ _ _ _ _ _ x y z _ _ _ _ _ _ w ht (fun w blk h => VAdd_own blk _ _ _ _ _ _ (dotF_in _ _ _ _ _ _) (dotF_in _ _ _ _ _ _) (dotF_in _ _ _ _ _ _) h9 h10 h11 w h)
theorem RApply_any (a : Aff) (x y z : Int) (ha : inA a) (hx : in64 x) (hy : in64 y) (hz : in64 z) (w : World) : Calls Try.prog 92 #[(.agg #[.int .i64 a.m0, .int .i64 a.m1, .int .i64 a.m2, .int .i64 a.m3, .int .i64 a.m4, .int .i64 a.m5, .int .i64 a.m6, .int .i64 a.m7, .int .i64 a.m8, .int .i64 a.tx, .int .i64 a.ty, .int .i64 a.tz]), (.agg #[.int .i64 x, .int .i64 y, .int .i64 z])] w fun e w' => e = .returned (.agg #[.int .i64 (A0 a x y z), .int .i64 (A1 a x y z), .int .i64 (A2 a x y z)]) ∧ Below w.heap.size w w' := by
  have ht := RTurn_any a x y z ha hx hy hz
  obtain ⟨h0, h1, h2, h3, h4, h5, h6, h7, h8, h9, h10, h11⟩ := ha
  exact RApply_core _ _ _ _ _ _ _ _ _ _ _ _ x y z _ _ _ _ _ _ w ht (fun w => RVTwo_any _ _ _ _ _ _ (dotF_in _ _ _ _ _ _) (dotF_in _ _ _ _ _ _) (dotF_in _ _ _ _ _ _) h9 h10 h11 w)
theorem compose_any (f g : Aff) (hf : inA f) (hg : inA g) (w : World) : Calls Try.prog 90 #[(.agg #[.int .i64 f.m0, .int .i64 f.m1, .int .i64 f.m2, .int .i64 f.m3, .int .i64 f.m4, .int .i64 f.m5, .int .i64 f.m6, .int .i64 f.m7, .int .i64 f.m8, .int .i64 f.tx, .int .i64 f.ty, .int .i64 f.tz]), (.agg #[.int .i64 g.m0, .int .i64 g.m1, .int .i64 g.m2, .int .i64 g.m3, .int .i64 g.m4, .int .i64 g.m5, .int .i64 g.m6, .int .i64 g.m7, .int .i64 g.m8, .int .i64 g.tx, .int .i64 g.ty, .int .i64 g.tz])] w fun e w' => e = .returned (.agg #[.int .i64 (compF f g).m0, .int .i64 (compF f g).m1, .int .i64 (compF f g).m2, .int .i64 (compF f g).m3, .int .i64 (compF f g).m4, .int .i64 (compF f g).m5, .int .i64 (compF f g).m6, .int .i64 (compF f g).m7, .int .i64 (compF f g).m8, .int .i64 (compF f g).tx, .int .i64 (compF f g).ty, .int .i64 (compF f g).tz]) ∧ Below w.heap.size w w' := by
  obtain ⟨h0, h1, h2, h3, h4, h5, h6, h7, h8, h9, h10, h11⟩ := hf
  exact compose_core _ _ _ _ _ _ _ _ _ _ _ _ _ _ _ _ _ _ _ _ _ _ _ _ _ _ _ _ _ _ _ _ _ _ _ _ w (fun w => Turn_any g _ _ _ hg h0 h3 h6 w) (fun w => Turn_any g _ _ _ hg h1 h4 h7 w) (fun w => Turn_any g _ _ _ hg h2 h5 h8 w) (fun w => Apply_any g _ _ _ hg h9 h10 h11 w)

/-- a slice of transforms -/
structure AffSl (w : World) (blk off n : Nat) (zs : List Aff) : Prop where
  len : zs.length = n
  bd : ∀ k, k < n → inA (zs.getD k sameA)
  cell : ∀ k, k < n → ∀ j v, (zs.getD k sameA).cells[j]? = some v → w.cell? ⟨blk, off + k * 12 + j, none⟩ = some v
theorem foldA_step (f : Aff → Aff → Aff) (s : Aff) (zs : List Aff) (k : Nat) (h : k < zs.length) : (zs.drop k).foldl f s = (zs.drop (k + 1)).foldl f (f s (zs.getD k sameA)) := by
  rw [List.drop_eq_getElem_cons h, List.foldl_cons]
  have e : zs.getD k sameA = zs[k] := by simp [h]
  rw [e]

set_option maxHeartbeats 8000000 in
theorem Then_walk (blk off n cap : Nat) (zs : List Aff) (RR : Aff) (hN : n ≤ 4611686018427387904) (w : World) (hbk : blk < w.heap.size) (sl : AffSl w blk off n zs) (hR : zs.foldl compF sameA = RR) :
    Calls Try.prog 56 #[.slice (some ⟨blk, off, none⟩) n cap] w fun e w' => e = .returned (.agg #[.int .i64 RR.m0, .int .i64 RR.m1, .int .i64 RR.m2, .int .i64 RR.m3, .int .i64 RR.m4, .int .i64 RR.m5, .int .i64 RR.m6, .int .i64 RR.m7, .int .i64 RR.m8, .int .i64 RR.tx, .int .i64 RR.ty, .int .i64 RR.tz]) ∧ Below w.heap.size w w' := by
  have sm := Lib.hid Same_any
  have SLH := Lib.hid sl; have HRR := Lib.hid hR
  have hlen := Lib.hid sl.len
  clear hR sl
  go_enter Try.func56, Try.ntmps56
  go_upto_region 1 with fail
  obtain ⟨W0, hW⟩ : ∃ W0, W0 = (w.alloc (.cells #[.int .i64 0, .int .i64 0, .int .i64 0, .int .i64 0, .int .i64 0, .int .i64 0, .int .i64 0, .int .i64 0, .int .i64 0, .int .i64 0, .int .i64 0, .int .i64 0] 80)) := ⟨_, rfl⟩
  have hB0 : Below w.heap.size w W0 := hW ▸ (Below.al (Below.refl _ _))
  have HR : Hid (Own w.heap.size [.int .i64 0, .int .i64 0, .int .i64 0, .int .i64 0, .int .i64 0, .int .i64 0, .int .i64 0, .int .i64 0, .int .i64 0, .int .i64 0, .int .i64 0, .int .i64 0] W0) := Lib.hid (hW ▸ (Own.newAt (by simp)))
  rw [← hW]
  clear hW
  obtain ⟨R, eR⟩ : ∃ X, X = w.heap.size := ⟨_, rfl⟩
  rw [← eR] at HR ⊢
  have Rw : w.heap.size ≤ R := by omega
  clear eR
  go_upto_region 2 with (go_at_call 47; refine (sm.out _).mono ?_; rintro e w1 ⟨rfl, hb⟩)
  have HR1 := Lib.hid (HR.out.later hb)
  clear HR sm
  obtain ⟨W1, hW⟩ : ∃ W1, W1 = (w1.alloc (.cells #[.int .i64 4294967296, .int .i64 0, .int .i64 0, .int .i64 0, .int .i64 4294967296, .int .i64 0, .int .i64 0, .int .i64 0, .int .i64 4294967296, .int .i64 0, .int .i64 0, .int .i64 0] 80)) := ⟨_, rfl⟩
  have hB1 : Below w1.heap.size w1 W1 := hW ▸ (Below.al (Below.refl _ _))
  have HD : Hid (Own w1.heap.size [.int .i64 4294967296, .int .i64 0, .int .i64 0, .int .i64 0, .int .i64 4294967296, .int .i64 0, .int .i64 0, .int .i64 0, .int .i64 4294967296, .int .i64 0, .int .i64 0, .int .i64 0] W1) := Lib.hid (hW ▸ (Own.newAt (by simp)))
  rw [← hW]
  clear hW
  obtain ⟨D, eD⟩ : ∃ X, X = w1.heap.size := ⟨_, rfl⟩
  rw [← eD] at HD ⊢
  have Dw : w1.heap.size ≤ D := by omega
  clear eD
  have HR := Lib.hid (HR1.out.later hB1)
  have hB2 : Below w.heap.size w W1 := Below.go (Below.go hB0 hb) hB1
  have nRD : R ≠ D := by have := HR1.out.lt; omega
  have Dww : w.heap.size ≤ D := by have := hB0.size; have := hb.size; omega
  replace Dw := Dww
  clear HR1 hB1 hb hB0 Dww
  go_wp2_with (fail)
  go_loopw [5, 9] (fun _ i wr => ∃ (k : Nat) (F : Aff), k ≤ n ∧ i = .int .i64 k ∧ Hid ((zs.drop k).foldl compF F = RR) ∧ Hid (inA F) ∧ Hid (Below w.heap.size w wr) ∧ Hid (Own D [.int .i64 F.m0, .int .i64 F.m1, .int .i64 F.m2, .int .i64 F.m3, .int .i64 F.m4, .int .i64 F.m5, .int .i64 F.m6, .int .i64 F.m7, .int .i64 F.m8, .int .i64 F.tx, .int .i64 F.ty, .int .i64 F.tz] wr) ∧ Hid (Own R [.int .i64 0, .int .i64 0, .int .i64 0, .int .i64 0, .int .i64 0, .int .i64 0, .int .i64 0, .int .i64 0, .int .i64 0, .int .i64 0, .int .i64 0, .int .i64 0] wr)) (fun _ i _ => (n - (intOf i).toNat))
  case atStart => exact ⟨0, sameA, by omega, rfl, HRR.out, Lib.hid in_sameA, Lib.hid hB2, HD, HR⟩
  case round =>
    obtain ⟨k, F, hk, rfl, hs, hF, HB, HD, HR⟩ := hrel
    clear hB2
    by_cases hlt : k < n
    · have hc := SLH.out.cell k hlt
      have wz := Lib.hid (SLH.out.bd k hlt)
      have st := foldA_step compF F zs k (by rw [hlen.out]; exact hlt)
      rw [hs.out] at st
      generalize zs.getD k sameA = z at *
      have nx := Lib.hid st.symm
      have pl := Lib.hid (fun w => compose_any F z hF.out wz.out w)
      have HC := Lib.hid hc
      clear st hF wz hs hc
      have below := fun (W : World) (hb : Below wr.heap.size wr W) => Below.go HB.out hb
      have c0 := HC.out 0 _ rfl; have c1 := HC.out 1 _ rfl; have c2 := HC.out 2 _ rfl; have c3 := HC.out 3 _ rfl; have c4 := HC.out 4 _ rfl; have c5 := HC.out 5 _ rfl; have c6 := HC.out 6 _ rfl; have c7 := HC.out 7 _ rfl; have c8 := HC.out 8 _ rfl; have c9 := HC.out 9 _ rfl; have c10 := HC.out 10 _ rfl; have c11 := HC.out 11 _ rfl
      rw [← HB.out.cell (p := ⟨blk, off + k * 12 + 0, none⟩) hbk] at c0; rw [← HB.out.cell (p := ⟨blk, off + k * 12 + 1, none⟩) hbk] at c1; rw [← HB.out.cell (p := ⟨blk, off + k * 12 + 2, none⟩) hbk] at c2; rw [← HB.out.cell (p := ⟨blk, off + k * 12 + 3, none⟩) hbk] at c3; rw [← HB.out.cell (p := ⟨blk, off + k * 12 + 4, none⟩) hbk] at c4; rw [← HB.out.cell (p := ⟨blk, off + k * 12 + 5, none⟩) hbk] at c5; rw [← HB.out.cell (p := ⟨blk, off + k * 12 + 6, none⟩) hbk] at c6; rw [← HB.out.cell (p := ⟨blk, off + k * 12 + 7, none⟩) hbk] at c7; rw [← HB.out.cell (p := ⟨blk, off + k * 12 + 8, none⟩) hbk] at c8; rw [← HB.out.cell (p := ⟨blk, off + k * 12 + 9, none⟩) hbk] at c9; rw [← HB.out.cell (p := ⟨blk, off + k * 12 + 10, none⟩) hbk] at c10; rw [← HB.out.cell (p := ⟨blk, off + k * 12 + 11, none⟩) hbk] at c11
      simp only [Nat.add_zero] at c0
      clear below
      go_upto_region 5 with fail
      clear c0 c1 c2 c3 c4 c5 c6 c7 c8 c9 c10 c11
      obtain ⟨W2, hW⟩ : ∃ W2, W2 = (wr.alloc (.cells #[.int .i64 z.m0, .int .i64 z.m1, .int .i64 z.m2, .int .i64 z.m3, .int .i64 z.m4, .int .i64 z.m5, .int .i64 z.m6, .int .i64 z.m7, .int .i64 z.m8, .int .i64 z.tx, .int .i64 z.ty, .int .i64 z.tz] 80)) := ⟨_, rfl⟩
      have hB3 : Below wr.heap.size wr W2 := hW ▸ (Below.al (Below.refl _ _))
      have HG : Hid (Own wr.heap.size [.int .i64 z.m0, .int .i64 z.m1, .int .i64 z.m2, .int .i64 z.m3, .int .i64 z.m4, .int .i64 z.m5, .int .i64 z.m6, .int .i64 z.m7, .int .i64 z.m8, .int .i64 z.tx, .int .i64 z.ty, .int .i64 z.tz] W2) := Lib.hid (hW ▸ (Own.newAt (by simp)))
      rw [← hW]
      clear hW
      obtain ⟨G, eG⟩ : ∃ X, X = wr.heap.size := ⟨_, rfl⟩
      rw [← eG] at HG ⊢
      have Gw : wr.heap.size ≤ G := by omega
      clear eG
      have HDn := Lib.hid (HD.out.later hB3); have HRn := Lib.hid (HR.out.later hB3)
      have HB2 : Below w.heap.size w W2 := Below.go HB.out hB3
      clear HD HR hB3 HB
      have oG := HG.out
      have G0 := oG.at 0 _ rfl
      have G1 := oG.at 1 _ rfl
      have G2 := oG.at 2 _ rfl
      have G3 := oG.at 3 _ rfl
      have G4 := oG.at 4 _ rfl
      have G5 := oG.at 5 _ rfl
      have G6 := oG.at 6 _ rfl
      have G7 := oG.at 7 _ rfl
      have G8 := oG.at 8 _ rfl
      have G9 := oG.at 9 _ rfl
      have G10 := oG.at 10 _ rfl
      have G11 := oG.at 11 _ rfl
      have Gl := oG.lt
      clear oG
      have oD := HDn.out
      have D0 := oD.at 0 _ rfl
      have D1 := oD.at 1 _ rfl
      have D2 := oD.at 2 _ rfl
      have D3 := oD.at 3 _ rfl
      have D4 := oD.at 4 _ rfl
      have D5 := oD.at 5 _ rfl
      have D6 := oD.at 6 _ rfl
      have D7 := oD.at 7 _ rfl
      have D8 := oD.at 8 _ rfl
      have D9 := oD.at 9 _ rfl
      have D10 := oD.at 10 _ rfl
      have D11 := oD.at 11 _ rfl
      have Dl := oD.lt
      clear oD
      go_upto_region 6 with (go_at_call 90; refine (pl.out _).mono ?_; rintro e w3 ⟨rfl, hB⟩; have oD := HDn.out.later hB; have E0 := oD.at 0 _ rfl; have Ef0 := oD.ok 0 (by simp); have E1 := oD.at 1 _ rfl; have Ef1 := oD.ok 1 (by simp); have E2 := oD.at 2 _ rfl; have Ef2 := oD.ok 2 (by simp); have E3 := oD.at 3 _ rfl; have Ef3 := oD.ok 3 (by simp); have E4 := oD.at 4 _ rfl; have Ef4 := oD.ok 4 (by simp); have E5 := oD.at 5 _ rfl; have Ef5 := oD.ok 5 (by simp); have E6 := oD.at 6 _ rfl; have Ef6 := oD.ok 6 (by simp); have E7 := oD.at 7 _ rfl; have Ef7 := oD.ok 7 (by simp); have E8 := oD.at 8 _ rfl; have Ef8 := oD.ok 8 (by simp); have E9 := oD.at 9 _ rfl; have Ef9 := oD.ok 9 (by simp); have E10 := oD.at 10 _ rfl; have Ef10 := oD.ok 10 (by simp); have E11 := oD.at 11 _ rfl; have Ef11 := oD.ok 11 (by simp); clear oD)
      clear G0 D0 E0 Ef0 G1 D1 E1 Ef1 G2 D2 E2 Ef2 G3 D3 E3 Ef3 G4 D4 E4 Ef4 G5 D5 E5 Ef5 G6 D6 E6 Ef6 G7 D7 E7 Ef7 G8 D8 E8 Ef8 G9 D9 E9 Ef9 G10 D10 E10 Ef10 G11 D11 E11 Ef11 Gl Dl
      rw [show ((((((((((((w3.setCell ⟨D, 0, none⟩ (.int .i64 (compF F z).m0)).setCell ⟨D, 1, none⟩ (.int .i64 (compF F z).m1)).setCell ⟨D, 2, none⟩ (.int .i64 (compF F z).m2)).setCell ⟨D, 3, none⟩ (.int .i64 (compF F z).m3)).setCell ⟨D, 4, none⟩ (.int .i64 (compF F z).m4)).setCell ⟨D, 5, none⟩ (.int .i64 (compF F z).m5)).setCell ⟨D, 6, none⟩ (.int .i64 (compF F z).m6)).setCell ⟨D, 7, none⟩ (.int .i64 (compF F z).m7)).setCell ⟨D, 8, none⟩ (.int .i64 (compF F z).m8)).setCell ⟨D, 9, none⟩ (.int .i64 (compF F z).tx)).setCell ⟨D, 10, none⟩ (.int .i64 (compF F z).ty)).setCell ⟨D, 11, none⟩ (.int .i64 (compF F z).tz)) = w3.setCells D 0 [.int .i64 (compF F z).m0, .int .i64 (compF F z).m1, .int .i64 (compF F z).m2, .int .i64 (compF F z).m3, .int .i64 (compF F z).m4, .int .i64 (compF F z).m5, .int .i64 (compF F z).m6, .int .i64 (compF F z).m7, .int .i64 (compF F z).m8, .int .i64 (compF F z).tx, .int .i64 (compF F z).ty, .int .i64 (compF F z).tz] from rfl]
      have HDnn : Hid (Own D [.int .i64 (compF F z).m0, .int .i64 (compF F z).m1, .int .i64 (compF F z).m2, .int .i64 (compF F z).m3, .int .i64 (compF F z).m4, .int .i64 (compF F z).m5, .int .i64 (compF F z).m6, .int .i64 (compF F z).m7, .int .i64 (compF F z).m8, .int .i64 (compF F z).tx, .int .i64 (compF F z).ty, .int .i64 (compF F z).tz] (w3.setCells D 0 [.int .i64 (compF F z).m0, .int .i64 (compF F z).m1, .int .i64 (compF F z).m2, .int .i64 (compF F z).m3, .int .i64 (compF F z).m4, .int .i64 (compF F z).m5, .int .i64 (compF F z).m6, .int .i64 (compF F z).m7, .int .i64 (compF F z).m8, .int .i64 (compF F z).tx, .int .i64 (compF F z).ty, .int .i64 (compF F z).tz])) := Lib.hid (Own.store (vs := [.int .i64 (compF F z).m0, .int .i64 (compF F z).m1, .int .i64 (compF F z).m2, .int .i64 (compF F z).m3, .int .i64 (compF F z).m4, .int .i64 (compF F z).m5, .int .i64 (compF F z).m6, .int .i64 (compF F z).m7, .int .i64 (compF F z).m8, .int .i64 (compF F z).tx, .int .i64 (compF F z).ty, .int .i64 (compF F z).tz]) (HDn.out.later hB) rfl)
      have HRnn : Hid (Own R [.int .i64 0, .int .i64 0, .int .i64 0, .int .i64 0, .int .i64 0, .int .i64 0, .int .i64 0, .int .i64 0, .int .i64 0, .int .i64 0, .int .i64 0, .int .i64 0] (w3.setCells D 0 [.int .i64 (compF F z).m0, .int .i64 (compF F z).m1, .int .i64 (compF F z).m2, .int .i64 (compF F z).m3, .int .i64 (compF F z).m4, .int .i64 (compF F z).m5, .int .i64 (compF F z).m6, .int .i64 (compF F z).m7, .int .i64 (compF F z).m8, .int .i64 (compF F z).tx, .int .i64 (compF F z).ty, .int .i64 (compF F z).tz])) := Lib.hid (Own.far (o := 0) (vs := [.int .i64 (compF F z).m0, .int .i64 (compF F z).m1, .int .i64 (compF F z).m2, .int .i64 (compF F z).m3, .int .i64 (compF F z).m4, .int .i64 (compF F z).m5, .int .i64 (compF F z).m6, .int .i64 (compF F z).m7, .int .i64 (compF F z).m8, .int .i64 (compF F z).tx, .int .i64 (compF F z).ty, .int .i64 (compF F z).tz]) (HRn.out.later hB) nRD)
      have V4b : Below w.heap.size w (w3.setCells D 0 [.int .i64 (compF F z).m0, .int .i64 (compF F z).m1, .int .i64 (compF F z).m2, .int .i64 (compF F z).m3, .int .i64 (compF F z).m4, .int .i64 (compF F z).m5, .int .i64 (compF F z).m6, .int .i64 (compF F z).m7, .int .i64 (compF F z).m8, .int .i64 (compF F z).tx, .int .i64 (compF F z).ty, .int .i64 (compF F z).tz]) := Below.setCells (Below.go HB2 hB) Dw [.int .i64 (compF F z).m0, .int .i64 (compF F z).m1, .int .i64 (compF F z).m2, .int .i64 (compF F z).m3, .int .i64 (compF F z).m4, .int .i64 (compF F z).m5, .int .i64 (compF F z).m6, .int .i64 (compF F z).m7, .int .i64 (compF F z).m8, .int .i64 (compF F z).tx, .int .i64 (compF F z).ty, .int .i64 (compF F z).tz] 0
      generalize (w3.setCells D 0 [.int .i64 (compF F z).m0, .int .i64 (compF F z).m1, .int .i64 (compF F z).m2, .int .i64 (compF F z).m3, .int .i64 (compF F z).m4, .int .i64 (compF F z).m5, .int .i64 (compF F z).m6, .int .i64 (compF F z).m7, .int .i64 (compF F z).m8, .int .i64 (compF F z).tx, .int .i64 (compF F z).ty, .int .i64 (compF F z).tz]) = V4 at *
      clear HDn HRn hB
      have HDn := HDnn
      clear HDnn
      have HRn := HRnn
      clear HRnn
      clear HG HB2 pl
      have V4B := Lib.hid V4b
      clear V4b
      go_wp2_with (fail)
      go_roundw
      case rel => exact ⟨k + 1, compF F z, by omega, by go_num, nx, Lib.hid (inA_comp F z), V4B, HDn, HRn⟩
      case measure => simp [intOf]; omega
    · obtain rfl : k = n := by omega
      have he := hs.out
      rw [List.drop_eq_nil_of_le (by rw [hlen.out]; exact Nat.le_refl _)] at he
      have he2 : F = RR := he
      clear he hs hF HRR
      subst he2
      have hBr := HB.out
      have oD := HD.out
      have D0 := oD.at 0 _ rfl
      have D1 := oD.at 1 _ rfl
      have D2 := oD.at 2 _ rfl
      have D3 := oD.at 3 _ rfl
      have D4 := oD.at 4 _ rfl
      have D5 := oD.at 5 _ rfl
      have D6 := oD.at 6 _ rfl
      have D7 := oD.at 7 _ rfl
      have D8 := oD.at 8 _ rfl
      have D9 := oD.at 9 _ rfl
      have D10 := oD.at 10 _ rfl
      have D11 := oD.at 11 _ rfl
      have Dl := oD.lt
      clear oD
      have oR := HR.out
      have R0 := oR.at 0 _ rfl
      have Rf0 := oR.ok 0 (by simp)
      have R1 := oR.at 1 _ rfl
      have Rf1 := oR.ok 1 (by simp)
      have R2 := oR.at 2 _ rfl
      have Rf2 := oR.ok 2 (by simp)
      have R3 := oR.at 3 _ rfl
      have Rf3 := oR.ok 3 (by simp)
      have R4 := oR.at 4 _ rfl
      have Rf4 := oR.ok 4 (by simp)
      have R5 := oR.at 5 _ rfl
      have Rf5 := oR.ok 5 (by simp)
      have R6 := oR.at 6 _ rfl
      have Rf6 := oR.ok 6 (by simp)
      have R7 := oR.at 7 _ rfl
      have Rf7 := oR.ok 7 (by simp)
      have R8 := oR.at 8 _ rfl
      have Rf8 := oR.ok 8 (by simp)
      have R9 := oR.at 9 _ rfl
      have Rf9 := oR.ok 9 (by simp)
      have R10 := oR.at 10 _ rfl
      have Rf10 := oR.ok 10 (by simp)
      have R11 := oR.at 11 _ rfl
      have Rf11 := oR.ok 11 (by simp)
      have Rl := oR.lt
      clear oR
      clear HD HR HB SLH hlen
      go_wp2_with (fail)
      exact bodyPost_ret (v := (.agg #[.int .i64 F.m0, .int .i64 F.m1, .int .i64 F.m2, .int .i64 F.m3, .int .i64 F.m4, .int .i64 F.m5, .int .i64 F.m6, .int .i64 F.m7, .int .i64 F.m8, .int .i64 F.tx, .int .i64 F.ty, .int .i64 F.tz])) (by simp [results, Try.results56, go_sem, R0, R1, R2, R3, R4, R5, R6, R7, R8, R9, R10, R11]) rfl ⟨rfl, by repeat (first | (with_reducible assumption) | (with_reducible refine Below.setCell ?_ (by first | assumption | (simp; omega)) _))⟩
end Go.Proofs.Ytgggngcgcpmkbaa
