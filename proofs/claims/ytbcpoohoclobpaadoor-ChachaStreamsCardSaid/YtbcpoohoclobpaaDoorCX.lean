/- ChachaStreams: the walk. -/
import Derived.Test.YtbcpoohoclobpaaDoorCW
import Derived.LoopN
import Derived.LoopTactic
import Derived.Deep.Onto
import Derived.Deep.QuietTactic
import Derived.Laws.OwnMore
namespace Go.Proofs.YtbcpoohoclobpaaDoor
set_option linter.unusedVariables false
set_option maxRecDepth 2000
set_option linter.unusedSimpArgs false
open Go.RowKit
attribute [local go_sem ↓ high] sliced_head sliced_one
theorem wpList_append_byt {w : World} {ops : Array Oper} {rest : List Oper} {o : Oper} {a : Act} {Q : Exit → Act → World → Prop} (hgd : o.guard = none) (s x : Operand)
    (ho : o.op = .call { callee := .builtin .append, args := #[s, x], argTypes := #[34, 34] }) (base : Nat) (v : Value) (L : Nat) (xs : List Value) (hs : a.eval s = v) (hown : w.ownsRow base 5 1 v L xs)
    (q : Option Addr) (n c : Nat) (f : Nat → Int) (hx : a.eval x = .slice q n c) (hby : Byt w q n f) (h63 : L + n ≤ 140737488355328) (hbase : base ≤ w.heap.size)
    (h : ∀ v' w', w'.ownsRow base 5 1 v' (L + n) (xs ++ nums .u8 f n) → w.grownBy w' v.ownBlock → wpList Tryd.prog ops Q rest (a.put o.dst v') w') : wpList Tryd.prog ops Q (o :: rest) a w := by
  obtain ⟨i0, hi, hz0, hz1, hz2⟩ := infoB_parts
  rcases hby with h0 | ⟨b, off, rfl, hb⟩
  · subst h0
    refine wpList_append_zero hgd s x 34 ho Tryd.underlying34 hi hs hown q c hx (h v w ?_ (World.grownBy.refl w _))
    rw [Nat.add_zero, show nums .u8 f 0 = [] from rfl, List.append_nil]
    exact hown
  · exact wpList_append_own _ hgd s x 34 ho base 5 i0 (.int .u8 0) 1 1 Tryd.underlying34 hi hz0 hz1 hz2 rfl (by decide) v L xs hs hown ⟨b, off, none⟩ n c (nums .u8 f n) hx (by rw [nums_length, Nat.mul_one]) (fun j u hj => by rw [Addr.add_mid]; exact hb.cell j u hj) (nums_one _ _ _) (by unfold maxLen; omega) (by omega) hbase (fun v' w' h1 h2 _ => h v' w' h1 h2)
theorem row_cap {w : World} {base size n c : Nat} {e : TypeId} {p : Option Addr} {xs : List Value} (h : w.ownsRow base e size (.slice p n c) n xs) : n ≤ c ∧ c ≤ 9223372036854775807 := by
  rcases h.2 with ⟨h0, _⟩ | ⟨g, cap, cur, h0, _, _, h1, h2, _⟩
  · cases h0; decide
  · cases h0; unfold maxLen at h2; omega

set_option maxHeartbeats 16000000 in
theorem Streams_core (kf nf : Nat → Int) (c : Int) (p : Option Addr) (np cp : Nat) (q : Nat → Option Addr) (m t cc : Nat → Nat) (f : Nat → Nat → Int) (n ni : Int) (K N2 : Nat) (hni : min n 300 = ni) (hN2 : ni.toNat = N2) (ht : ∀ k, min (m k : Int) 200 = (t k : Int)) (hK : K = min np 5) (hnc : np ≤ cp) (hcm : cp ≤ 9223372036854775807) (hk : ∀ i, i < 32 → inB (kf i)) (hn : ∀ i, i < 12 → inB (nf i)) (hc : in32 c) (w : World) (hg : Has 0 0 GL w) (hd : Data w p np q m cc f) :
    Calls Tryd.prog 4 #[(.agg (seedC kf c nf).toArray), .slice p np cp, .int .i64 n] w fun e w' => e = .returned (.bool true) ∧ Below w.heap.size w w' := by
  have FK := Lib.hid hk; have FN := Lib.hid hn; have FC := Lib.hid hc; have HG0 := Lib.hid hg; have DA := Lib.hid hd
  have NI := Lib.hid (show ni ≤ 65536 by omega); have HN2 := Lib.hid hN2; have TT := Lib.hid ht; have HK := Lib.hid hK; have NC := Lib.hid hnc; have CM := Lib.hid hcm
  clear hk hn hc hg hd hN2 ht hK hnc hcm
  obtain ⟨i0, hi, hz0, hz1, hz2⟩ := infoB_parts
  obtain ⟨s0, si, sz0, sz1, sz2⟩ := infoS_parts
  go_enter Tryd.func4, Tryd.ntmps4
  go_upto_region 1 with fail
  obtain ⟨W0, hW⟩ : ∃ W0, W0 = (w.alloc (.cells (seedC kf c nf).toArray 32)) := ⟨_, rfl⟩
  have hB0 : Below w.heap.size w W0 := hW ▸ (Below.al (Below.refl _ _))
  have HD : Hid (Own w.heap.size (seedC kf c nf) W0) := Lib.hid (hW ▸ (show Own w.heap.size (seedC kf c nf) (w.alloc (.cells (seedC kf c nf).toArray 32)) from Own.newAt (by simp)))
  rw [← hW]
  clear hW
  obtain ⟨D, eD⟩ : ∃ X, X = w.heap.size := ⟨_, rfl⟩
  rw [← eD] at HD ⊢
  have Dw : w.heap.size ≤ D := by omega
  clear eD
  have HG := Lib.hid (HG0.out.later hB0)
  replace HD := Lib.hid HD.out.has
  have dW : D < W0.heap.size := HD.out.lt
  have gW : 0 < W0.heap.size := HG.out.lt
  have hB00 := Lib.hid hB0.size
  clear HG0
  go_wp2_with (fail)
  clear hni
  go_loopw [7, 8, 9] (fun v7 v8 iv wr => ∃ (i : Nat) (p7 : Option Addr) (c7 : Nat) (p8 : Option Addr) (c8 : Nat), i ≤ K ∧ v7 = .slice p7 i c7 ∧ v8 = .slice p8 (sumT t i) c8 ∧ iv = .int .i64 i ∧ Hid (wr.ownsRow W0.heap.size 34 1 (.slice p7 i c7) i (slsF q t cc i)) ∧ Hid (wr.ownsRow W0.heap.size 5 1 (.slice p8 (sumT t i) c8) (sumT t i) (nums .u8 (catF t f K) (sumT t i))) ∧ Hid (Below w.heap.size w wr) ∧ Hid (W0.heap.size ≤ wr.heap.size) ∧ Hid (Has D 0 (seedC kf c nf) wr) ∧ Hid (Has 0 0 GL wr)) (fun _ _ iv _ => (5 - (intOf iv).toNat))
  case atStart => exact ⟨0, none, 0, none, 0, Nat.zero_le _, rfl, rfl, rfl, Lib.hid (World.ownsRow_nil _ _ _ _), Lib.hid (World.ownsRow_nil _ _ _ _), Lib.hid hB0, Lib.hid (Nat.le_refl _), HD, HG⟩
  case round =>
    clear HD HG hB0
    obtain ⟨i, p7, c7, p8, c8, hik, rfl, rfl, rfl, R7, R8, HB, HS, HD, HG⟩ := hrel
    by_cases hlt : i < K
    · have hnp : i < np := by have := HK.out; omega
      have hi5 : i < 5 := by have := HK.out; omega
      obtain ⟨DD, oo, rfl, hDD, hcell, hmc, hcx, hby⟩ := (DA.out.later HB.out) i hnp
      have i1 : (i : Int) < (np : Int) := by omega
      have i2 : (i : Int) < 5 := by omega
      have i3 : (0 : Int) ≤ (i : Int) := by omega
      have ti := TT.out i
      have SS := Lib.hid (slsF_succ q t cc i)
      have ST := Lib.hid (show sumT t (i + 1) = sumT t i + t i from rfl)
      have TM := Lib.hid (sumT_max t 200 (fun k => by have := TT.out k; omega) i)
      have XS := Lib.hid (nums_append .u8 (catF t f K) (f i) (sumT t i) (t i) (fun j hj => catF_at t f K i j hlt hj))
      obtain ⟨Ti, eT⟩ : ∃ T, sumT t i = T := ⟨_, rfl⟩
      have ET := Lib.hid eT
      rw [eT] at R8 ST TM XS ⊢
      clear eT
      have tm : t i ≤ m i := by omega
      have t2 : t i ≤ 200 := by omega
      have TTT := Lib.hid t2
      have BTW : Hid (Byt w (q i) (t i) (f i)) := Lib.hid (by obtain ⟨_, _, _, _, _, _, _, hbw⟩ := DA.out i hnp; exact byt_take hbw tm)
      generalize q i = qi at *
      generalize m i = mi at *
      generalize t i = tt at *
      generalize cc i = ci at *
      have m1 : (tt : Int) ≤ (ci : Int) := by omega
      have m0 : (0 : Int) ≤ (tt : Int) := by omega
      clear hby
      go_wp2_with (fail)
      go_quiet (fail)
      clear hcell ti i1 i2 m0 m1
      have hq : Below wr.heap.size wr (wr.drewN nq) := below_drewN (Below.refl _ _) _
      generalize wr.drewN nq = wq at *
      have hA : Below wr.heap.size wr (wq.alloc (.cells #[.slice qi tt ci] 34)) := Below.al (Below.go (Below.refl _ _) hq)
      have R7A := Lib.hid (row_later R7.out hA); have R8A := Lib.hid (row_later R8.out hA); have HDA := Lib.hid (HD.out.later hA); have HGA := Lib.hid (HG.out.later hA); have HBA := Lib.hid (Below.go HB.out hA); have HSA := Lib.hid (Nat.le_trans HS.out hA.size)
      clear R7 R8 HD HG HB HS hA hq tm t2 DA hcx hmc hDD
      by_cases htt : tt = 0
      · subst htt
        clear BTW XS
        go_wp2_with (first | (at_builtin; refine wpList_append_own _ rfl _ _ 33 rfl W0.heap.size 34 s0 (.slice none 0 0) 1 24 Tryd.underlying33 si sz0 sz1 sz2 rfl (by decide) _ i _ rfl R7A.out ⟨wq.heap.size, 0, none⟩ 1 1 [_] rfl rfl ((Own.newAt rfl).news) (by simp [Value.oneCell']) (by unfold maxLen; omega) (by omega) HSA.out ?_; intro v' w6 hrow hgr _; obtain ⟨p7', c7', rfl, _⟩ := row_form hrow; rw [SS.out] at hrow; have R8B := Lib.hid (R8A.out.kept hgr (rows_ne R8A.out R7A.out (by decide))); have hn1 := row_ne R7A.out dW; have hn2 := row_ne R7A.out gW; have HDB := Lib.hid (HDA.out.grown hgr hn1); have HGB := Lib.hid (HGA.out.grown hgr hn2); have HBB := Lib.hid (HBA.out.grown hgr HBA.out.size fun x hx => by have := row_ge R7A.out x hx; have := hB00.out; omega); have HSB := Lib.hid (Nat.le_trans HSA.out hgr.size); have R7B := Lib.hid hrow; clear hrow hgr hn1 hn2 R7A R8A HDA HGA HBA HSA) | (at_builtin; refine wpList_append_zero rfl _ _ 34 rfl Tryd.underlying34 hi rfl R8B.out qi ci rfl ?_))
        go_roundw
        case rel => (first | exact ⟨i + 1, _, _, p8, c8, by omega, rfl, by rw [ST.out, Nat.add_zero], by go_num, R7B, Lib.hid (by rw [ST.out, Nat.add_zero]; exact R8B.out), HBB, HSB, HDB, HGB⟩ | ((repeat apply Exists.intro); exact ⟨⟨i + 1, _, _, p8, c8, by omega, rfl, by rw [ST.out, Nat.add_zero], by go_num, R7B, Lib.hid (by rw [ST.out, Nat.add_zero]; exact R8B.out), HBB, HSB, HDB, HGB⟩, rfl⟩))
        case measure => simp [intOf]; omega
      · obtain ⟨b, off, rfl, hbs⟩ : ∃ b off, qi = some ⟨b, off, none⟩ ∧ Has b off (nums .u8 (f i) tt) w := BTW.out.resolve_left htt
        have HBS := Lib.hid hbs
        clear hbs BTW
        have NL := Lib.hid (show (nums .u8 (f i) tt).length = tt * 1 by rw [nums_length, Nat.mul_one])
        have T2 := Lib.hid (show tt ≤ 200 by have := TTT.out; omega)
        have N63 := Lib.hid (show Ti + tt ≤ maxLen by have := TM.out; have := T2.out; unfold maxLen; omega)
        have NBY := Lib.hid (show (Ti + tt) * 1 ≤ 140737488355328 by have := TM.out; have := T2.out; omega)
        go_wp2_with (first | (at_builtin; refine wpList_append_own _ rfl _ _ 33 rfl W0.heap.size 34 s0 (.slice none 0 0) 1 24 Tryd.underlying33 si sz0 sz1 sz2 rfl (by decide) _ i _ rfl R7A.out ⟨wq.heap.size, 0, none⟩ 1 1 [_] rfl rfl ((Own.newAt rfl).news) (by simp [Value.oneCell']) (by unfold maxLen; omega) (by omega) HSA.out ?_; intro v' w6 hrow hgr _; obtain ⟨p7', c7', rfl, _⟩ := row_form hrow; rw [SS.out] at hrow; have R8B := Lib.hid (R8A.out.kept hgr (rows_ne R8A.out R7A.out (by decide))); have hn1 := row_ne R7A.out dW; have hn2 := row_ne R7A.out gW; have HDB := Lib.hid (HDA.out.grown hgr hn1); have HGB := Lib.hid (HGA.out.grown hgr hn2); have HBB := Lib.hid (HBA.out.grown hgr HBA.out.size fun x hx => by have := row_ge R7A.out x hx; have := hB00.out; omega); have HSB := Lib.hid (Nat.le_trans HSA.out hgr.size); have R7B := Lib.hid hrow; clear hrow hgr hn1 hn2 R7A R8A HDA HGA HBA HSA) | (at_builtin; refine wpList_append_own _ rfl _ _ 34 rfl W0.heap.size 5 i0 (.int .u8 0) 1 1 Tryd.underlying34 hi hz0 hz1 hz2 rfl (by decide) _ Ti _ rfl R8B.out ⟨b, off, none⟩ tt ci (nums .u8 (f i) tt) rfl NL.out (fun j u hj => by rw [Addr.add_mid]; exact (HBS.out.later HBB.out).cell j u hj) (nums_one _ _ _) N63.out NBY.out HSB.out ?_; intro v' w7 hrow hgr _; obtain ⟨p8', c8', rfl, _⟩ := row_form hrow; rw [XS.out] at hrow; have R7C := Lib.hid (R7B.out.kept hgr (rows_ne R7B.out R8B.out (by decide))); have hn1 := row_ne R8B.out dW; have hn2 := row_ne R8B.out gW; have HDC := Lib.hid (HDB.out.grown hgr hn1); have HGC := Lib.hid (HGB.out.grown hgr hn2); have HBC := Lib.hid (HBB.out.grown hgr HBB.out.size fun x hx => by have := row_ge R8B.out x hx; have := hB00.out; omega); have HSC := Lib.hid (Nat.le_trans HSB.out hgr.size); have R8C := Lib.hid hrow; clear hrow hgr hn1 hn2 R7B R8B HDB HGB HBB HSB))
        go_roundw
        case rel => (first | exact ⟨i + 1, _, _, _, _, by omega, rfl, by rw [ST.out], by go_num, R7C, Lib.hid (by rw [ST.out]; exact R8C.out), HBC, HSC, HDC, HGC⟩ | ((repeat apply Exists.intro); exact ⟨⟨i + 1, _, _, _, _, by omega, rfl, by rw [ST.out], by go_num, R7C, Lib.hid (by rw [ST.out]; exact R8C.out), HBC, HSC, HDC, HGC⟩, rfl⟩))
        case measure => simp [intOf]; omega
    · by_cases hq5 : i < np
      · obtain rfl : K = i := by omega
        have i1 : (K : Int) < (np : Int) := by omega
        have i2 : decide ((K : Int) < 5) = false := decide_eq_false (by have := HK.out; omega)
        obtain ⟨N, eN⟩ : ∃ N, sumT t K = N := ⟨_, rfl⟩
        have HT : Hid (∀ k, k ≤ K → sumT t k ≤ 65536) := Lib.hid fun k hk => by have := sumT_max t 200 (fun k => by have := TT.out k; omega) k; have := HK.out; omega
        have NN : Hid (N ≤ 65536) := Lib.hid (by rw [← eN]; exact HT.out K (Nat.le_refl _))
        have EN := Lib.hid eN
        have TB : Hid (∀ k, k < K → t k ≤ m k ∧ k < np) := Lib.hid fun k hk => ⟨by have := TT.out k; omega, by have := HK.out; omega⟩
        rw [eN] at R8 ⊢
        clear eN
        go_upto_region 10 with fail
        have hA : Below wr.heap.size wr (wr.alloc (.cells #[] 5)) := Below.al (Below.refl _ _)
        have R11 := Lib.hid (World.ownsRow_made (base := W0.heap.size) (size := 1) (e := 5) wr #[] 0 HS.out (Nat.zero_le _) rfl)
        have R7A := Lib.hid (row_later R7.out hA); have R8A := Lib.hid (row_later R8.out hA); have HDA := Lib.hid (HD.out.later hA); have HGA := Lib.hid (HG.out.later hA); have HBA := Lib.hid (Below.go HB.out hA); have HSA := Lib.hid (Nat.le_trans HS.out hA.size)
        have R8L := Lib.hid (fun k hk => (R8.out.lt k hk).2)
        have N63 := Lib.hid (show 0 + N ≤ 140737488355328 by have := NN.out; omega)
        clear R7 R8 HD HG HB HS hA
        go_wp2_with (at_builtin; refine wpList_append_byt rfl _ _ rfl W0.heap.size _ 0 _ rfl R11.out p8 N c8 (catF t f K) rfl (byt_row R8A.out).2 N63.out HSA.out ?_; intro v' w8 hrow hgr; rw [Nat.zero_add, List.nil_append] at hrow; obtain ⟨p11, c11, rfl, _⟩ := row_form hrow; have R7B := Lib.hid (R7A.out.kept hgr (rows_ne R7A.out R11.out (by decide))); have R8B := Lib.hid (R8A.out.kept hgr (.inr (fun e => absurd (R8L.out _ e) (Nat.lt_irrefl _)))); have hn1 := row_ne R11.out dW; have hn2 := row_ne R11.out gW; have HDB := Lib.hid (HDA.out.grown hgr hn1); have HGB := Lib.hid (HGA.out.grown hgr hn2); have HBB := Lib.hid (HBA.out.grown hgr HBA.out.size fun x hx => by have := row_ge R11.out x hx; have := hB00.out; omega); have R11B := Lib.hid hrow; clear hrow hgr hn1 hn2 R7A R8A R8L HDA HGA HBA HSA R11 N63; go_upto_region 11 with fail)
        have BYK : Hid (∀ k, k < K → t k ≤ cc k ∧ cc k ≤ 9223372036854775807 ∧ Byt w8 (q k) (t k) (f k)) := Lib.hid fun k hk => by
          have hb := TB.out k hk
          obtain ⟨_, _, _, _, _, b1, b2, b3⟩ := (DA.out.later HBB.out) k hb.2
          exact ⟨by omega, b2, byt_take b3 hb.1⟩
        have PT := Lib.hid (parts_row R7B.out BYK.out)
        have BY8 := Lib.hid (byt_row R8B.out).2
        have BY11 := Lib.hid (byt_row R11B.out).2
        have C7 := Lib.hid (row_cap R7B.out); have C11 := Lib.hid (row_cap R11B.out)
        generalize catF t f K = G at *
        have HD := HDB; have HG := HGB
        clear R7B R8B R11B BYK DA TB HDB HGB
        refine wp_region_fun 18 (by kernel_rfl) (by kernel_rfl) rfl (fun s b => ⟨#[(.agg (seedC kf c nf).toArray), (.slice p np cp), .int .i64 ni, .pointer (some ⟨D, 0, none⟩), undef, undef, .bool false, (.slice p7 K c7), (.slice p8 N c8), .int .i64 (K : Nat), u10, (.slice p11 N c11), undef, undef, undef, .int .i64 n, .int .i64 ni, .int .i64 (K : Nat), (.slice p np cp), (.int .i64 (np : Nat)), .bool true, .bool true, .int .i64 (K : Nat), .bool false, .bool false, u25, u26, u27, u28, u29, u30, u31, u32, u33, u34, u35, u36, u37, u38, u39, u40, u41, u42, u43, u44, (.slice (some ⟨wr.heap.size, 0, none⟩) 0 0), (.slice p8 N c8), (.slice p11 N c11), s 48, s 49, s 50, s 51, s 52, s 53, s 54, s 55, s 56, s 57, s 58, s 59, s 60, s 61, s 62, s 63, s 64, s 65, undef, undef, undef, undef, undef, undef, undef, undef, undef, undef, undef, undef, undef, undef, undef, undef, undef, undef, undef, undef, undef, undef, undef, undef, undef, undef, undef, undef, undef, undef, undef, undef, undef, undef, undef, undef, undef, undef, undef, undef, undef], []⟩) (fun d s b w => (Below w8.heap.size w8 w) ∧ (d 0 = true → s 48 = .pointer (some ⟨D, 0, none⟩)) ∧ (d 1 = true → s 49 = (.agg (nums .u8 kf 32).toArray)) ∧ (d 2 = true → s 50 = .pointer (some ⟨D, 32, none⟩)) ∧ (d 3 = true → s 51 = .int .u32 c) ∧ (d 4 = true → s 52 = .pointer (some ⟨D, 33, none⟩)) ∧ (d 5 = true → s 53 = (.agg (nums .u8 nf 12).toArray)) ∧ (d 6 = true → s 54 = (.slice p7 K c7)) ∧ (d 7 = true → RowR w (s 55) N (fun j => xorB (G j) (strF kf c nf j))) ∧ (d 8 = true → s 56 = .pointer (some ⟨D, 0, none⟩)) ∧ (d 9 = true → s 57 = (.agg (nums .u8 kf 32).toArray)) ∧ (d 10 = true → s 58 = .pointer (some ⟨D, 32, none⟩)) ∧ (d 11 = true → s 59 = .int .u32 c) ∧ (d 12 = true → s 60 = .pointer (some ⟨D, 33, none⟩)) ∧ (d 13 = true → s 61 = (.agg (nums .u8 nf 12).toArray)) ∧ (d 14 = true → s 62 = (.slice p8 N c8)) ∧ (d 15 = true → RowR w (s 63) N (fun j => xorB (G j) (strF kf c nf j))) ∧ (d 16 = true → s 64 = .bool true) ∧ (d 17 = true → s 65 = .bool false)) rfl ?h0ya (?stya : StepsF _ _ _ _ 18 _ _ [0, 1, 2, 3, 4, 5, 6, 7, 8, 9, 10, 11, 12, 13, 14, 15, 16, 17]) ?dnya
        case h0ya => exact ⟨Below.drew (Below.refl _ _), (fun h => nomatch h), (fun h => nomatch h), (fun h => nomatch h), (fun h => nomatch h), (fun h => nomatch h), (fun h => nomatch h), (fun h => nomatch h), (fun h => nomatch h), (fun h => nomatch h), (fun h => nomatch h), (fun h => nomatch h), (fun h => nomatch h), (fun h => nomatch h), (fun h => nomatch h), (fun h => nomatch h), (fun h => nomatch h), (fun h => nomatch h), (fun h => nomatch h)⟩
        case stya =>
          refine StepsF.cons (o := _) rfl (ws := []) (by kernel_rfl) (by decide) (fun d s b w hF hd hw K_ hK => ?_) ?_
          · have hB : Below w8.heap.size w8 w := (p0_ hF.out)
            dsimp only
            go_simp
            exact hK.out (ups s 48 (.pointer (some ⟨D, 0, none⟩))) b _ ⟨hB, (fun _ => rfl), (p2_ hF.out), (p3_ hF.out), (p4_ hF.out), (p5_ hF.out), (p6_ hF.out), (p7_ hF.out), (p8_ hF.out), (p9_ hF.out), (p10_ hF.out), (p11_ hF.out), (p12_ hF.out), (p13_ hF.out), (p14_ hF.out), (p15_ hF.out), (p16_ hF.out), (p17_ hF.out), (q18_ hF.out)⟩
          refine StepsF.cons (o := _) rfl (ws := [0]) (by kernel_rfl) (by decide) (fun d s b w hF hd hw K_ hK => ?_) ?_
          · have hB : Below w8.heap.size w8 w := (p0_ hF.out)
            have e0 : s 48 = .pointer (some ⟨D, 0, none⟩) := (p1_ hF.out) (hw 0 (by decide))
            refine step_load (by simp [Region.wanted]) 22 _ rfl D 0 e0 (nums .u8 kf 32) _ (seed_key (HD.out.later hB)).cell Tryd.underlying22 rfl (by kernel_rfl) ?_
            exact hK.out (ups s 49 ((.agg (nums .u8 kf 32).toArray))) b _ ⟨hB, (p1_ hF.out), (fun _ => rfl), (p3_ hF.out), (p4_ hF.out), (p5_ hF.out), (p6_ hF.out), (p7_ hF.out), (p8_ hF.out), (p9_ hF.out), (p10_ hF.out), (p11_ hF.out), (p12_ hF.out), (p13_ hF.out), (p14_ hF.out), (p15_ hF.out), (p16_ hF.out), (p17_ hF.out), (q18_ hF.out)⟩
          refine StepsF.cons (o := _) rfl (ws := []) (by kernel_rfl) (by decide) (fun d s b w hF hd hw K_ hK => ?_) ?_
          · have hB : Below w8.heap.size w8 w := (p0_ hF.out)
            dsimp only
            go_simp
            exact hK.out (ups s 50 (.pointer (some ⟨D, 32, none⟩))) b _ ⟨hB, (p1_ hF.out), (p2_ hF.out), (fun _ => rfl), (p4_ hF.out), (p5_ hF.out), (p6_ hF.out), (p7_ hF.out), (p8_ hF.out), (p9_ hF.out), (p10_ hF.out), (p11_ hF.out), (p12_ hF.out), (p13_ hF.out), (p14_ hF.out), (p15_ hF.out), (p16_ hF.out), (p17_ hF.out), (q18_ hF.out)⟩
          refine StepsF.cons (o := _) rfl (ws := [2]) (by kernel_rfl) (by decide) (fun d s b w hF hd hw K_ hK => ?_) ?_
          · have hB : Below w8.heap.size w8 w := (p0_ hF.out)
            have e2 : s 50 = .pointer (some ⟨D, 32, none⟩) := (p3_ hF.out) (hw 2 (by decide))
            dsimp only
            have cc_ := seed_ctr (HD.out.later hB)
            go_simp
            exact hK.out (ups (ups s 50 (.pointer (some ⟨D, 32, none⟩))) 51 (.int .u32 c)) b _ ⟨hB, (p1_ hF.out), (p2_ hF.out), (fun _ => rfl), (fun _ => rfl), (p5_ hF.out), (p6_ hF.out), (p7_ hF.out), (p8_ hF.out), (p9_ hF.out), (p10_ hF.out), (p11_ hF.out), (p12_ hF.out), (p13_ hF.out), (p14_ hF.out), (p15_ hF.out), (p16_ hF.out), (p17_ hF.out), (q18_ hF.out)⟩
          refine StepsF.cons (o := _) rfl (ws := []) (by kernel_rfl) (by decide) (fun d s b w hF hd hw K_ hK => ?_) ?_
          · have hB : Below w8.heap.size w8 w := (p0_ hF.out)
            dsimp only
            go_simp
            exact hK.out (ups s 52 (.pointer (some ⟨D, 33, none⟩))) b _ ⟨hB, (p1_ hF.out), (p2_ hF.out), (p3_ hF.out), (p4_ hF.out), (fun _ => rfl), (p6_ hF.out), (p7_ hF.out), (p8_ hF.out), (p9_ hF.out), (p10_ hF.out), (p11_ hF.out), (p12_ hF.out), (p13_ hF.out), (p14_ hF.out), (p15_ hF.out), (p16_ hF.out), (p17_ hF.out), (q18_ hF.out)⟩
          refine StepsF.cons (o := _) rfl (ws := [4]) (by kernel_rfl) (by decide) (fun d s b w hF hd hw K_ hK => ?_) ?_
          · have hB : Below w8.heap.size w8 w := (p0_ hF.out)
            have e4 : s 52 = .pointer (some ⟨D, 33, none⟩) := (p5_ hF.out) (hw 4 (by decide))
            refine step_load (by simp [Region.wanted]) 24 _ rfl D 33 e4 (nums .u8 nf 12) _ (seed_non (HD.out.later hB)).cell Tryd.underlying24 rfl (by kernel_rfl) ?_
            exact hK.out (ups s 53 ((.agg (nums .u8 nf 12).toArray))) b _ ⟨hB, (p1_ hF.out), (p2_ hF.out), (p3_ hF.out), (p4_ hF.out), (p5_ hF.out), (fun _ => rfl), (p7_ hF.out), (p8_ hF.out), (p9_ hF.out), (p10_ hF.out), (p11_ hF.out), (p12_ hF.out), (p13_ hF.out), (p14_ hF.out), (p15_ hF.out), (p16_ hF.out), (p17_ hF.out), (q18_ hF.out)⟩
          refine StepsF.cons (o := _) rfl (ws := []) (by kernel_rfl) (by decide) (fun d s b w hF hd hw K_ hK => ?_) ?_
          · have hB : Below w8.heap.size w8 w := (p0_ hF.out)
            dsimp only
            go_simp
            exact hK.out (ups s 54 ((.slice p7 K c7))) b _ ⟨hB, (p1_ hF.out), (p2_ hF.out), (p3_ hF.out), (p4_ hF.out), (p5_ hF.out), (p6_ hF.out), (fun _ => rfl), (p8_ hF.out), (p9_ hF.out), (p10_ hF.out), (p11_ hF.out), (p12_ hF.out), (p13_ hF.out), (p14_ hF.out), (p15_ hF.out), (p16_ hF.out), (p17_ hF.out), (q18_ hF.out)⟩
          refine StepsF.cons (o := _) rfl (ws := [1, 3, 5, 6]) (by kernel_rfl) (by decide) (fun d s b w hF hd hw K_ hK => ?_) ?_
          · have hB : Below w8.heap.size w8 w := (p0_ hF.out)
            have e1 : s 49 = (.agg (nums .u8 kf 32).toArray) := (p2_ hF.out) (hw 1 (by decide))
            have e3 : s 51 = .int .u32 c := (p4_ hF.out) (hw 3 (by decide))
            have e5 : s 53 = (.agg (nums .u8 nf 12).toArray) := (p6_ hF.out) (hw 5 (by decide))
            have e6 : s 54 = (.slice p7 K c7) := (p7_ hF.out) (hw 6 (by decide))
            dsimp only
            go_simp
            go_at_call 13
            refine (Xor_parts kf nf c p7 K c7 N G (sumT t) rfl HT.out EN.out C7.out.1 C7.out.2 FK.out FN.out FC.out _ (HG.out.later hB) (PT.out.later hB)).mono ?_
            rintro e w1 ⟨v, rfl, hv, hb⟩
            exact hK.out (ups (ups (ups (ups (ups s 49 ((.agg (nums .u8 kf 32).toArray))) 51 (.int .u32 c)) 53 ((.agg (nums .u8 nf 12).toArray))) 54 ((.slice p7 K c7))) 55 (v)) b _ ⟨(Below.go hB hb), (p1_ hF.out), (fun _ => rfl), (p3_ hF.out), (fun _ => rfl), (p5_ hF.out), (fun _ => rfl), (fun _ => rfl), (fun _ => hv), (p9_ hF.out), (p10_ hF.out), (p11_ hF.out), (p12_ hF.out), (p13_ hF.out), (p14_ hF.out), (p15_ hF.out), (fun h0 => ((p16_ hF.out) h0).later hb (Nat.le_refl _)), (p17_ hF.out), (q18_ hF.out)⟩
          refine StepsF.cons (o := _) rfl (ws := []) (by kernel_rfl) (by decide) (fun d s b w hF hd hw K_ hK => ?_) ?_
          · have hB : Below w8.heap.size w8 w := (p0_ hF.out)
            dsimp only
            go_simp
            exact hK.out (ups s 56 (.pointer (some ⟨D, 0, none⟩))) b _ ⟨hB, (p1_ hF.out), (p2_ hF.out), (p3_ hF.out), (p4_ hF.out), (p5_ hF.out), (p6_ hF.out), (p7_ hF.out), (p8_ hF.out), (fun _ => rfl), (p10_ hF.out), (p11_ hF.out), (p12_ hF.out), (p13_ hF.out), (p14_ hF.out), (p15_ hF.out), (p16_ hF.out), (p17_ hF.out), (q18_ hF.out)⟩
          refine StepsF.cons (o := _) rfl (ws := [8]) (by kernel_rfl) (by decide) (fun d s b w hF hd hw K_ hK => ?_) ?_
          · have hB : Below w8.heap.size w8 w := (p0_ hF.out)
            have e8 : s 56 = .pointer (some ⟨D, 0, none⟩) := (p9_ hF.out) (hw 8 (by decide))
            refine step_load (by simp [Region.wanted]) 22 _ rfl D 0 e8 (nums .u8 kf 32) _ (seed_key (HD.out.later hB)).cell Tryd.underlying22 rfl (by kernel_rfl) ?_
            exact hK.out (ups s 57 ((.agg (nums .u8 kf 32).toArray))) b _ ⟨hB, (p1_ hF.out), (p2_ hF.out), (p3_ hF.out), (p4_ hF.out), (p5_ hF.out), (p6_ hF.out), (p7_ hF.out), (p8_ hF.out), (p9_ hF.out), (fun _ => rfl), (p11_ hF.out), (p12_ hF.out), (p13_ hF.out), (p14_ hF.out), (p15_ hF.out), (p16_ hF.out), (p17_ hF.out), (q18_ hF.out)⟩
          refine StepsF.cons (o := _) rfl (ws := []) (by kernel_rfl) (by decide) (fun d s b w hF hd hw K_ hK => ?_) ?_
          · have hB : Below w8.heap.size w8 w := (p0_ hF.out)
            dsimp only
            go_simp
            exact hK.out (ups s 58 (.pointer (some ⟨D, 32, none⟩))) b _ ⟨hB, (p1_ hF.out), (p2_ hF.out), (p3_ hF.out), (p4_ hF.out), (p5_ hF.out), (p6_ hF.out), (p7_ hF.out), (p8_ hF.out), (p9_ hF.out), (p10_ hF.out), (fun _ => rfl), (p12_ hF.out), (p13_ hF.out), (p14_ hF.out), (p15_ hF.out), (p16_ hF.out), (p17_ hF.out), (q18_ hF.out)⟩
          refine StepsF.cons (o := _) rfl (ws := [10]) (by kernel_rfl) (by decide) (fun d s b w hF hd hw K_ hK => ?_) ?_
          · have hB : Below w8.heap.size w8 w := (p0_ hF.out)
            have e10 : s 58 = .pointer (some ⟨D, 32, none⟩) := (p11_ hF.out) (hw 10 (by decide))
            dsimp only
            have cc_ := seed_ctr (HD.out.later hB)
            go_simp
            exact hK.out (ups (ups s 58 (.pointer (some ⟨D, 32, none⟩))) 59 (.int .u32 c)) b _ ⟨hB, (p1_ hF.out), (p2_ hF.out), (p3_ hF.out), (p4_ hF.out), (p5_ hF.out), (p6_ hF.out), (p7_ hF.out), (p8_ hF.out), (p9_ hF.out), (p10_ hF.out), (fun _ => rfl), (fun _ => rfl), (p13_ hF.out), (p14_ hF.out), (p15_ hF.out), (p16_ hF.out), (p17_ hF.out), (q18_ hF.out)⟩
          refine StepsF.cons (o := _) rfl (ws := []) (by kernel_rfl) (by decide) (fun d s b w hF hd hw K_ hK => ?_) ?_
          · have hB : Below w8.heap.size w8 w := (p0_ hF.out)
            dsimp only
            go_simp
            exact hK.out (ups s 60 (.pointer (some ⟨D, 33, none⟩))) b _ ⟨hB, (p1_ hF.out), (p2_ hF.out), (p3_ hF.out), (p4_ hF.out), (p5_ hF.out), (p6_ hF.out), (p7_ hF.out), (p8_ hF.out), (p9_ hF.out), (p10_ hF.out), (p11_ hF.out), (p12_ hF.out), (fun _ => rfl), (p14_ hF.out), (p15_ hF.out), (p16_ hF.out), (p17_ hF.out), (q18_ hF.out)⟩
          refine StepsF.cons (o := _) rfl (ws := [12]) (by kernel_rfl) (by decide) (fun d s b w hF hd hw K_ hK => ?_) ?_
          · have hB : Below w8.heap.size w8 w := (p0_ hF.out)
            have e12 : s 60 = .pointer (some ⟨D, 33, none⟩) := (p13_ hF.out) (hw 12 (by decide))
            refine step_load (by simp [Region.wanted]) 24 _ rfl D 33 e12 (nums .u8 nf 12) _ (seed_non (HD.out.later hB)).cell Tryd.underlying24 rfl (by kernel_rfl) ?_
            exact hK.out (ups s 61 ((.agg (nums .u8 nf 12).toArray))) b _ ⟨hB, (p1_ hF.out), (p2_ hF.out), (p3_ hF.out), (p4_ hF.out), (p5_ hF.out), (p6_ hF.out), (p7_ hF.out), (p8_ hF.out), (p9_ hF.out), (p10_ hF.out), (p11_ hF.out), (p12_ hF.out), (p13_ hF.out), (fun _ => rfl), (p15_ hF.out), (p16_ hF.out), (p17_ hF.out), (q18_ hF.out)⟩
          refine StepsF.cons (o := _) rfl (ws := []) (by kernel_rfl) (by decide) (fun d s b w hF hd hw K_ hK => ?_) ?_
          · have hB : Below w8.heap.size w8 w := (p0_ hF.out)
            dsimp only
            go_simp
            exact hK.out (ups s 62 ((.slice p8 N c8))) b _ ⟨hB, (p1_ hF.out), (p2_ hF.out), (p3_ hF.out), (p4_ hF.out), (p5_ hF.out), (p6_ hF.out), (p7_ hF.out), (p8_ hF.out), (p9_ hF.out), (p10_ hF.out), (p11_ hF.out), (p12_ hF.out), (p13_ hF.out), (p14_ hF.out), (fun _ => rfl), (p16_ hF.out), (p17_ hF.out), (q18_ hF.out)⟩
          refine StepsF.cons (o := _) rfl (ws := [9, 11, 13, 14, 7]) (by kernel_rfl) (by decide) (fun d s b w hF hd hw K_ hK => ?_) ?_
          · have hB : Below w8.heap.size w8 w := (p0_ hF.out)
            have e9 : s 57 = (.agg (nums .u8 kf 32).toArray) := (p10_ hF.out) (hw 9 (by decide))
            have e11 : s 59 = .int .u32 c := (p12_ hF.out) (hw 11 (by decide))
            have e13 : s 61 = (.agg (nums .u8 nf 12).toArray) := (p14_ hF.out) (hw 13 (by decide))
            have e14 : s 62 = (.slice p8 N c8) := (p15_ hF.out) (hw 14 (by decide))
            dsimp only
            go_simp
            go_at_call 14
            refine (RXor_R kf nf c p8 N c8 G NN.out FK.out FN.out FC.out _ (BY8.out.later hB)).mono ?_
            rintro e w1 ⟨v, rfl, hv, hb⟩
            exact hK.out (ups (ups (ups (ups (ups s 57 ((.agg (nums .u8 kf 32).toArray))) 59 (.int .u32 c)) 61 ((.agg (nums .u8 nf 12).toArray))) 62 ((.slice p8 N c8))) 63 (v)) b _ ⟨(Below.go hB hb), (p1_ hF.out), (p2_ hF.out), (p3_ hF.out), (p4_ hF.out), (p5_ hF.out), (p6_ hF.out), (p7_ hF.out), (fun h0 => ((p8_ hF.out) h0).later hb (Nat.le_refl _)), (p9_ hF.out), (fun _ => rfl), (p11_ hF.out), (fun _ => rfl), (p13_ hF.out), (fun _ => rfl), (fun _ => rfl), (fun _ => hv), (p17_ hF.out), (q18_ hF.out)⟩
          refine StepsF.cons (o := _) rfl (ws := [7, 15, 15]) (by kernel_rfl) (by decide) (fun d s b w hF hd hw K_ hK => ?_) ?_
          · have hB : Below w8.heap.size w8 w := (p0_ hF.out)
            dsimp only
            go_simp
            go_at_call 12
            refine (Equal_R _ _ N (fun j => xorB (G j) (strF kf c nf j)) _ ((p8_ hF.out) (hw 7 (by decide))) ((p16_ hF.out) (hw 15 (by decide)))).mono ?_
            rintro e w1 ⟨rfl, hb⟩
            exact hK.out (ups s 64 (.bool true)) b _ ⟨(Below.go hB hb), (p1_ hF.out), (p2_ hF.out), (p3_ hF.out), (p4_ hF.out), (p5_ hF.out), (p6_ hF.out), (p7_ hF.out), (fun h0 => ((p8_ hF.out) h0).later hb (Nat.le_refl _)), (p9_ hF.out), (p10_ hF.out), (p11_ hF.out), (p12_ hF.out), (p13_ hF.out), (p14_ hF.out), (p15_ hF.out), (fun h0 => ((p16_ hF.out) h0).later hb (Nat.le_refl _)), (fun _ => rfl), (q18_ hF.out)⟩
          refine StepsF.cons (o := _) rfl (ws := [16]) (by kernel_rfl) (by decide) (fun d s b w hF hd hw K_ hK => ?_) ?_
          · have hB : Below w8.heap.size w8 w := (p0_ hF.out)
            have e16 : s 64 = .bool true := (p17_ hF.out) (hw 16 (by decide))
            dsimp only
            go_simp
            exact hK.out (ups (ups s 64 (.bool true)) 65 (.bool false)) b _ ⟨hB, (p1_ hF.out), (p2_ hF.out), (p3_ hF.out), (p4_ hF.out), (p5_ hF.out), (p6_ hF.out), (p7_ hF.out), (p8_ hF.out), (p9_ hF.out), (p10_ hF.out), (p11_ hF.out), (p12_ hF.out), (p13_ hF.out), (p14_ hF.out), (p15_ hF.out), (p16_ hF.out), (fun _ => rfl), (fun _ => rfl)⟩
          exact StepsF.nil
        intro d s b ya hF hall
        replace hF := Lib.hid hF
        have hB : Below w8.heap.size w8 ya := (p0_ hF.out)
        try dsimp only
        have e0 : s 48 = .pointer (some ⟨D, 0, none⟩) := (p1_ hF.out) (hall 0 (by decide))
        have e1 : s 49 = (.agg (nums .u8 kf 32).toArray) := (p2_ hF.out) (hall 1 (by decide))
        have e2 : s 50 = .pointer (some ⟨D, 32, none⟩) := (p3_ hF.out) (hall 2 (by decide))
        have e3 : s 51 = .int .u32 c := (p4_ hF.out) (hall 3 (by decide))
        have e4 : s 52 = .pointer (some ⟨D, 33, none⟩) := (p5_ hF.out) (hall 4 (by decide))
        have e5 : s 53 = (.agg (nums .u8 nf 12).toArray) := (p6_ hF.out) (hall 5 (by decide))
        have e6 : s 54 = (.slice p7 K c7) := (p7_ hF.out) (hall 6 (by decide))
        have f7 := (p8_ hF.out) (hall 7 (by decide))
        have e8 : s 56 = .pointer (some ⟨D, 0, none⟩) := (p9_ hF.out) (hall 8 (by decide))
        have e9 : s 57 = (.agg (nums .u8 kf 32).toArray) := (p10_ hF.out) (hall 9 (by decide))
        have e10 : s 58 = .pointer (some ⟨D, 32, none⟩) := (p11_ hF.out) (hall 10 (by decide))
        have e11 : s 59 = .int .u32 c := (p12_ hF.out) (hall 11 (by decide))
        have e12 : s 60 = .pointer (some ⟨D, 33, none⟩) := (p13_ hF.out) (hall 12 (by decide))
        have e13 : s 61 = (.agg (nums .u8 nf 12).toArray) := (p14_ hF.out) (hall 13 (by decide))
        have e14 : s 62 = (.slice p8 N c8) := (p15_ hF.out) (hall 14 (by decide))
        have f15 := (p16_ hF.out) (hall 15 (by decide))
        have e16 : s 64 = .bool true := (p17_ hF.out) (hall 16 (by decide))
        have e17 : s 65 = .bool false := (q18_ hF.out) (hall 17 (by decide))
        rw [e0, e1, e2, e3, e4, e5, e6, e8, e9, e10, e11, e12, e13, e14, e16, e17]
        clear hall hF e0 e1 e2 e3 e4 e5 e6 e8 e9 e10 e11 e12 e13 e14 e16 e17
        obtain ⟨q55, hz⟩ : ∃ x, x = s 55 := ⟨_, rfl⟩
        rw [← hz] at f7 ⊢
        clear hz
        obtain ⟨q63, hz⟩ : ∃ x, x = s 63 := ⟨_, rfl⟩
        rw [← hz] at f15 ⊢
        clear hz
        clear d s b
        have HB1 := Lib.hid (Below.go HBB.out hB)
        have HD1 := Lib.hid (HD.out.later hB); have HG1 := Lib.hid (HG.out.later hB)
        have PT1 := Lib.hid (PT.out.later hB)
        have BYB := Lib.hid (BY11.out.later hB)
        clear f7 f15 hB HBB HD HG PT BY8 BY11
        have k0 : (0 : Int) ≤ (K : Int) := by omega
        go_wp2_with (fail)
        generalize wr.heap.size = A45
        go_loopw [12, 68] (fun av kv wq => ∃ (k : Nat), k ≤ K ∧ av = .int .i64 (sumT t k : Nat) ∧ kv = .int .i64 k ∧ Hid (Below ya.heap.size ya wq)) (fun _ kv _ => (K - (intOf kv).toNat))
        case atStart => exact ⟨0, Nat.zero_le _, rfl, rfl, Lib.hid (Below.refl _ _)⟩
        case round =>
          obtain ⟨k, hk, rfl, rfl, HC⟩ := hrel
          by_cases hlt2 : k < K
          · obtain ⟨DD, oo, q7, m7, c7_, rfl, hDD, hcell, hmc, hcx, hTk, hby⟩ := (PT1.out.later HC.out) k hlt2
            have k1 : (k : Int) < (K : Int) := by omega
            have k00 : (0 : Int) ≤ (k : Int) := by omega
            have k5 : (k : Int) ≤ 4 := by have := HK.out; omega
            have hle := sumT_le t (show k + 1 ≤ K by omega)
            rw [EN.out, hTk] at hle
            have HTk := Lib.hid hTk
            obtain ⟨Tk, eTk⟩ : ∃ x, sumT t k = x := ⟨_, rfl⟩
            rw [eTk] at hle hby HTk ⊢
            clear eTk hTk
            obtain ⟨E, eE⟩ : ∃ x, Tk + m7 = x := ⟨_, rfl⟩
            have n5 := NN.out
            have c5 := C11.out.1
            have e1 : (Tk : Int) + (m7 : Int) = (E : Int) := by omega
            have e2 : IntKind.i64.wrap (E : Int) = (E : Int) := IntWalk.i64_in _ (by omega)
            have e3 : E - Tk = m7 := by omega
            have e4 : (0 : Int) ≤ (Tk : Int) := by omega
            have e5 : (Tk : Int) ≤ (E : Int) := by omega
            have e6 : (E : Int) ≤ (c11 : Int) := by omega
            have BYa := Lib.hid hby
            have BYb := Lib.hid (byt_take (byt_drop (BYB.out.later HC.out) (show Tk ≤ N by omega) c5) (show m7 ≤ N - Tk by omega))
            have EE := Lib.hid eE
            clear hby hle eE n5 c5
            go_wp2_with (go_at_call 12; refine (Equal_any _ _ m7 _ _ (fun j => G (Tk + j)) _ BYa.out BYb.out).mono ?_; rintro e w3 ⟨rfl, hb3⟩)
            all_goals (go_roundw; (case rel => (first | exact ⟨k + 1, by omega, by rw [HTk.out, EE.out], by go_num, Lib.hid (Below.go HC.out hb3)⟩ | ((repeat apply Exists.intro); exact ⟨⟨k + 1, by omega, by rw [HTk.out, EE.out], by go_num, Lib.hid (Below.go HC.out hb3)⟩, rfl⟩))); (case measure => simp [intOf]; omega))
          · have k9 : decide ((k : Int) < (K : Int)) = false := decide_eq_false (by omega)
            obtain rfl : K = k := by omega
            have HD := Lib.hid (HD1.out.later HC.out); have HG := Lib.hid (HG1.out.later HC.out)
            have HBF := Lib.hid (Below.go HB1.out HC.out)
            clear HD1 HG1 HB1 HC PT1 BYB
            go_upto_region 21 with fail
            refine wp_region_fun 21 (by kernel_rfl) (by kernel_rfl) rfl (fun s b => ⟨#[(.agg (seedC kf c nf).toArray), (.slice p np cp), .int .i64 ni, .pointer (some ⟨D, 0, none⟩), undef, undef, s 6, (.slice p7 K c7), (.slice p8 N c8), .int .i64 (K : Nat), u10, (.slice p11 N c11), .int .i64 (sumT t K : Nat), undef, u14, .int .i64 n, .int .i64 ni, .int .i64 (K : Nat), (.slice p np cp), (.int .i64 (np : Nat)), .bool true, .bool true, .int .i64 (K : Nat), .bool false, .bool false, u25, u26, u27, u28, u29, u30, u31, u32, u33, u34, u35, u36, u37, u38, u39, u40, u41, u42, u43, u44, (.slice (some ⟨A45, 0, none⟩) 0 0), (.slice p8 N c8), (.slice p11 N c11), .pointer (some ⟨D, 0, none⟩), (.agg (nums .u8 kf 32).toArray), .pointer (some ⟨D, 32, none⟩), .int .u32 c, .pointer (some ⟨D, 33, none⟩), (.agg (nums .u8 nf 12).toArray), (.slice p7 K c7), q55, .pointer (some ⟨D, 0, none⟩), (.agg (nums .u8 kf 32).toArray), .pointer (some ⟨D, 32, none⟩), .int .u32 c, .pointer (some ⟨D, 33, none⟩), (.agg (nums .u8 nf 12).toArray), (.slice p8 N c8), q63, .bool true, .bool false, (.slice p7 K c7), .int .i64 (K : Nat), .int .i64 (K : Nat), .bool false, u70, u71, u72, u73, u74, u75, u76, u77, u78, u79, u80, u81, u82, u83, u84, u85, u86, s 87, s 88, s 89, s 90, s 91, s 92, s 93, s 94, s 95, s 96, s 97, s 98, s 99, s 100, s 101, s 102, s 103, s 104, s 105, s 106], []⟩) (fun d s b w => (Below wr.heap.size wr w) ∧ (d 0 = true → s 87 = .pointer (some ⟨D, 0, none⟩)) ∧ (d 1 = true → s 88 = (.agg (nums .u8 kf 32).toArray)) ∧ (d 2 = true → s 89 = .pointer (some ⟨D, 32, none⟩)) ∧ (d 3 = true → s 90 = .int .u32 c) ∧ (d 4 = true → s 91 = .pointer (some ⟨D, 33, none⟩)) ∧ (d 5 = true → s 92 = (.agg (nums .u8 nf 12).toArray)) ∧ (d 6 = true → s 93 = .int .i64 ni) ∧ (d 7 = true → RowR w (s 94) N2 (strF kf c nf)) ∧ (d 8 = true → s 95 = .pointer (some ⟨D, 0, none⟩)) ∧ (d 9 = true → s 96 = (.agg (nums .u8 kf 32).toArray)) ∧ (d 10 = true → s 97 = .pointer (some ⟨D, 32, none⟩)) ∧ (d 11 = true → s 98 = .int .u32 c) ∧ (d 12 = true → s 99 = .pointer (some ⟨D, 33, none⟩)) ∧ (d 13 = true → s 100 = (.agg (nums .u8 nf 12).toArray)) ∧ (d 14 = true → s 101 = .int .i64 ni) ∧ (d 15 = true → RowR w (s 102) N2 (strF kf c nf)) ∧ (d 16 = true → s 103 = .bool true) ∧ (d 17 = true → s 104 = .bool true) ∧ (d 18 = true → s 105 = .bool true) ∧ (d 19 = true → s 106 = .bool true) ∧ (d 20 = true → s 6 = .bool true)) rfl ?h0za (?stza : StepsF _ _ _ _ 21 _ _ [0, 1, 2, 3, 4, 5, 6, 7, 8, 9, 10, 11, 12, 13, 14, 15, 16, 17, 18, 19, 20]) ?dnza
            case h0za => exact ⟨Below.drew (Below.refl _ _), (fun h => nomatch h), (fun h => nomatch h), (fun h => nomatch h), (fun h => nomatch h), (fun h => nomatch h), (fun h => nomatch h), (fun h => nomatch h), (fun h => nomatch h), (fun h => nomatch h), (fun h => nomatch h), (fun h => nomatch h), (fun h => nomatch h), (fun h => nomatch h), (fun h => nomatch h), (fun h => nomatch h), (fun h => nomatch h), (fun h => nomatch h), (fun h => nomatch h), (fun h => nomatch h), (fun h => nomatch h), (fun h => nomatch h)⟩
            case stza =>
              refine StepsF.cons (o := _) rfl (ws := []) (by kernel_rfl) (by decide) (fun d s b w hF hd hw K_ hK => ?_) ?_
              · have hB : Below wr.heap.size wr w := (p0_ hF.out)
                dsimp only
                go_simp
                exact hK.out (ups s 87 (.pointer (some ⟨D, 0, none⟩))) b _ ⟨hB, (fun _ => rfl), (p2_ hF.out), (p3_ hF.out), (p4_ hF.out), (p5_ hF.out), (p6_ hF.out), (p7_ hF.out), (p8_ hF.out), (p9_ hF.out), (p10_ hF.out), (p11_ hF.out), (p12_ hF.out), (p13_ hF.out), (p14_ hF.out), (p15_ hF.out), (p16_ hF.out), (p17_ hF.out), (p18_ hF.out), (p19_ hF.out), (p20_ hF.out), (q21_ hF.out)⟩
              refine StepsF.cons (o := _) rfl (ws := [0]) (by kernel_rfl) (by decide) (fun d s b w hF hd hw K_ hK => ?_) ?_
              · have hB : Below wr.heap.size wr w := (p0_ hF.out)
                have e0 : s 87 = .pointer (some ⟨D, 0, none⟩) := (p1_ hF.out) (hw 0 (by decide))
                refine step_load (by simp [Region.wanted]) 22 _ rfl D 0 e0 (nums .u8 kf 32) _ (seed_key (HD.out.later hB)).cell Tryd.underlying22 rfl (by kernel_rfl) ?_
                exact hK.out (ups s 88 ((.agg (nums .u8 kf 32).toArray))) b _ ⟨hB, (p1_ hF.out), (fun _ => rfl), (p3_ hF.out), (p4_ hF.out), (p5_ hF.out), (p6_ hF.out), (p7_ hF.out), (p8_ hF.out), (p9_ hF.out), (p10_ hF.out), (p11_ hF.out), (p12_ hF.out), (p13_ hF.out), (p14_ hF.out), (p15_ hF.out), (p16_ hF.out), (p17_ hF.out), (p18_ hF.out), (p19_ hF.out), (p20_ hF.out), (q21_ hF.out)⟩
              refine StepsF.cons (o := _) rfl (ws := []) (by kernel_rfl) (by decide) (fun d s b w hF hd hw K_ hK => ?_) ?_
              · have hB : Below wr.heap.size wr w := (p0_ hF.out)
                dsimp only
                go_simp
                exact hK.out (ups s 89 (.pointer (some ⟨D, 32, none⟩))) b _ ⟨hB, (p1_ hF.out), (p2_ hF.out), (fun _ => rfl), (p4_ hF.out), (p5_ hF.out), (p6_ hF.out), (p7_ hF.out), (p8_ hF.out), (p9_ hF.out), (p10_ hF.out), (p11_ hF.out), (p12_ hF.out), (p13_ hF.out), (p14_ hF.out), (p15_ hF.out), (p16_ hF.out), (p17_ hF.out), (p18_ hF.out), (p19_ hF.out), (p20_ hF.out), (q21_ hF.out)⟩
              refine StepsF.cons (o := _) rfl (ws := [2]) (by kernel_rfl) (by decide) (fun d s b w hF hd hw K_ hK => ?_) ?_
              · have hB : Below wr.heap.size wr w := (p0_ hF.out)
                have e2 : s 89 = .pointer (some ⟨D, 32, none⟩) := (p3_ hF.out) (hw 2 (by decide))
                dsimp only
                have cc_ := seed_ctr (HD.out.later hB)
                go_simp
                exact hK.out (ups (ups s 89 (.pointer (some ⟨D, 32, none⟩))) 90 (.int .u32 c)) b _ ⟨hB, (p1_ hF.out), (p2_ hF.out), (fun _ => rfl), (fun _ => rfl), (p5_ hF.out), (p6_ hF.out), (p7_ hF.out), (p8_ hF.out), (p9_ hF.out), (p10_ hF.out), (p11_ hF.out), (p12_ hF.out), (p13_ hF.out), (p14_ hF.out), (p15_ hF.out), (p16_ hF.out), (p17_ hF.out), (p18_ hF.out), (p19_ hF.out), (p20_ hF.out), (q21_ hF.out)⟩
              refine StepsF.cons (o := _) rfl (ws := []) (by kernel_rfl) (by decide) (fun d s b w hF hd hw K_ hK => ?_) ?_
              · have hB : Below wr.heap.size wr w := (p0_ hF.out)
                dsimp only
                go_simp
                exact hK.out (ups s 91 (.pointer (some ⟨D, 33, none⟩))) b _ ⟨hB, (p1_ hF.out), (p2_ hF.out), (p3_ hF.out), (p4_ hF.out), (fun _ => rfl), (p6_ hF.out), (p7_ hF.out), (p8_ hF.out), (p9_ hF.out), (p10_ hF.out), (p11_ hF.out), (p12_ hF.out), (p13_ hF.out), (p14_ hF.out), (p15_ hF.out), (p16_ hF.out), (p17_ hF.out), (p18_ hF.out), (p19_ hF.out), (p20_ hF.out), (q21_ hF.out)⟩
              refine StepsF.cons (o := _) rfl (ws := [4]) (by kernel_rfl) (by decide) (fun d s b w hF hd hw K_ hK => ?_) ?_
              · have hB : Below wr.heap.size wr w := (p0_ hF.out)
                have e4 : s 91 = .pointer (some ⟨D, 33, none⟩) := (p5_ hF.out) (hw 4 (by decide))
                refine step_load (by simp [Region.wanted]) 24 _ rfl D 33 e4 (nums .u8 nf 12) _ (seed_non (HD.out.later hB)).cell Tryd.underlying24 rfl (by kernel_rfl) ?_
                exact hK.out (ups s 92 ((.agg (nums .u8 nf 12).toArray))) b _ ⟨hB, (p1_ hF.out), (p2_ hF.out), (p3_ hF.out), (p4_ hF.out), (p5_ hF.out), (fun _ => rfl), (p7_ hF.out), (p8_ hF.out), (p9_ hF.out), (p10_ hF.out), (p11_ hF.out), (p12_ hF.out), (p13_ hF.out), (p14_ hF.out), (p15_ hF.out), (p16_ hF.out), (p17_ hF.out), (p18_ hF.out), (p19_ hF.out), (p20_ hF.out), (q21_ hF.out)⟩
              refine StepsF.cons (o := _) rfl (ws := []) (by kernel_rfl) (by decide) (fun d s b w hF hd hw K_ hK => ?_) ?_
              · have hB : Below wr.heap.size wr w := (p0_ hF.out)
                dsimp only
                go_simp
                exact hK.out (ups s 93 (.int .i64 ni)) b _ ⟨hB, (p1_ hF.out), (p2_ hF.out), (p3_ hF.out), (p4_ hF.out), (p5_ hF.out), (p6_ hF.out), (fun _ => rfl), (p8_ hF.out), (p9_ hF.out), (p10_ hF.out), (p11_ hF.out), (p12_ hF.out), (p13_ hF.out), (p14_ hF.out), (p15_ hF.out), (p16_ hF.out), (p17_ hF.out), (p18_ hF.out), (p19_ hF.out), (p20_ hF.out), (q21_ hF.out)⟩
              refine StepsF.cons (o := _) rfl (ws := [1, 3, 5, 6]) (by kernel_rfl) (by decide) (fun d s b w hF hd hw K_ hK => ?_) ?_
              · have hB : Below wr.heap.size wr w := (p0_ hF.out)
                have e1 : s 88 = (.agg (nums .u8 kf 32).toArray) := (p2_ hF.out) (hw 1 (by decide))
                have e3 : s 90 = .int .u32 c := (p4_ hF.out) (hw 3 (by decide))
                have e5 : s 92 = (.agg (nums .u8 nf 12).toArray) := (p6_ hF.out) (hw 5 (by decide))
                have e6 : s 93 = .int .i64 ni := (p7_ hF.out) (hw 6 (by decide))
                dsimp only
                go_simp
                go_at_call 15
                refine (Stream_R kf nf c ni N2 HN2.out NI.out FK.out FN.out FC.out _ (HG.out.later hB)).mono ?_
                rintro e w1 ⟨v, rfl, hv, hb⟩
                exact hK.out (ups (ups (ups (ups (ups s 88 ((.agg (nums .u8 kf 32).toArray))) 90 (.int .u32 c)) 92 ((.agg (nums .u8 nf 12).toArray))) 93 (.int .i64 ni)) 94 (v)) b _ ⟨(Below.go hB hb), (p1_ hF.out), (fun _ => rfl), (p3_ hF.out), (fun _ => rfl), (p5_ hF.out), (fun _ => rfl), (fun _ => rfl), (fun _ => hv), (p9_ hF.out), (p10_ hF.out), (p11_ hF.out), (p12_ hF.out), (p13_ hF.out), (p14_ hF.out), (p15_ hF.out), (fun h0 => ((p16_ hF.out) h0).later hb (Nat.le_refl _)), (p17_ hF.out), (p18_ hF.out), (p19_ hF.out), (p20_ hF.out), (q21_ hF.out)⟩
              refine StepsF.cons (o := _) rfl (ws := []) (by kernel_rfl) (by decide) (fun d s b w hF hd hw K_ hK => ?_) ?_
              · have hB : Below wr.heap.size wr w := (p0_ hF.out)
                dsimp only
                go_simp
                exact hK.out (ups s 95 (.pointer (some ⟨D, 0, none⟩))) b _ ⟨hB, (p1_ hF.out), (p2_ hF.out), (p3_ hF.out), (p4_ hF.out), (p5_ hF.out), (p6_ hF.out), (p7_ hF.out), (p8_ hF.out), (fun _ => rfl), (p10_ hF.out), (p11_ hF.out), (p12_ hF.out), (p13_ hF.out), (p14_ hF.out), (p15_ hF.out), (p16_ hF.out), (p17_ hF.out), (p18_ hF.out), (p19_ hF.out), (p20_ hF.out), (q21_ hF.out)⟩
              refine StepsF.cons (o := _) rfl (ws := [8]) (by kernel_rfl) (by decide) (fun d s b w hF hd hw K_ hK => ?_) ?_
              · have hB : Below wr.heap.size wr w := (p0_ hF.out)
                have e8 : s 95 = .pointer (some ⟨D, 0, none⟩) := (p9_ hF.out) (hw 8 (by decide))
                refine step_load (by simp [Region.wanted]) 22 _ rfl D 0 e8 (nums .u8 kf 32) _ (seed_key (HD.out.later hB)).cell Tryd.underlying22 rfl (by kernel_rfl) ?_
                exact hK.out (ups s 96 ((.agg (nums .u8 kf 32).toArray))) b _ ⟨hB, (p1_ hF.out), (p2_ hF.out), (p3_ hF.out), (p4_ hF.out), (p5_ hF.out), (p6_ hF.out), (p7_ hF.out), (p8_ hF.out), (p9_ hF.out), (fun _ => rfl), (p11_ hF.out), (p12_ hF.out), (p13_ hF.out), (p14_ hF.out), (p15_ hF.out), (p16_ hF.out), (p17_ hF.out), (p18_ hF.out), (p19_ hF.out), (p20_ hF.out), (q21_ hF.out)⟩
              refine StepsF.cons (o := _) rfl (ws := []) (by kernel_rfl) (by decide) (fun d s b w hF hd hw K_ hK => ?_) ?_
              · have hB : Below wr.heap.size wr w := (p0_ hF.out)
                dsimp only
                go_simp
                exact hK.out (ups s 97 (.pointer (some ⟨D, 32, none⟩))) b _ ⟨hB, (p1_ hF.out), (p2_ hF.out), (p3_ hF.out), (p4_ hF.out), (p5_ hF.out), (p6_ hF.out), (p7_ hF.out), (p8_ hF.out), (p9_ hF.out), (p10_ hF.out), (fun _ => rfl), (p12_ hF.out), (p13_ hF.out), (p14_ hF.out), (p15_ hF.out), (p16_ hF.out), (p17_ hF.out), (p18_ hF.out), (p19_ hF.out), (p20_ hF.out), (q21_ hF.out)⟩
              refine StepsF.cons (o := _) rfl (ws := [10]) (by kernel_rfl) (by decide) (fun d s b w hF hd hw K_ hK => ?_) ?_
              · have hB : Below wr.heap.size wr w := (p0_ hF.out)
                have e10 : s 97 = .pointer (some ⟨D, 32, none⟩) := (p11_ hF.out) (hw 10 (by decide))
                dsimp only
                have cc_ := seed_ctr (HD.out.later hB)
                go_simp
                exact hK.out (ups (ups s 97 (.pointer (some ⟨D, 32, none⟩))) 98 (.int .u32 c)) b _ ⟨hB, (p1_ hF.out), (p2_ hF.out), (p3_ hF.out), (p4_ hF.out), (p5_ hF.out), (p6_ hF.out), (p7_ hF.out), (p8_ hF.out), (p9_ hF.out), (p10_ hF.out), (fun _ => rfl), (fun _ => rfl), (p13_ hF.out), (p14_ hF.out), (p15_ hF.out), (p16_ hF.out), (p17_ hF.out), (p18_ hF.out), (p19_ hF.out), (p20_ hF.out), (q21_ hF.out)⟩
              refine StepsF.cons (o := _) rfl (ws := []) (by kernel_rfl) (by decide) (fun d s b w hF hd hw K_ hK => ?_) ?_
              · have hB : Below wr.heap.size wr w := (p0_ hF.out)
                dsimp only
                go_simp
                exact hK.out (ups s 99 (.pointer (some ⟨D, 33, none⟩))) b _ ⟨hB, (p1_ hF.out), (p2_ hF.out), (p3_ hF.out), (p4_ hF.out), (p5_ hF.out), (p6_ hF.out), (p7_ hF.out), (p8_ hF.out), (p9_ hF.out), (p10_ hF.out), (p11_ hF.out), (p12_ hF.out), (fun _ => rfl), (p14_ hF.out), (p15_ hF.out), (p16_ hF.out), (p17_ hF.out), (p18_ hF.out), (p19_ hF.out), (p20_ hF.out), (q21_ hF.out)⟩
              refine StepsF.cons (o := _) rfl (ws := [12]) (by kernel_rfl) (by decide) (fun d s b w hF hd hw K_ hK => ?_) ?_
              · have hB : Below wr.heap.size wr w := (p0_ hF.out)
                have e12 : s 99 = .pointer (some ⟨D, 33, none⟩) := (p13_ hF.out) (hw 12 (by decide))
                refine step_load (by simp [Region.wanted]) 24 _ rfl D 33 e12 (nums .u8 nf 12) _ (seed_non (HD.out.later hB)).cell Tryd.underlying24 rfl (by kernel_rfl) ?_
                exact hK.out (ups s 100 ((.agg (nums .u8 nf 12).toArray))) b _ ⟨hB, (p1_ hF.out), (p2_ hF.out), (p3_ hF.out), (p4_ hF.out), (p5_ hF.out), (p6_ hF.out), (p7_ hF.out), (p8_ hF.out), (p9_ hF.out), (p10_ hF.out), (p11_ hF.out), (p12_ hF.out), (p13_ hF.out), (fun _ => rfl), (p15_ hF.out), (p16_ hF.out), (p17_ hF.out), (p18_ hF.out), (p19_ hF.out), (p20_ hF.out), (q21_ hF.out)⟩
              refine StepsF.cons (o := _) rfl (ws := []) (by kernel_rfl) (by decide) (fun d s b w hF hd hw K_ hK => ?_) ?_
              · have hB : Below wr.heap.size wr w := (p0_ hF.out)
                dsimp only
                go_simp
                exact hK.out (ups s 101 (.int .i64 ni)) b _ ⟨hB, (p1_ hF.out), (p2_ hF.out), (p3_ hF.out), (p4_ hF.out), (p5_ hF.out), (p6_ hF.out), (p7_ hF.out), (p8_ hF.out), (p9_ hF.out), (p10_ hF.out), (p11_ hF.out), (p12_ hF.out), (p13_ hF.out), (p14_ hF.out), (fun _ => rfl), (p16_ hF.out), (p17_ hF.out), (p18_ hF.out), (p19_ hF.out), (p20_ hF.out), (q21_ hF.out)⟩
              refine StepsF.cons (o := _) rfl (ws := [9, 11, 13, 14, 7]) (by kernel_rfl) (by decide) (fun d s b w hF hd hw K_ hK => ?_) ?_
              · have hB : Below wr.heap.size wr w := (p0_ hF.out)
                have e9 : s 96 = (.agg (nums .u8 kf 32).toArray) := (p10_ hF.out) (hw 9 (by decide))
                have e11 : s 98 = .int .u32 c := (p12_ hF.out) (hw 11 (by decide))
                have e13 : s 100 = (.agg (nums .u8 nf 12).toArray) := (p14_ hF.out) (hw 13 (by decide))
                have e14 : s 101 = .int .i64 ni := (p15_ hF.out) (hw 14 (by decide))
                dsimp only
                go_simp
                go_at_call 16
                refine (RStream_R kf nf c ni N2 HN2.out NI.out FK.out FN.out FC.out _).mono ?_
                rintro e w1 ⟨v, rfl, hv, hb⟩
                exact hK.out (ups (ups (ups (ups (ups s 96 ((.agg (nums .u8 kf 32).toArray))) 98 (.int .u32 c)) 100 ((.agg (nums .u8 nf 12).toArray))) 101 (.int .i64 ni)) 102 (v)) b _ ⟨(Below.go hB hb), (p1_ hF.out), (p2_ hF.out), (p3_ hF.out), (p4_ hF.out), (p5_ hF.out), (p6_ hF.out), (p7_ hF.out), (fun h0 => ((p8_ hF.out) h0).later hb (Nat.le_refl _)), (p9_ hF.out), (fun _ => rfl), (p11_ hF.out), (fun _ => rfl), (p13_ hF.out), (fun _ => rfl), (fun _ => rfl), (fun _ => hv), (p17_ hF.out), (p18_ hF.out), (p19_ hF.out), (p20_ hF.out), (q21_ hF.out)⟩
              refine StepsF.cons (o := _) rfl (ws := [7, 15, 15]) (by kernel_rfl) (by decide) (fun d s b w hF hd hw K_ hK => ?_) ?_
              · have hB : Below wr.heap.size wr w := (p0_ hF.out)
                dsimp only
                go_simp
                go_at_call 12
                refine (Equal_R _ _ N2 (strF kf c nf) _ ((p8_ hF.out) (hw 7 (by decide))) ((p16_ hF.out) (hw 15 (by decide)))).mono ?_
                rintro e w1 ⟨rfl, hb⟩
                exact hK.out (ups s 103 (.bool true)) b _ ⟨(Below.go hB hb), (p1_ hF.out), (p2_ hF.out), (p3_ hF.out), (p4_ hF.out), (p5_ hF.out), (p6_ hF.out), (p7_ hF.out), (fun h0 => ((p8_ hF.out) h0).later hb (Nat.le_refl _)), (p9_ hF.out), (p10_ hF.out), (p11_ hF.out), (p12_ hF.out), (p13_ hF.out), (p14_ hF.out), (p15_ hF.out), (fun h0 => ((p16_ hF.out) h0).later hb (Nat.le_refl _)), (fun _ => rfl), (p18_ hF.out), (p19_ hF.out), (p20_ hF.out), (q21_ hF.out)⟩
              refine StepsF.cons (o := _) rfl (ws := [16, 16]) (by kernel_rfl) (by decide) (fun d s b w hF hd hw K_ hK => ?_) ?_
              · have hB : Below wr.heap.size wr w := (p0_ hF.out)
                have e16 : s 103 = .bool true := (p17_ hF.out) (hw 16 (by decide))
                dsimp only
                go_simp
                exact hK.out (ups (ups s 103 (.bool true)) 104 (.bool true)) b _ ⟨hB, (p1_ hF.out), (p2_ hF.out), (p3_ hF.out), (p4_ hF.out), (p5_ hF.out), (p6_ hF.out), (p7_ hF.out), (p8_ hF.out), (p9_ hF.out), (p10_ hF.out), (p11_ hF.out), (p12_ hF.out), (p13_ hF.out), (p14_ hF.out), (p15_ hF.out), (p16_ hF.out), (fun _ => rfl), (fun _ => rfl), (p19_ hF.out), (p20_ hF.out), (q21_ hF.out)⟩
              refine StepsF.cons (o := _) rfl (ws := [17, 17]) (by kernel_rfl) (by decide) (fun d s b w hF hd hw K_ hK => ?_) ?_
              · have hB : Below wr.heap.size wr w := (p0_ hF.out)
                have e17 : s 104 = .bool true := (p18_ hF.out) (hw 17 (by decide))
                dsimp only
                go_simp
                go_at_call 11
                refine (works_any _).mono ?_
                rintro e w1 ⟨rfl, hb⟩
                exact hK.out (ups (ups s 104 (.bool true)) 105 (.bool true)) b _ ⟨(Below.go hB hb), (p1_ hF.out), (p2_ hF.out), (p3_ hF.out), (p4_ hF.out), (p5_ hF.out), (p6_ hF.out), (p7_ hF.out), (fun h0 => ((p8_ hF.out) h0).later hb (Nat.le_refl _)), (p9_ hF.out), (p10_ hF.out), (p11_ hF.out), (p12_ hF.out), (p13_ hF.out), (p14_ hF.out), (p15_ hF.out), (fun h0 => ((p16_ hF.out) h0).later hb (Nat.le_refl _)), (p17_ hF.out), (fun _ => rfl), (fun _ => rfl), (p20_ hF.out), (q21_ hF.out)⟩
              refine StepsF.cons (o := _) rfl (ws := [17, 18]) (by kernel_rfl) (by decide) (fun d s b w hF hd hw K_ hK => ?_) ?_
              · have hB : Below wr.heap.size wr w := (p0_ hF.out)
                have e17 : s 104 = .bool true := (p18_ hF.out) (hw 17 (by decide))
                have e18 : s 105 = .bool true := (p19_ hF.out) (hw 18 (by decide))
                dsimp only
                go_simp
                exact hK.out (ups (ups (ups s 104 (.bool true)) 105 (.bool true)) 106 (.bool true)) b _ ⟨hB, (p1_ hF.out), (p2_ hF.out), (p3_ hF.out), (p4_ hF.out), (p5_ hF.out), (p6_ hF.out), (p7_ hF.out), (p8_ hF.out), (p9_ hF.out), (p10_ hF.out), (p11_ hF.out), (p12_ hF.out), (p13_ hF.out), (p14_ hF.out), (p15_ hF.out), (p16_ hF.out), (p17_ hF.out), (fun _ => rfl), (fun _ => rfl), (fun _ => rfl), (q21_ hF.out)⟩
              refine StepsF.cons (o := _) rfl (ws := [19, 18, 0, 1, 2, 3, 4, 5, 6, 7, 8, 9, 10, 11, 12, 13, 14, 15, 16, 17, 18, 19]) (by kernel_rfl) (by decide) (fun d s b w hF hd hw K_ hK => ?_) ?_
              · have hB : Below wr.heap.size wr w := (p0_ hF.out)
                have e0 : s 87 = .pointer (some ⟨D, 0, none⟩) := (p1_ hF.out) (hw 0 (by decide))
                have e1 : s 88 = (.agg (nums .u8 kf 32).toArray) := (p2_ hF.out) (hw 1 (by decide))
                have e2 : s 89 = .pointer (some ⟨D, 32, none⟩) := (p3_ hF.out) (hw 2 (by decide))
                have e3 : s 90 = .int .u32 c := (p4_ hF.out) (hw 3 (by decide))
                have e4 : s 91 = .pointer (some ⟨D, 33, none⟩) := (p5_ hF.out) (hw 4 (by decide))
                have e5 : s 92 = (.agg (nums .u8 nf 12).toArray) := (p6_ hF.out) (hw 5 (by decide))
                have e6 : s 93 = .int .i64 ni := (p7_ hF.out) (hw 6 (by decide))
                have e8 : s 95 = .pointer (some ⟨D, 0, none⟩) := (p9_ hF.out) (hw 8 (by decide))
                have e9 : s 96 = (.agg (nums .u8 kf 32).toArray) := (p10_ hF.out) (hw 9 (by decide))
                have e10 : s 97 = .pointer (some ⟨D, 32, none⟩) := (p11_ hF.out) (hw 10 (by decide))
                have e11 : s 98 = .int .u32 c := (p12_ hF.out) (hw 11 (by decide))
                have e12 : s 99 = .pointer (some ⟨D, 33, none⟩) := (p13_ hF.out) (hw 12 (by decide))
                have e13 : s 100 = (.agg (nums .u8 nf 12).toArray) := (p14_ hF.out) (hw 13 (by decide))
                have e14 : s 101 = .int .i64 ni := (p15_ hF.out) (hw 14 (by decide))
                have e16 : s 103 = .bool true := (p17_ hF.out) (hw 16 (by decide))
                have e17 : s 104 = .bool true := (p18_ hF.out) (hw 17 (by decide))
                have e18 : s 105 = .bool true := (p19_ hF.out) (hw 18 (by decide))
                have e19 : s 106 = .bool true := (p20_ hF.out) (hw 19 (by decide))
                dsimp only
                go_simp
                exact hK.out (ups (ups (ups (ups (ups (ups (ups (ups (ups (ups (ups (ups (ups (ups (ups (ups (ups (ups (ups s 87 (.pointer (some ⟨D, 0, none⟩))) 88 ((.agg (nums .u8 kf 32).toArray))) 89 (.pointer (some ⟨D, 32, none⟩))) 90 (.int .u32 c)) 91 (.pointer (some ⟨D, 33, none⟩))) 92 ((.agg (nums .u8 nf 12).toArray))) 93 (.int .i64 ni)) 95 (.pointer (some ⟨D, 0, none⟩))) 96 ((.agg (nums .u8 kf 32).toArray))) 97 (.pointer (some ⟨D, 32, none⟩))) 98 (.int .u32 c)) 99 (.pointer (some ⟨D, 33, none⟩))) 100 ((.agg (nums .u8 nf 12).toArray))) 101 (.int .i64 ni)) 103 (.bool true)) 104 (.bool true)) 105 (.bool true)) 106 (.bool true)) 6 (.bool true)) b _ ⟨hB, (fun _ => rfl), (fun _ => rfl), (fun _ => rfl), (fun _ => rfl), (fun _ => rfl), (fun _ => rfl), (fun _ => rfl), (p8_ hF.out), (fun _ => rfl), (fun _ => rfl), (fun _ => rfl), (fun _ => rfl), (fun _ => rfl), (fun _ => rfl), (fun _ => rfl), (p16_ hF.out), (fun _ => rfl), (fun _ => rfl), (fun _ => rfl), (fun _ => rfl), (fun _ => rfl)⟩
              exact StepsF.nil
            intro d s b za hF hall
            replace hF := Lib.hid hF
            have hB : Below wr.heap.size wr za := (p0_ hF.out)
            try dsimp only
            have e0 : s 87 = .pointer (some ⟨D, 0, none⟩) := (p1_ hF.out) (hall 0 (by decide))
            have e1 : s 88 = (.agg (nums .u8 kf 32).toArray) := (p2_ hF.out) (hall 1 (by decide))
            have e2 : s 89 = .pointer (some ⟨D, 32, none⟩) := (p3_ hF.out) (hall 2 (by decide))
            have e3 : s 90 = .int .u32 c := (p4_ hF.out) (hall 3 (by decide))
            have e4 : s 91 = .pointer (some ⟨D, 33, none⟩) := (p5_ hF.out) (hall 4 (by decide))
            have e5 : s 92 = (.agg (nums .u8 nf 12).toArray) := (p6_ hF.out) (hall 5 (by decide))
            have e6 : s 93 = .int .i64 ni := (p7_ hF.out) (hall 6 (by decide))
            have f7 := (p8_ hF.out) (hall 7 (by decide))
            have e8 : s 95 = .pointer (some ⟨D, 0, none⟩) := (p9_ hF.out) (hall 8 (by decide))
            have e9 : s 96 = (.agg (nums .u8 kf 32).toArray) := (p10_ hF.out) (hall 9 (by decide))
            have e10 : s 97 = .pointer (some ⟨D, 32, none⟩) := (p11_ hF.out) (hall 10 (by decide))
            have e11 : s 98 = .int .u32 c := (p12_ hF.out) (hall 11 (by decide))
            have e12 : s 99 = .pointer (some ⟨D, 33, none⟩) := (p13_ hF.out) (hall 12 (by decide))
            have e13 : s 100 = (.agg (nums .u8 nf 12).toArray) := (p14_ hF.out) (hall 13 (by decide))
            have e14 : s 101 = .int .i64 ni := (p15_ hF.out) (hall 14 (by decide))
            have f15 := (p16_ hF.out) (hall 15 (by decide))
            have e16 : s 103 = .bool true := (p17_ hF.out) (hall 16 (by decide))
            have e17 : s 104 = .bool true := (p18_ hF.out) (hall 17 (by decide))
            have e18 : s 105 = .bool true := (p19_ hF.out) (hall 18 (by decide))
            have e19 : s 106 = .bool true := (p20_ hF.out) (hall 19 (by decide))
            have e20 : s 6 = .bool true := (q21_ hF.out) (hall 20 (by decide))
            rw [e0, e1, e2, e3, e4, e5, e6, e8, e9, e10, e11, e12, e13, e14, e16, e17, e18, e19, e20]
            clear hall hF e0 e1 e2 e3 e4 e5 e6 e8 e9 e10 e11 e12 e13 e14 e16 e17 e18 e19 e20
            obtain ⟨q94, hz⟩ : ∃ x, x = s 94 := ⟨_, rfl⟩
            rw [← hz] at f7 ⊢
            clear hz
            obtain ⟨q102, hz⟩ : ∃ x, x = s 102 := ⟨_, rfl⟩
            rw [← hz] at f15 ⊢
            clear hz
            clear d s b
            go_wp2_with (fail)
            go_ret
            exact ⟨rfl, Below.go HBF.out hB⟩
      · obtain rfl : K = i := by omega
        have i1 : decide ((K : Int) < (np : Int)) = false := decide_eq_false (by omega)
        obtain ⟨N, eN⟩ : ∃ N, sumT t K = N := ⟨_, rfl⟩
        have HT : Hid (∀ k, k ≤ K → sumT t k ≤ 65536) := Lib.hid fun k hk => by have := sumT_max t 200 (fun k => by have := TT.out k; omega) k; have := HK.out; omega
        have NN : Hid (N ≤ 65536) := Lib.hid (by rw [← eN]; exact HT.out K (Nat.le_refl _))
        have EN := Lib.hid eN
        have TB : Hid (∀ k, k < K → t k ≤ m k ∧ k < np) := Lib.hid fun k hk => ⟨by have := TT.out k; omega, by have := HK.out; omega⟩
        rw [eN] at R8 ⊢
        clear eN
        go_upto_region 10 with fail
        have hA : Below wr.heap.size wr (wr.alloc (.cells #[] 5)) := Below.al (Below.refl _ _)
        have R11 := Lib.hid (World.ownsRow_made (base := W0.heap.size) (size := 1) (e := 5) wr #[] 0 HS.out (Nat.zero_le _) rfl)
        have R7A := Lib.hid (row_later R7.out hA); have R8A := Lib.hid (row_later R8.out hA); have HDA := Lib.hid (HD.out.later hA); have HGA := Lib.hid (HG.out.later hA); have HBA := Lib.hid (Below.go HB.out hA); have HSA := Lib.hid (Nat.le_trans HS.out hA.size)
        have R8L := Lib.hid (fun k hk => (R8.out.lt k hk).2)
        have N63 := Lib.hid (show 0 + N ≤ 140737488355328 by have := NN.out; omega)
        clear R7 R8 HD HG HB HS hA
        go_wp2_with (at_builtin; refine wpList_append_byt rfl _ _ rfl W0.heap.size _ 0 _ rfl R11.out p8 N c8 (catF t f K) rfl (byt_row R8A.out).2 N63.out HSA.out ?_; intro v' w8 hrow hgr; rw [Nat.zero_add, List.nil_append] at hrow; obtain ⟨p11, c11, rfl, _⟩ := row_form hrow; have R7B := Lib.hid (R7A.out.kept hgr (rows_ne R7A.out R11.out (by decide))); have R8B := Lib.hid (R8A.out.kept hgr (.inr (fun e => absurd (R8L.out _ e) (Nat.lt_irrefl _)))); have hn1 := row_ne R11.out dW; have hn2 := row_ne R11.out gW; have HDB := Lib.hid (HDA.out.grown hgr hn1); have HGB := Lib.hid (HGA.out.grown hgr hn2); have HBB := Lib.hid (HBA.out.grown hgr HBA.out.size fun x hx => by have := row_ge R11.out x hx; have := hB00.out; omega); have R11B := Lib.hid hrow; clear hrow hgr hn1 hn2 R7A R8A R8L HDA HGA HBA HSA R11 N63; go_upto_region 11 with fail)
        have BYK : Hid (∀ k, k < K → t k ≤ cc k ∧ cc k ≤ 9223372036854775807 ∧ Byt w8 (q k) (t k) (f k)) := Lib.hid fun k hk => by
          have hb := TB.out k hk
          obtain ⟨_, _, _, _, _, b1, b2, b3⟩ := (DA.out.later HBB.out) k hb.2
          exact ⟨by omega, b2, byt_take b3 hb.1⟩
        have PT := Lib.hid (parts_row R7B.out BYK.out)
        have BY8 := Lib.hid (byt_row R8B.out).2
        have BY11 := Lib.hid (byt_row R11B.out).2
        have C7 := Lib.hid (row_cap R7B.out); have C11 := Lib.hid (row_cap R11B.out)
        generalize catF t f K = G at *
        have HD := HDB; have HG := HGB
        clear R7B R8B R11B BYK DA TB HDB HGB
        refine wp_region_fun 18 (by kernel_rfl) (by kernel_rfl) rfl (fun s b => ⟨#[(.agg (seedC kf c nf).toArray), (.slice p np cp), .int .i64 ni, .pointer (some ⟨D, 0, none⟩), undef, undef, .bool false, (.slice p7 K c7), (.slice p8 N c8), .int .i64 (K : Nat), u10, (.slice p11 N c11), undef, undef, undef, .int .i64 n, .int .i64 ni, .int .i64 (K : Nat), (.slice p np cp), (.int .i64 (np : Nat)), .bool false, .bool false, undef, undef, .bool false, u25, u26, u27, u28, u29, u30, u31, u32, u33, u34, u35, u36, u37, u38, u39, u40, u41, u42, u43, u44, (.slice (some ⟨wr.heap.size, 0, none⟩) 0 0), (.slice p8 N c8), (.slice p11 N c11), s 48, s 49, s 50, s 51, s 52, s 53, s 54, s 55, s 56, s 57, s 58, s 59, s 60, s 61, s 62, s 63, s 64, s 65, undef, undef, undef, undef, undef, undef, undef, undef, undef, undef, undef, undef, undef, undef, undef, undef, undef, undef, undef, undef, undef, undef, undef, undef, undef, undef, undef, undef, undef, undef, undef, undef, undef, undef, undef, undef, undef, undef, undef, undef, undef], []⟩) (fun d s b w => (Below w8.heap.size w8 w) ∧ (d 0 = true → s 48 = .pointer (some ⟨D, 0, none⟩)) ∧ (d 1 = true → s 49 = (.agg (nums .u8 kf 32).toArray)) ∧ (d 2 = true → s 50 = .pointer (some ⟨D, 32, none⟩)) ∧ (d 3 = true → s 51 = .int .u32 c) ∧ (d 4 = true → s 52 = .pointer (some ⟨D, 33, none⟩)) ∧ (d 5 = true → s 53 = (.agg (nums .u8 nf 12).toArray)) ∧ (d 6 = true → s 54 = (.slice p7 K c7)) ∧ (d 7 = true → RowR w (s 55) N (fun j => xorB (G j) (strF kf c nf j))) ∧ (d 8 = true → s 56 = .pointer (some ⟨D, 0, none⟩)) ∧ (d 9 = true → s 57 = (.agg (nums .u8 kf 32).toArray)) ∧ (d 10 = true → s 58 = .pointer (some ⟨D, 32, none⟩)) ∧ (d 11 = true → s 59 = .int .u32 c) ∧ (d 12 = true → s 60 = .pointer (some ⟨D, 33, none⟩)) ∧ (d 13 = true → s 61 = (.agg (nums .u8 nf 12).toArray)) ∧ (d 14 = true → s 62 = (.slice p8 N c8)) ∧ (d 15 = true → RowR w (s 63) N (fun j => xorB (G j) (strF kf c nf j))) ∧ (d 16 = true → s 64 = .bool true) ∧ (d 17 = true → s 65 = .bool false)) rfl ?h0yb (?styb : StepsF _ _ _ _ 18 _ _ [0, 1, 2, 3, 4, 5, 6, 7, 8, 9, 10, 11, 12, 13, 14, 15, 16, 17]) ?dnyb
        case h0yb => exact ⟨Below.drew (Below.refl _ _), (fun h => nomatch h), (fun h => nomatch h), (fun h => nomatch h), (fun h => nomatch h), (fun h => nomatch h), (fun h => nomatch h), (fun h => nomatch h), (fun h => nomatch h), (fun h => nomatch h), (fun h => nomatch h), (fun h => nomatch h), (fun h => nomatch h), (fun h => nomatch h), (fun h => nomatch h), (fun h => nomatch h), (fun h => nomatch h), (fun h => nomatch h), (fun h => nomatch h)⟩
        case styb =>
          refine StepsF.cons (o := _) rfl (ws := []) (by kernel_rfl) (by decide) (fun d s b w hF hd hw K_ hK => ?_) ?_
          · have hB : Below w8.heap.size w8 w := (p0_ hF.out)
            dsimp only
            go_simp
            exact hK.out (ups s 48 (.pointer (some ⟨D, 0, none⟩))) b _ ⟨hB, (fun _ => rfl), (p2_ hF.out), (p3_ hF.out), (p4_ hF.out), (p5_ hF.out), (p6_ hF.out), (p7_ hF.out), (p8_ hF.out), (p9_ hF.out), (p10_ hF.out), (p11_ hF.out), (p12_ hF.out), (p13_ hF.out), (p14_ hF.out), (p15_ hF.out), (p16_ hF.out), (p17_ hF.out), (q18_ hF.out)⟩
          refine StepsF.cons (o := _) rfl (ws := [0]) (by kernel_rfl) (by decide) (fun d s b w hF hd hw K_ hK => ?_) ?_
          · have hB : Below w8.heap.size w8 w := (p0_ hF.out)
            have e0 : s 48 = .pointer (some ⟨D, 0, none⟩) := (p1_ hF.out) (hw 0 (by decide))
            refine step_load (by simp [Region.wanted]) 22 _ rfl D 0 e0 (nums .u8 kf 32) _ (seed_key (HD.out.later hB)).cell Tryd.underlying22 rfl (by kernel_rfl) ?_
            exact hK.out (ups s 49 ((.agg (nums .u8 kf 32).toArray))) b _ ⟨hB, (p1_ hF.out), (fun _ => rfl), (p3_ hF.out), (p4_ hF.out), (p5_ hF.out), (p6_ hF.out), (p7_ hF.out), (p8_ hF.out), (p9_ hF.out), (p10_ hF.out), (p11_ hF.out), (p12_ hF.out), (p13_ hF.out), (p14_ hF.out), (p15_ hF.out), (p16_ hF.out), (p17_ hF.out), (q18_ hF.out)⟩
          refine StepsF.cons (o := _) rfl (ws := []) (by kernel_rfl) (by decide) (fun d s b w hF hd hw K_ hK => ?_) ?_
          · have hB : Below w8.heap.size w8 w := (p0_ hF.out)
            dsimp only
            go_simp
            exact hK.out (ups s 50 (.pointer (some ⟨D, 32, none⟩))) b _ ⟨hB, (p1_ hF.out), (p2_ hF.out), (fun _ => rfl), (p4_ hF.out), (p5_ hF.out), (p6_ hF.out), (p7_ hF.out), (p8_ hF.out), (p9_ hF.out), (p10_ hF.out), (p11_ hF.out), (p12_ hF.out), (p13_ hF.out), (p14_ hF.out), (p15_ hF.out), (p16_ hF.out), (p17_ hF.out), (q18_ hF.out)⟩
          refine StepsF.cons (o := _) rfl (ws := [2]) (by kernel_rfl) (by decide) (fun d s b w hF hd hw K_ hK => ?_) ?_
          · have hB : Below w8.heap.size w8 w := (p0_ hF.out)
            have e2 : s 50 = .pointer (some ⟨D, 32, none⟩) := (p3_ hF.out) (hw 2 (by decide))
            dsimp only
            have cc_ := seed_ctr (HD.out.later hB)
            go_simp
            exact hK.out (ups (ups s 50 (.pointer (some ⟨D, 32, none⟩))) 51 (.int .u32 c)) b _ ⟨hB, (p1_ hF.out), (p2_ hF.out), (fun _ => rfl), (fun _ => rfl), (p5_ hF.out), (p6_ hF.out), (p7_ hF.out), (p8_ hF.out), (p9_ hF.out), (p10_ hF.out), (p11_ hF.out), (p12_ hF.out), (p13_ hF.out), (p14_ hF.out), (p15_ hF.out), (p16_ hF.out), (p17_ hF.out), (q18_ hF.out)⟩
          refine StepsF.cons (o := _) rfl (ws := []) (by kernel_rfl) (by decide) (fun d s b w hF hd hw K_ hK => ?_) ?_
          · have hB : Below w8.heap.size w8 w := (p0_ hF.out)
            dsimp only
            go_simp
            exact hK.out (ups s 52 (.pointer (some ⟨D, 33, none⟩))) b _ ⟨hB, (p1_ hF.out), (p2_ hF.out), (p3_ hF.out), (p4_ hF.out), (fun _ => rfl), (p6_ hF.out), (p7_ hF.out), (p8_ hF.out), (p9_ hF.out), (p10_ hF.out), (p11_ hF.out), (p12_ hF.out), (p13_ hF.out), (p14_ hF.out), (p15_ hF.out), (p16_ hF.out), (p17_ hF.out), (q18_ hF.out)⟩
          refine StepsF.cons (o := _) rfl (ws := [4]) (by kernel_rfl) (by decide) (fun d s b w hF hd hw K_ hK => ?_) ?_
          · have hB : Below w8.heap.size w8 w := (p0_ hF.out)
            have e4 : s 52 = .pointer (some ⟨D, 33, none⟩) := (p5_ hF.out) (hw 4 (by decide))
            refine step_load (by simp [Region.wanted]) 24 _ rfl D 33 e4 (nums .u8 nf 12) _ (seed_non (HD.out.later hB)).cell Tryd.underlying24 rfl (by kernel_rfl) ?_
            exact hK.out (ups s 53 ((.agg (nums .u8 nf 12).toArray))) b _ ⟨hB, (p1_ hF.out), (p2_ hF.out), (p3_ hF.out), (p4_ hF.out), (p5_ hF.out), (fun _ => rfl), (p7_ hF.out), (p8_ hF.out), (p9_ hF.out), (p10_ hF.out), (p11_ hF.out), (p12_ hF.out), (p13_ hF.out), (p14_ hF.out), (p15_ hF.out), (p16_ hF.out), (p17_ hF.out), (q18_ hF.out)⟩
          refine StepsF.cons (o := _) rfl (ws := []) (by kernel_rfl) (by decide) (fun d s b w hF hd hw K_ hK => ?_) ?_
          · have hB : Below w8.heap.size w8 w := (p0_ hF.out)
            dsimp only
            go_simp
            exact hK.out (ups s 54 ((.slice p7 K c7))) b _ ⟨hB, (p1_ hF.out), (p2_ hF.out), (p3_ hF.out), (p4_ hF.out), (p5_ hF.out), (p6_ hF.out), (fun _ => rfl), (p8_ hF.out), (p9_ hF.out), (p10_ hF.out), (p11_ hF.out), (p12_ hF.out), (p13_ hF.out), (p14_ hF.out), (p15_ hF.out), (p16_ hF.out), (p17_ hF.out), (q18_ hF.out)⟩
          refine StepsF.cons (o := _) rfl (ws := [1, 3, 5, 6]) (by kernel_rfl) (by decide) (fun d s b w hF hd hw K_ hK => ?_) ?_
          · have hB : Below w8.heap.size w8 w := (p0_ hF.out)
            have e1 : s 49 = (.agg (nums .u8 kf 32).toArray) := (p2_ hF.out) (hw 1 (by decide))
            have e3 : s 51 = .int .u32 c := (p4_ hF.out) (hw 3 (by decide))
            have e5 : s 53 = (.agg (nums .u8 nf 12).toArray) := (p6_ hF.out) (hw 5 (by decide))
            have e6 : s 54 = (.slice p7 K c7) := (p7_ hF.out) (hw 6 (by decide))
            dsimp only
            go_simp
            go_at_call 13
            refine (Xor_parts kf nf c p7 K c7 N G (sumT t) rfl HT.out EN.out C7.out.1 C7.out.2 FK.out FN.out FC.out _ (HG.out.later hB) (PT.out.later hB)).mono ?_
            rintro e w1 ⟨v, rfl, hv, hb⟩
            exact hK.out (ups (ups (ups (ups (ups s 49 ((.agg (nums .u8 kf 32).toArray))) 51 (.int .u32 c)) 53 ((.agg (nums .u8 nf 12).toArray))) 54 ((.slice p7 K c7))) 55 (v)) b _ ⟨(Below.go hB hb), (p1_ hF.out), (fun _ => rfl), (p3_ hF.out), (fun _ => rfl), (p5_ hF.out), (fun _ => rfl), (fun _ => rfl), (fun _ => hv), (p9_ hF.out), (p10_ hF.out), (p11_ hF.out), (p12_ hF.out), (p13_ hF.out), (p14_ hF.out), (p15_ hF.out), (fun h0 => ((p16_ hF.out) h0).later hb (Nat.le_refl _)), (p17_ hF.out), (q18_ hF.out)⟩
          refine StepsF.cons (o := _) rfl (ws := []) (by kernel_rfl) (by decide) (fun d s b w hF hd hw K_ hK => ?_) ?_
          · have hB : Below w8.heap.size w8 w := (p0_ hF.out)
            dsimp only
            go_simp
            exact hK.out (ups s 56 (.pointer (some ⟨D, 0, none⟩))) b _ ⟨hB, (p1_ hF.out), (p2_ hF.out), (p3_ hF.out), (p4_ hF.out), (p5_ hF.out), (p6_ hF.out), (p7_ hF.out), (p8_ hF.out), (fun _ => rfl), (p10_ hF.out), (p11_ hF.out), (p12_ hF.out), (p13_ hF.out), (p14_ hF.out), (p15_ hF.out), (p16_ hF.out), (p17_ hF.out), (q18_ hF.out)⟩
          refine StepsF.cons (o := _) rfl (ws := [8]) (by kernel_rfl) (by decide) (fun d s b w hF hd hw K_ hK => ?_) ?_
          · have hB : Below w8.heap.size w8 w := (p0_ hF.out)
            have e8 : s 56 = .pointer (some ⟨D, 0, none⟩) := (p9_ hF.out) (hw 8 (by decide))
            refine step_load (by simp [Region.wanted]) 22 _ rfl D 0 e8 (nums .u8 kf 32) _ (seed_key (HD.out.later hB)).cell Tryd.underlying22 rfl (by kernel_rfl) ?_
            exact hK.out (ups s 57 ((.agg (nums .u8 kf 32).toArray))) b _ ⟨hB, (p1_ hF.out), (p2_ hF.out), (p3_ hF.out), (p4_ hF.out), (p5_ hF.out), (p6_ hF.out), (p7_ hF.out), (p8_ hF.out), (p9_ hF.out), (fun _ => rfl), (p11_ hF.out), (p12_ hF.out), (p13_ hF.out), (p14_ hF.out), (p15_ hF.out), (p16_ hF.out), (p17_ hF.out), (q18_ hF.out)⟩
          refine StepsF.cons (o := _) rfl (ws := []) (by kernel_rfl) (by decide) (fun d s b w hF hd hw K_ hK => ?_) ?_
          · have hB : Below w8.heap.size w8 w := (p0_ hF.out)
            dsimp only
            go_simp
            exact hK.out (ups s 58 (.pointer (some ⟨D, 32, none⟩))) b _ ⟨hB, (p1_ hF.out), (p2_ hF.out), (p3_ hF.out), (p4_ hF.out), (p5_ hF.out), (p6_ hF.out), (p7_ hF.out), (p8_ hF.out), (p9_ hF.out), (p10_ hF.out), (fun _ => rfl), (p12_ hF.out), (p13_ hF.out), (p14_ hF.out), (p15_ hF.out), (p16_ hF.out), (p17_ hF.out), (q18_ hF.out)⟩
          refine StepsF.cons (o := _) rfl (ws := [10]) (by kernel_rfl) (by decide) (fun d s b w hF hd hw K_ hK => ?_) ?_
          · have hB : Below w8.heap.size w8 w := (p0_ hF.out)
            have e10 : s 58 = .pointer (some ⟨D, 32, none⟩) := (p11_ hF.out) (hw 10 (by decide))
            dsimp only
            have cc_ := seed_ctr (HD.out.later hB)
            go_simp
            exact hK.out (ups (ups s 58 (.pointer (some ⟨D, 32, none⟩))) 59 (.int .u32 c)) b _ ⟨hB, (p1_ hF.out), (p2_ hF.out), (p3_ hF.out), (p4_ hF.out), (p5_ hF.out), (p6_ hF.out), (p7_ hF.out), (p8_ hF.out), (p9_ hF.out), (p10_ hF.out), (fun _ => rfl), (fun _ => rfl), (p13_ hF.out), (p14_ hF.out), (p15_ hF.out), (p16_ hF.out), (p17_ hF.out), (q18_ hF.out)⟩
          refine StepsF.cons (o := _) rfl (ws := []) (by kernel_rfl) (by decide) (fun d s b w hF hd hw K_ hK => ?_) ?_
          · have hB : Below w8.heap.size w8 w := (p0_ hF.out)
            dsimp only
            go_simp
            exact hK.out (ups s 60 (.pointer (some ⟨D, 33, none⟩))) b _ ⟨hB, (p1_ hF.out), (p2_ hF.out), (p3_ hF.out), (p4_ hF.out), (p5_ hF.out), (p6_ hF.out), (p7_ hF.out), (p8_ hF.out), (p9_ hF.out), (p10_ hF.out), (p11_ hF.out), (p12_ hF.out), (fun _ => rfl), (p14_ hF.out), (p15_ hF.out), (p16_ hF.out), (p17_ hF.out), (q18_ hF.out)⟩
          refine StepsF.cons (o := _) rfl (ws := [12]) (by kernel_rfl) (by decide) (fun d s b w hF hd hw K_ hK => ?_) ?_
          · have hB : Below w8.heap.size w8 w := (p0_ hF.out)
            have e12 : s 60 = .pointer (some ⟨D, 33, none⟩) := (p13_ hF.out) (hw 12 (by decide))
            refine step_load (by simp [Region.wanted]) 24 _ rfl D 33 e12 (nums .u8 nf 12) _ (seed_non (HD.out.later hB)).cell Tryd.underlying24 rfl (by kernel_rfl) ?_
            exact hK.out (ups s 61 ((.agg (nums .u8 nf 12).toArray))) b _ ⟨hB, (p1_ hF.out), (p2_ hF.out), (p3_ hF.out), (p4_ hF.out), (p5_ hF.out), (p6_ hF.out), (p7_ hF.out), (p8_ hF.out), (p9_ hF.out), (p10_ hF.out), (p11_ hF.out), (p12_ hF.out), (p13_ hF.out), (fun _ => rfl), (p15_ hF.out), (p16_ hF.out), (p17_ hF.out), (q18_ hF.out)⟩
          refine StepsF.cons (o := _) rfl (ws := []) (by kernel_rfl) (by decide) (fun d s b w hF hd hw K_ hK => ?_) ?_
          · have hB : Below w8.heap.size w8 w := (p0_ hF.out)
            dsimp only
            go_simp
            exact hK.out (ups s 62 ((.slice p8 N c8))) b _ ⟨hB, (p1_ hF.out), (p2_ hF.out), (p3_ hF.out), (p4_ hF.out), (p5_ hF.out), (p6_ hF.out), (p7_ hF.out), (p8_ hF.out), (p9_ hF.out), (p10_ hF.out), (p11_ hF.out), (p12_ hF.out), (p13_ hF.out), (p14_ hF.out), (fun _ => rfl), (p16_ hF.out), (p17_ hF.out), (q18_ hF.out)⟩
          refine StepsF.cons (o := _) rfl (ws := [9, 11, 13, 14, 7]) (by kernel_rfl) (by decide) (fun d s b w hF hd hw K_ hK => ?_) ?_
          · have hB : Below w8.heap.size w8 w := (p0_ hF.out)
            have e9 : s 57 = (.agg (nums .u8 kf 32).toArray) := (p10_ hF.out) (hw 9 (by decide))
            have e11 : s 59 = .int .u32 c := (p12_ hF.out) (hw 11 (by decide))
            have e13 : s 61 = (.agg (nums .u8 nf 12).toArray) := (p14_ hF.out) (hw 13 (by decide))
            have e14 : s 62 = (.slice p8 N c8) := (p15_ hF.out) (hw 14 (by decide))
            dsimp only
            go_simp
            go_at_call 14
            refine (RXor_R kf nf c p8 N c8 G NN.out FK.out FN.out FC.out _ (BY8.out.later hB)).mono ?_
            rintro e w1 ⟨v, rfl, hv, hb⟩
            exact hK.out (ups (ups (ups (ups (ups s 57 ((.agg (nums .u8 kf 32).toArray))) 59 (.int .u32 c)) 61 ((.agg (nums .u8 nf 12).toArray))) 62 ((.slice p8 N c8))) 63 (v)) b _ ⟨(Below.go hB hb), (p1_ hF.out), (p2_ hF.out), (p3_ hF.out), (p4_ hF.out), (p5_ hF.out), (p6_ hF.out), (p7_ hF.out), (fun h0 => ((p8_ hF.out) h0).later hb (Nat.le_refl _)), (p9_ hF.out), (fun _ => rfl), (p11_ hF.out), (fun _ => rfl), (p13_ hF.out), (fun _ => rfl), (fun _ => rfl), (fun _ => hv), (p17_ hF.out), (q18_ hF.out)⟩
          refine StepsF.cons (o := _) rfl (ws := [7, 15, 15]) (by kernel_rfl) (by decide) (fun d s b w hF hd hw K_ hK => ?_) ?_
          · have hB : Below w8.heap.size w8 w := (p0_ hF.out)
            dsimp only
            go_simp
            go_at_call 12
            refine (Equal_R _ _ N (fun j => xorB (G j) (strF kf c nf j)) _ ((p8_ hF.out) (hw 7 (by decide))) ((p16_ hF.out) (hw 15 (by decide)))).mono ?_
            rintro e w1 ⟨rfl, hb⟩
            exact hK.out (ups s 64 (.bool true)) b _ ⟨(Below.go hB hb), (p1_ hF.out), (p2_ hF.out), (p3_ hF.out), (p4_ hF.out), (p5_ hF.out), (p6_ hF.out), (p7_ hF.out), (fun h0 => ((p8_ hF.out) h0).later hb (Nat.le_refl _)), (p9_ hF.out), (p10_ hF.out), (p11_ hF.out), (p12_ hF.out), (p13_ hF.out), (p14_ hF.out), (p15_ hF.out), (fun h0 => ((p16_ hF.out) h0).later hb (Nat.le_refl _)), (fun _ => rfl), (q18_ hF.out)⟩
          refine StepsF.cons (o := _) rfl (ws := [16]) (by kernel_rfl) (by decide) (fun d s b w hF hd hw K_ hK => ?_) ?_
          · have hB : Below w8.heap.size w8 w := (p0_ hF.out)
            have e16 : s 64 = .bool true := (p17_ hF.out) (hw 16 (by decide))
            dsimp only
            go_simp
            exact hK.out (ups (ups s 64 (.bool true)) 65 (.bool false)) b _ ⟨hB, (p1_ hF.out), (p2_ hF.out), (p3_ hF.out), (p4_ hF.out), (p5_ hF.out), (p6_ hF.out), (p7_ hF.out), (p8_ hF.out), (p9_ hF.out), (p10_ hF.out), (p11_ hF.out), (p12_ hF.out), (p13_ hF.out), (p14_ hF.out), (p15_ hF.out), (p16_ hF.out), (fun _ => rfl), (fun _ => rfl)⟩
          exact StepsF.nil
        intro d s b yb hF hall
        replace hF := Lib.hid hF
        have hB : Below w8.heap.size w8 yb := (p0_ hF.out)
        try dsimp only
        have e0 : s 48 = .pointer (some ⟨D, 0, none⟩) := (p1_ hF.out) (hall 0 (by decide))
        have e1 : s 49 = (.agg (nums .u8 kf 32).toArray) := (p2_ hF.out) (hall 1 (by decide))
        have e2 : s 50 = .pointer (some ⟨D, 32, none⟩) := (p3_ hF.out) (hall 2 (by decide))
        have e3 : s 51 = .int .u32 c := (p4_ hF.out) (hall 3 (by decide))
        have e4 : s 52 = .pointer (some ⟨D, 33, none⟩) := (p5_ hF.out) (hall 4 (by decide))
        have e5 : s 53 = (.agg (nums .u8 nf 12).toArray) := (p6_ hF.out) (hall 5 (by decide))
        have e6 : s 54 = (.slice p7 K c7) := (p7_ hF.out) (hall 6 (by decide))
        have f7 := (p8_ hF.out) (hall 7 (by decide))
        have e8 : s 56 = .pointer (some ⟨D, 0, none⟩) := (p9_ hF.out) (hall 8 (by decide))
        have e9 : s 57 = (.agg (nums .u8 kf 32).toArray) := (p10_ hF.out) (hall 9 (by decide))
        have e10 : s 58 = .pointer (some ⟨D, 32, none⟩) := (p11_ hF.out) (hall 10 (by decide))
        have e11 : s 59 = .int .u32 c := (p12_ hF.out) (hall 11 (by decide))
        have e12 : s 60 = .pointer (some ⟨D, 33, none⟩) := (p13_ hF.out) (hall 12 (by decide))
        have e13 : s 61 = (.agg (nums .u8 nf 12).toArray) := (p14_ hF.out) (hall 13 (by decide))
        have e14 : s 62 = (.slice p8 N c8) := (p15_ hF.out) (hall 14 (by decide))
        have f15 := (p16_ hF.out) (hall 15 (by decide))
        have e16 : s 64 = .bool true := (p17_ hF.out) (hall 16 (by decide))
        have e17 : s 65 = .bool false := (q18_ hF.out) (hall 17 (by decide))
        rw [e0, e1, e2, e3, e4, e5, e6, e8, e9, e10, e11, e12, e13, e14, e16, e17]
        clear hall hF e0 e1 e2 e3 e4 e5 e6 e8 e9 e10 e11 e12 e13 e14 e16 e17
        obtain ⟨q55, hz⟩ : ∃ x, x = s 55 := ⟨_, rfl⟩
        rw [← hz] at f7 ⊢
        clear hz
        obtain ⟨q63, hz⟩ : ∃ x, x = s 63 := ⟨_, rfl⟩
        rw [← hz] at f15 ⊢
        clear hz
        clear d s b
        have HB1 := Lib.hid (Below.go HBB.out hB)
        have HD1 := Lib.hid (HD.out.later hB); have HG1 := Lib.hid (HG.out.later hB)
        have PT1 := Lib.hid (PT.out.later hB)
        have BYB := Lib.hid (BY11.out.later hB)
        clear f7 f15 hB HBB HD HG PT BY8 BY11
        have k0 : (0 : Int) ≤ (K : Int) := by omega
        go_wp2_with (fail)
        generalize wr.heap.size = A45
        go_loopw [12, 68] (fun av kv wq => ∃ (k : Nat), k ≤ K ∧ av = .int .i64 (sumT t k : Nat) ∧ kv = .int .i64 k ∧ Hid (Below yb.heap.size yb wq)) (fun _ kv _ => (K - (intOf kv).toNat))
        case atStart => exact ⟨0, Nat.zero_le _, rfl, rfl, Lib.hid (Below.refl _ _)⟩
        case round =>
          obtain ⟨k, hk, rfl, rfl, HC⟩ := hrel
          by_cases hlt2 : k < K
          · obtain ⟨DD, oo, q7, m7, c7_, rfl, hDD, hcell, hmc, hcx, hTk, hby⟩ := (PT1.out.later HC.out) k hlt2
            have k1 : (k : Int) < (K : Int) := by omega
            have k00 : (0 : Int) ≤ (k : Int) := by omega
            have k5 : (k : Int) ≤ 4 := by have := HK.out; omega
            have hle := sumT_le t (show k + 1 ≤ K by omega)
            rw [EN.out, hTk] at hle
            have HTk := Lib.hid hTk
            obtain ⟨Tk, eTk⟩ : ∃ x, sumT t k = x := ⟨_, rfl⟩
            rw [eTk] at hle hby HTk ⊢
            clear eTk hTk
            obtain ⟨E, eE⟩ : ∃ x, Tk + m7 = x := ⟨_, rfl⟩
            have n5 := NN.out
            have c5 := C11.out.1
            have e1 : (Tk : Int) + (m7 : Int) = (E : Int) := by omega
            have e2 : IntKind.i64.wrap (E : Int) = (E : Int) := IntWalk.i64_in _ (by omega)
            have e3 : E - Tk = m7 := by omega
            have e4 : (0 : Int) ≤ (Tk : Int) := by omega
            have e5 : (Tk : Int) ≤ (E : Int) := by omega
            have e6 : (E : Int) ≤ (c11 : Int) := by omega
            have BYa := Lib.hid hby
            have BYb := Lib.hid (byt_take (byt_drop (BYB.out.later HC.out) (show Tk ≤ N by omega) c5) (show m7 ≤ N - Tk by omega))
            have EE := Lib.hid eE
            clear hby hle eE n5 c5
            go_wp2_with (go_at_call 12; refine (Equal_any _ _ m7 _ _ (fun j => G (Tk + j)) _ BYa.out BYb.out).mono ?_; rintro e w3 ⟨rfl, hb3⟩)
            all_goals (go_roundw; (case rel => (first | exact ⟨k + 1, by omega, by rw [HTk.out, EE.out], by go_num, Lib.hid (Below.go HC.out hb3)⟩ | ((repeat apply Exists.intro); exact ⟨⟨k + 1, by omega, by rw [HTk.out, EE.out], by go_num, Lib.hid (Below.go HC.out hb3)⟩, rfl⟩))); (case measure => simp [intOf]; omega))
          · have k9 : decide ((k : Int) < (K : Int)) = false := decide_eq_false (by omega)
            obtain rfl : K = k := by omega
            have HD := Lib.hid (HD1.out.later HC.out); have HG := Lib.hid (HG1.out.later HC.out)
            have HBF := Lib.hid (Below.go HB1.out HC.out)
            clear HD1 HG1 HB1 HC PT1 BYB
            go_upto_region 21 with fail
            refine wp_region_fun 21 (by kernel_rfl) (by kernel_rfl) rfl (fun s b => ⟨#[(.agg (seedC kf c nf).toArray), (.slice p np cp), .int .i64 ni, .pointer (some ⟨D, 0, none⟩), undef, undef, s 6, (.slice p7 K c7), (.slice p8 N c8), .int .i64 (K : Nat), u10, (.slice p11 N c11), .int .i64 (sumT t K : Nat), undef, u14, .int .i64 n, .int .i64 ni, .int .i64 (K : Nat), (.slice p np cp), (.int .i64 (np : Nat)), .bool false, .bool false, undef, undef, .bool false, u25, u26, u27, u28, u29, u30, u31, u32, u33, u34, u35, u36, u37, u38, u39, u40, u41, u42, u43, u44, (.slice (some ⟨A45, 0, none⟩) 0 0), (.slice p8 N c8), (.slice p11 N c11), .pointer (some ⟨D, 0, none⟩), (.agg (nums .u8 kf 32).toArray), .pointer (some ⟨D, 32, none⟩), .int .u32 c, .pointer (some ⟨D, 33, none⟩), (.agg (nums .u8 nf 12).toArray), (.slice p7 K c7), q55, .pointer (some ⟨D, 0, none⟩), (.agg (nums .u8 kf 32).toArray), .pointer (some ⟨D, 32, none⟩), .int .u32 c, .pointer (some ⟨D, 33, none⟩), (.agg (nums .u8 nf 12).toArray), (.slice p8 N c8), q63, .bool true, .bool false, (.slice p7 K c7), .int .i64 (K : Nat), .int .i64 (K : Nat), .bool false, u70, u71, u72, u73, u74, u75, u76, u77, u78, u79, u80, u81, u82, u83, u84, u85, u86, s 87, s 88, s 89, s 90, s 91, s 92, s 93, s 94, s 95, s 96, s 97, s 98, s 99, s 100, s 101, s 102, s 103, s 104, s 105, s 106], []⟩) (fun d s b w => (Below wr.heap.size wr w) ∧ (d 0 = true → s 87 = .pointer (some ⟨D, 0, none⟩)) ∧ (d 1 = true → s 88 = (.agg (nums .u8 kf 32).toArray)) ∧ (d 2 = true → s 89 = .pointer (some ⟨D, 32, none⟩)) ∧ (d 3 = true → s 90 = .int .u32 c) ∧ (d 4 = true → s 91 = .pointer (some ⟨D, 33, none⟩)) ∧ (d 5 = true → s 92 = (.agg (nums .u8 nf 12).toArray)) ∧ (d 6 = true → s 93 = .int .i64 ni) ∧ (d 7 = true → RowR w (s 94) N2 (strF kf c nf)) ∧ (d 8 = true → s 95 = .pointer (some ⟨D, 0, none⟩)) ∧ (d 9 = true → s 96 = (.agg (nums .u8 kf 32).toArray)) ∧ (d 10 = true → s 97 = .pointer (some ⟨D, 32, none⟩)) ∧ (d 11 = true → s 98 = .int .u32 c) ∧ (d 12 = true → s 99 = .pointer (some ⟨D, 33, none⟩)) ∧ (d 13 = true → s 100 = (.agg (nums .u8 nf 12).toArray)) ∧ (d 14 = true → s 101 = .int .i64 ni) ∧ (d 15 = true → RowR w (s 102) N2 (strF kf c nf)) ∧ (d 16 = true → s 103 = .bool true) ∧ (d 17 = true → s 104 = .bool true) ∧ (d 18 = true → s 105 = .bool true) ∧ (d 19 = true → s 106 = .bool true) ∧ (d 20 = true → s 6 = .bool true)) rfl ?h0zb (?stzb : StepsF _ _ _ _ 21 _ _ [0, 1, 2, 3, 4, 5, 6, 7, 8, 9, 10, 11, 12, 13, 14, 15, 16, 17, 18, 19, 20]) ?dnzb
            case h0zb => exact ⟨Below.drew (Below.refl _ _), (fun h => nomatch h), (fun h => nomatch h), (fun h => nomatch h), (fun h => nomatch h), (fun h => nomatch h), (fun h => nomatch h), (fun h => nomatch h), (fun h => nomatch h), (fun h => nomatch h), (fun h => nomatch h), (fun h => nomatch h), (fun h => nomatch h), (fun h => nomatch h), (fun h => nomatch h), (fun h => nomatch h), (fun h => nomatch h), (fun h => nomatch h), (fun h => nomatch h), (fun h => nomatch h), (fun h => nomatch h), (fun h => nomatch h)⟩
            case stzb =>
              refine StepsF.cons (o := _) rfl (ws := []) (by kernel_rfl) (by decide) (fun d s b w hF hd hw K_ hK => ?_) ?_
              · have hB : Below wr.heap.size wr w := (p0_ hF.out)
                dsimp only
                go_simp
                exact hK.out (ups s 87 (.pointer (some ⟨D, 0, none⟩))) b _ ⟨hB, (fun _ => rfl), (p2_ hF.out), (p3_ hF.out), (p4_ hF.out), (p5_ hF.out), (p6_ hF.out), (p7_ hF.out), (p8_ hF.out), (p9_ hF.out), (p10_ hF.out), (p11_ hF.out), (p12_ hF.out), (p13_ hF.out), (p14_ hF.out), (p15_ hF.out), (p16_ hF.out), (p17_ hF.out), (p18_ hF.out), (p19_ hF.out), (p20_ hF.out), (q21_ hF.out)⟩
              refine StepsF.cons (o := _) rfl (ws := [0]) (by kernel_rfl) (by decide) (fun d s b w hF hd hw K_ hK => ?_) ?_
              · have hB : Below wr.heap.size wr w := (p0_ hF.out)
                have e0 : s 87 = .pointer (some ⟨D, 0, none⟩) := (p1_ hF.out) (hw 0 (by decide))
                refine step_load (by simp [Region.wanted]) 22 _ rfl D 0 e0 (nums .u8 kf 32) _ (seed_key (HD.out.later hB)).cell Tryd.underlying22 rfl (by kernel_rfl) ?_
                exact hK.out (ups s 88 ((.agg (nums .u8 kf 32).toArray))) b _ ⟨hB, (p1_ hF.out), (fun _ => rfl), (p3_ hF.out), (p4_ hF.out), (p5_ hF.out), (p6_ hF.out), (p7_ hF.out), (p8_ hF.out), (p9_ hF.out), (p10_ hF.out), (p11_ hF.out), (p12_ hF.out), (p13_ hF.out), (p14_ hF.out), (p15_ hF.out), (p16_ hF.out), (p17_ hF.out), (p18_ hF.out), (p19_ hF.out), (p20_ hF.out), (q21_ hF.out)⟩
              refine StepsF.cons (o := _) rfl (ws := []) (by kernel_rfl) (by decide) (fun d s b w hF hd hw K_ hK => ?_) ?_
              · have hB : Below wr.heap.size wr w := (p0_ hF.out)
                dsimp only
                go_simp
                exact hK.out (ups s 89 (.pointer (some ⟨D, 32, none⟩))) b _ ⟨hB, (p1_ hF.out), (p2_ hF.out), (fun _ => rfl), (p4_ hF.out), (p5_ hF.out), (p6_ hF.out), (p7_ hF.out), (p8_ hF.out), (p9_ hF.out), (p10_ hF.out), (p11_ hF.out), (p12_ hF.out), (p13_ hF.out), (p14_ hF.out), (p15_ hF.out), (p16_ hF.out), (p17_ hF.out), (p18_ hF.out), (p19_ hF.out), (p20_ hF.out), (q21_ hF.out)⟩
              refine StepsF.cons (o := _) rfl (ws := [2]) (by kernel_rfl) (by decide) (fun d s b w hF hd hw K_ hK => ?_) ?_
              · have hB : Below wr.heap.size wr w := (p0_ hF.out)
                have e2 : s 89 = .pointer (some ⟨D, 32, none⟩) := (p3_ hF.out) (hw 2 (by decide))
                dsimp only
                have cc_ := seed_ctr (HD.out.later hB)
                go_simp
                exact hK.out (ups (ups s 89 (.pointer (some ⟨D, 32, none⟩))) 90 (.int .u32 c)) b _ ⟨hB, (p1_ hF.out), (p2_ hF.out), (fun _ => rfl), (fun _ => rfl), (p5_ hF.out), (p6_ hF.out), (p7_ hF.out), (p8_ hF.out), (p9_ hF.out), (p10_ hF.out), (p11_ hF.out), (p12_ hF.out), (p13_ hF.out), (p14_ hF.out), (p15_ hF.out), (p16_ hF.out), (p17_ hF.out), (p18_ hF.out), (p19_ hF.out), (p20_ hF.out), (q21_ hF.out)⟩
              refine StepsF.cons (o := _) rfl (ws := []) (by kernel_rfl) (by decide) (fun d s b w hF hd hw K_ hK => ?_) ?_
              · have hB : Below wr.heap.size wr w := (p0_ hF.out)
                dsimp only
                go_simp
                exact hK.out (ups s 91 (.pointer (some ⟨D, 33, none⟩))) b _ ⟨hB, (p1_ hF.out), (p2_ hF.out), (p3_ hF.out), (p4_ hF.out), (fun _ => rfl), (p6_ hF.out), (p7_ hF.out), (p8_ hF.out), (p9_ hF.out), (p10_ hF.out), (p11_ hF.out), (p12_ hF.out), (p13_ hF.out), (p14_ hF.out), (p15_ hF.out), (p16_ hF.out), (p17_ hF.out), (p18_ hF.out), (p19_ hF.out), (p20_ hF.out), (q21_ hF.out)⟩
              refine StepsF.cons (o := _) rfl (ws := [4]) (by kernel_rfl) (by decide) (fun d s b w hF hd hw K_ hK => ?_) ?_
              · have hB : Below wr.heap.size wr w := (p0_ hF.out)
                have e4 : s 91 = .pointer (some ⟨D, 33, none⟩) := (p5_ hF.out) (hw 4 (by decide))
                refine step_load (by simp [Region.wanted]) 24 _ rfl D 33 e4 (nums .u8 nf 12) _ (seed_non (HD.out.later hB)).cell Tryd.underlying24 rfl (by kernel_rfl) ?_
                exact hK.out (ups s 92 ((.agg (nums .u8 nf 12).toArray))) b _ ⟨hB, (p1_ hF.out), (p2_ hF.out), (p3_ hF.out), (p4_ hF.out), (p5_ hF.out), (fun _ => rfl), (p7_ hF.out), (p8_ hF.out), (p9_ hF.out), (p10_ hF.out), (p11_ hF.out), (p12_ hF.out), (p13_ hF.out), (p14_ hF.out), (p15_ hF.out), (p16_ hF.out), (p17_ hF.out), (p18_ hF.out), (p19_ hF.out), (p20_ hF.out), (q21_ hF.out)⟩
              refine StepsF.cons (o := _) rfl (ws := []) (by kernel_rfl) (by decide) (fun d s b w hF hd hw K_ hK => ?_) ?_
              · have hB : Below wr.heap.size wr w := (p0_ hF.out)
                dsimp only
                go_simp
                exact hK.out (ups s 93 (.int .i64 ni)) b _ ⟨hB, (p1_ hF.out), (p2_ hF.out), (p3_ hF.out), (p4_ hF.out), (p5_ hF.out), (p6_ hF.out), (fun _ => rfl), (p8_ hF.out), (p9_ hF.out), (p10_ hF.out), (p11_ hF.out), (p12_ hF.out), (p13_ hF.out), (p14_ hF.out), (p15_ hF.out), (p16_ hF.out), (p17_ hF.out), (p18_ hF.out), (p19_ hF.out), (p20_ hF.out), (q21_ hF.out)⟩
              refine StepsF.cons (o := _) rfl (ws := [1, 3, 5, 6]) (by kernel_rfl) (by decide) (fun d s b w hF hd hw K_ hK => ?_) ?_
              · have hB : Below wr.heap.size wr w := (p0_ hF.out)
                have e1 : s 88 = (.agg (nums .u8 kf 32).toArray) := (p2_ hF.out) (hw 1 (by decide))
                have e3 : s 90 = .int .u32 c := (p4_ hF.out) (hw 3 (by decide))
                have e5 : s 92 = (.agg (nums .u8 nf 12).toArray) := (p6_ hF.out) (hw 5 (by decide))
                have e6 : s 93 = .int .i64 ni := (p7_ hF.out) (hw 6 (by decide))
                dsimp only
                go_simp
                go_at_call 15
                refine (Stream_R kf nf c ni N2 HN2.out NI.out FK.out FN.out FC.out _ (HG.out.later hB)).mono ?_
                rintro e w1 ⟨v, rfl, hv, hb⟩
                exact hK.out (ups (ups (ups (ups (ups s 88 ((.agg (nums .u8 kf 32).toArray))) 90 (.int .u32 c)) 92 ((.agg (nums .u8 nf 12).toArray))) 93 (.int .i64 ni)) 94 (v)) b _ ⟨(Below.go hB hb), (p1_ hF.out), (fun _ => rfl), (p3_ hF.out), (fun _ => rfl), (p5_ hF.out), (fun _ => rfl), (fun _ => rfl), (fun _ => hv), (p9_ hF.out), (p10_ hF.out), (p11_ hF.out), (p12_ hF.out), (p13_ hF.out), (p14_ hF.out), (p15_ hF.out), (fun h0 => ((p16_ hF.out) h0).later hb (Nat.le_refl _)), (p17_ hF.out), (p18_ hF.out), (p19_ hF.out), (p20_ hF.out), (q21_ hF.out)⟩
              refine StepsF.cons (o := _) rfl (ws := []) (by kernel_rfl) (by decide) (fun d s b w hF hd hw K_ hK => ?_) ?_
              · have hB : Below wr.heap.size wr w := (p0_ hF.out)
                dsimp only
                go_simp
                exact hK.out (ups s 95 (.pointer (some ⟨D, 0, none⟩))) b _ ⟨hB, (p1_ hF.out), (p2_ hF.out), (p3_ hF.out), (p4_ hF.out), (p5_ hF.out), (p6_ hF.out), (p7_ hF.out), (p8_ hF.out), (fun _ => rfl), (p10_ hF.out), (p11_ hF.out), (p12_ hF.out), (p13_ hF.out), (p14_ hF.out), (p15_ hF.out), (p16_ hF.out), (p17_ hF.out), (p18_ hF.out), (p19_ hF.out), (p20_ hF.out), (q21_ hF.out)⟩
              refine StepsF.cons (o := _) rfl (ws := [8]) (by kernel_rfl) (by decide) (fun d s b w hF hd hw K_ hK => ?_) ?_
              · have hB : Below wr.heap.size wr w := (p0_ hF.out)
                have e8 : s 95 = .pointer (some ⟨D, 0, none⟩) := (p9_ hF.out) (hw 8 (by decide))
                refine step_load (by simp [Region.wanted]) 22 _ rfl D 0 e8 (nums .u8 kf 32) _ (seed_key (HD.out.later hB)).cell Tryd.underlying22 rfl (by kernel_rfl) ?_
                exact hK.out (ups s 96 ((.agg (nums .u8 kf 32).toArray))) b _ ⟨hB, (p1_ hF.out), (p2_ hF.out), (p3_ hF.out), (p4_ hF.out), (p5_ hF.out), (p6_ hF.out), (p7_ hF.out), (p8_ hF.out), (p9_ hF.out), (fun _ => rfl), (p11_ hF.out), (p12_ hF.out), (p13_ hF.out), (p14_ hF.out), (p15_ hF.out), (p16_ hF.out), (p17_ hF.out), (p18_ hF.out), (p19_ hF.out), (p20_ hF.out), (q21_ hF.out)⟩
              refine StepsF.cons (o := _) rfl (ws := []) (by kernel_rfl) (by decide) (fun d s b w hF hd hw K_ hK => ?_) ?_
              · have hB : Below wr.heap.size wr w := (p0_ hF.out)
                dsimp only
                go_simp
                exact hK.out (ups s 97 (.pointer (some ⟨D, 32, none⟩))) b _ ⟨hB, (p1_ hF.out), (p2_ hF.out), (p3_ hF.out), (p4_ hF.out), (p5_ hF.out), (p6_ hF.out), (p7_ hF.out), (p8_ hF.out), (p9_ hF.out), (p10_ hF.out), (fun _ => rfl), (p12_ hF.out), (p13_ hF.out), (p14_ hF.out), (p15_ hF.out), (p16_ hF.out), (p17_ hF.out), (p18_ hF.out), (p19_ hF.out), (p20_ hF.out), (q21_ hF.out)⟩
              refine StepsF.cons (o := _) rfl (ws := [10]) (by kernel_rfl) (by decide) (fun d s b w hF hd hw K_ hK => ?_) ?_
              · have hB : Below wr.heap.size wr w := (p0_ hF.out)
                have e10 : s 97 = .pointer (some ⟨D, 32, none⟩) := (p11_ hF.out) (hw 10 (by decide))
                dsimp only
                have cc_ := seed_ctr (HD.out.later hB)
                go_simp
                exact hK.out (ups (ups s 97 (.pointer (some ⟨D, 32, none⟩))) 98 (.int .u32 c)) b _ ⟨hB, (p1_ hF.out), (p2_ hF.out), (p3_ hF.out), (p4_ hF.out), (p5_ hF.out), (p6_ hF.out), (p7_ hF.out), (p8_ hF.out), (p9_ hF.out), (p10_ hF.out), (fun _ => rfl), (fun _ => rfl), (p13_ hF.out), (p14_ hF.out), (p15_ hF.out), (p16_ hF.out), (p17_ hF.out), (p18_ hF.out), (p19_ hF.out), (p20_ hF.out), (q21_ hF.out)⟩
              refine StepsF.cons (o := _) rfl (ws := []) (by kernel_rfl) (by decide) (fun d s b w hF hd hw K_ hK => ?_) ?_
              · have hB : Below wr.heap.size wr w := (p0_ hF.out)
                dsimp only
                go_simp
                exact hK.out (ups s 99 (.pointer (some ⟨D, 33, none⟩))) b _ ⟨hB, (p1_ hF.out), (p2_ hF.out), (p3_ hF.out), (p4_ hF.out), (p5_ hF.out), (p6_ hF.out), (p7_ hF.out), (p8_ hF.out), (p9_ hF.out), (p10_ hF.out), (p11_ hF.out), (p12_ hF.out), (fun _ => rfl), (p14_ hF.out), (p15_ hF.out), (p16_ hF.out), (p17_ hF.out), (p18_ hF.out), (p19_ hF.out), (p20_ hF.out), (q21_ hF.out)⟩
              refine StepsF.cons (o := _) rfl (ws := [12]) (by kernel_rfl) (by decide) (fun d s b w hF hd hw K_ hK => ?_) ?_
              · have hB : Below wr.heap.size wr w := (p0_ hF.out)
                have e12 : s 99 = .pointer (some ⟨D, 33, none⟩) := (p13_ hF.out) (hw 12 (by decide))
                refine step_load (by simp [Region.wanted]) 24 _ rfl D 33 e12 (nums .u8 nf 12) _ (seed_non (HD.out.later hB)).cell Tryd.underlying24 rfl (by kernel_rfl) ?_
                exact hK.out (ups s 100 ((.agg (nums .u8 nf 12).toArray))) b _ ⟨hB, (p1_ hF.out), (p2_ hF.out), (p3_ hF.out), (p4_ hF.out), (p5_ hF.out), (p6_ hF.out), (p7_ hF.out), (p8_ hF.out), (p9_ hF.out), (p10_ hF.out), (p11_ hF.out), (p12_ hF.out), (p13_ hF.out), (fun _ => rfl), (p15_ hF.out), (p16_ hF.out), (p17_ hF.out), (p18_ hF.out), (p19_ hF.out), (p20_ hF.out), (q21_ hF.out)⟩
              refine StepsF.cons (o := _) rfl (ws := []) (by kernel_rfl) (by decide) (fun d s b w hF hd hw K_ hK => ?_) ?_
              · have hB : Below wr.heap.size wr w := (p0_ hF.out)
                dsimp only
                go_simp
                exact hK.out (ups s 101 (.int .i64 ni)) b _ ⟨hB, (p1_ hF.out), (p2_ hF.out), (p3_ hF.out), (p4_ hF.out), (p5_ hF.out), (p6_ hF.out), (p7_ hF.out), (p8_ hF.out), (p9_ hF.out), (p10_ hF.out), (p11_ hF.out), (p12_ hF.out), (p13_ hF.out), (p14_ hF.out), (fun _ => rfl), (p16_ hF.out), (p17_ hF.out), (p18_ hF.out), (p19_ hF.out), (p20_ hF.out), (q21_ hF.out)⟩
              refine StepsF.cons (o := _) rfl (ws := [9, 11, 13, 14, 7]) (by kernel_rfl) (by decide) (fun d s b w hF hd hw K_ hK => ?_) ?_
              · have hB : Below wr.heap.size wr w := (p0_ hF.out)
                have e9 : s 96 = (.agg (nums .u8 kf 32).toArray) := (p10_ hF.out) (hw 9 (by decide))
                have e11 : s 98 = .int .u32 c := (p12_ hF.out) (hw 11 (by decide))
                have e13 : s 100 = (.agg (nums .u8 nf 12).toArray) := (p14_ hF.out) (hw 13 (by decide))
                have e14 : s 101 = .int .i64 ni := (p15_ hF.out) (hw 14 (by decide))
                dsimp only
                go_simp
                go_at_call 16
                refine (RStream_R kf nf c ni N2 HN2.out NI.out FK.out FN.out FC.out _).mono ?_
                rintro e w1 ⟨v, rfl, hv, hb⟩
                exact hK.out (ups (ups (ups (ups (ups s 96 ((.agg (nums .u8 kf 32).toArray))) 98 (.int .u32 c)) 100 ((.agg (nums .u8 nf 12).toArray))) 101 (.int .i64 ni)) 102 (v)) b _ ⟨(Below.go hB hb), (p1_ hF.out), (p2_ hF.out), (p3_ hF.out), (p4_ hF.out), (p5_ hF.out), (p6_ hF.out), (p7_ hF.out), (fun h0 => ((p8_ hF.out) h0).later hb (Nat.le_refl _)), (p9_ hF.out), (fun _ => rfl), (p11_ hF.out), (fun _ => rfl), (p13_ hF.out), (fun _ => rfl), (fun _ => rfl), (fun _ => hv), (p17_ hF.out), (p18_ hF.out), (p19_ hF.out), (p20_ hF.out), (q21_ hF.out)⟩
              refine StepsF.cons (o := _) rfl (ws := [7, 15, 15]) (by kernel_rfl) (by decide) (fun d s b w hF hd hw K_ hK => ?_) ?_
              · have hB : Below wr.heap.size wr w := (p0_ hF.out)
                dsimp only
                go_simp
                go_at_call 12
                refine (Equal_R _ _ N2 (strF kf c nf) _ ((p8_ hF.out) (hw 7 (by decide))) ((p16_ hF.out) (hw 15 (by decide)))).mono ?_
                rintro e w1 ⟨rfl, hb⟩
                exact hK.out (ups s 103 (.bool true)) b _ ⟨(Below.go hB hb), (p1_ hF.out), (p2_ hF.out), (p3_ hF.out), (p4_ hF.out), (p5_ hF.out), (p6_ hF.out), (p7_ hF.out), (fun h0 => ((p8_ hF.out) h0).later hb (Nat.le_refl _)), (p9_ hF.out), (p10_ hF.out), (p11_ hF.out), (p12_ hF.out), (p13_ hF.out), (p14_ hF.out), (p15_ hF.out), (fun h0 => ((p16_ hF.out) h0).later hb (Nat.le_refl _)), (fun _ => rfl), (p18_ hF.out), (p19_ hF.out), (p20_ hF.out), (q21_ hF.out)⟩
              refine StepsF.cons (o := _) rfl (ws := [16, 16]) (by kernel_rfl) (by decide) (fun d s b w hF hd hw K_ hK => ?_) ?_
              · have hB : Below wr.heap.size wr w := (p0_ hF.out)
                have e16 : s 103 = .bool true := (p17_ hF.out) (hw 16 (by decide))
                dsimp only
                go_simp
                exact hK.out (ups (ups s 103 (.bool true)) 104 (.bool true)) b _ ⟨hB, (p1_ hF.out), (p2_ hF.out), (p3_ hF.out), (p4_ hF.out), (p5_ hF.out), (p6_ hF.out), (p7_ hF.out), (p8_ hF.out), (p9_ hF.out), (p10_ hF.out), (p11_ hF.out), (p12_ hF.out), (p13_ hF.out), (p14_ hF.out), (p15_ hF.out), (p16_ hF.out), (fun _ => rfl), (fun _ => rfl), (p19_ hF.out), (p20_ hF.out), (q21_ hF.out)⟩
              refine StepsF.cons (o := _) rfl (ws := [17, 17]) (by kernel_rfl) (by decide) (fun d s b w hF hd hw K_ hK => ?_) ?_
              · have hB : Below wr.heap.size wr w := (p0_ hF.out)
                have e17 : s 104 = .bool true := (p18_ hF.out) (hw 17 (by decide))
                dsimp only
                go_simp
                go_at_call 11
                refine (works_any _).mono ?_
                rintro e w1 ⟨rfl, hb⟩
                exact hK.out (ups (ups s 104 (.bool true)) 105 (.bool true)) b _ ⟨(Below.go hB hb), (p1_ hF.out), (p2_ hF.out), (p3_ hF.out), (p4_ hF.out), (p5_ hF.out), (p6_ hF.out), (p7_ hF.out), (fun h0 => ((p8_ hF.out) h0).later hb (Nat.le_refl _)), (p9_ hF.out), (p10_ hF.out), (p11_ hF.out), (p12_ hF.out), (p13_ hF.out), (p14_ hF.out), (p15_ hF.out), (fun h0 => ((p16_ hF.out) h0).later hb (Nat.le_refl _)), (p17_ hF.out), (fun _ => rfl), (fun _ => rfl), (p20_ hF.out), (q21_ hF.out)⟩
              refine StepsF.cons (o := _) rfl (ws := [17, 18]) (by kernel_rfl) (by decide) (fun d s b w hF hd hw K_ hK => ?_) ?_
              · have hB : Below wr.heap.size wr w := (p0_ hF.out)
                have e17 : s 104 = .bool true := (p18_ hF.out) (hw 17 (by decide))
                have e18 : s 105 = .bool true := (p19_ hF.out) (hw 18 (by decide))
                dsimp only
                go_simp
                exact hK.out (ups (ups (ups s 104 (.bool true)) 105 (.bool true)) 106 (.bool true)) b _ ⟨hB, (p1_ hF.out), (p2_ hF.out), (p3_ hF.out), (p4_ hF.out), (p5_ hF.out), (p6_ hF.out), (p7_ hF.out), (p8_ hF.out), (p9_ hF.out), (p10_ hF.out), (p11_ hF.out), (p12_ hF.out), (p13_ hF.out), (p14_ hF.out), (p15_ hF.out), (p16_ hF.out), (p17_ hF.out), (fun _ => rfl), (fun _ => rfl), (fun _ => rfl), (q21_ hF.out)⟩
              refine StepsF.cons (o := _) rfl (ws := [19, 18, 0, 1, 2, 3, 4, 5, 6, 7, 8, 9, 10, 11, 12, 13, 14, 15, 16, 17, 18, 19]) (by kernel_rfl) (by decide) (fun d s b w hF hd hw K_ hK => ?_) ?_
              · have hB : Below wr.heap.size wr w := (p0_ hF.out)
                have e0 : s 87 = .pointer (some ⟨D, 0, none⟩) := (p1_ hF.out) (hw 0 (by decide))
                have e1 : s 88 = (.agg (nums .u8 kf 32).toArray) := (p2_ hF.out) (hw 1 (by decide))
                have e2 : s 89 = .pointer (some ⟨D, 32, none⟩) := (p3_ hF.out) (hw 2 (by decide))
                have e3 : s 90 = .int .u32 c := (p4_ hF.out) (hw 3 (by decide))
                have e4 : s 91 = .pointer (some ⟨D, 33, none⟩) := (p5_ hF.out) (hw 4 (by decide))
                have e5 : s 92 = (.agg (nums .u8 nf 12).toArray) := (p6_ hF.out) (hw 5 (by decide))
                have e6 : s 93 = .int .i64 ni := (p7_ hF.out) (hw 6 (by decide))
                have e8 : s 95 = .pointer (some ⟨D, 0, none⟩) := (p9_ hF.out) (hw 8 (by decide))
                have e9 : s 96 = (.agg (nums .u8 kf 32).toArray) := (p10_ hF.out) (hw 9 (by decide))
                have e10 : s 97 = .pointer (some ⟨D, 32, none⟩) := (p11_ hF.out) (hw 10 (by decide))
                have e11 : s 98 = .int .u32 c := (p12_ hF.out) (hw 11 (by decide))
                have e12 : s 99 = .pointer (some ⟨D, 33, none⟩) := (p13_ hF.out) (hw 12 (by decide))
                have e13 : s 100 = (.agg (nums .u8 nf 12).toArray) := (p14_ hF.out) (hw 13 (by decide))
                have e14 : s 101 = .int .i64 ni := (p15_ hF.out) (hw 14 (by decide))
                have e16 : s 103 = .bool true := (p17_ hF.out) (hw 16 (by decide))
                have e17 : s 104 = .bool true := (p18_ hF.out) (hw 17 (by decide))
                have e18 : s 105 = .bool true := (p19_ hF.out) (hw 18 (by decide))
                have e19 : s 106 = .bool true := (p20_ hF.out) (hw 19 (by decide))
                dsimp only
                go_simp
                exact hK.out (ups (ups (ups (ups (ups (ups (ups (ups (ups (ups (ups (ups (ups (ups (ups (ups (ups (ups (ups s 87 (.pointer (some ⟨D, 0, none⟩))) 88 ((.agg (nums .u8 kf 32).toArray))) 89 (.pointer (some ⟨D, 32, none⟩))) 90 (.int .u32 c)) 91 (.pointer (some ⟨D, 33, none⟩))) 92 ((.agg (nums .u8 nf 12).toArray))) 93 (.int .i64 ni)) 95 (.pointer (some ⟨D, 0, none⟩))) 96 ((.agg (nums .u8 kf 32).toArray))) 97 (.pointer (some ⟨D, 32, none⟩))) 98 (.int .u32 c)) 99 (.pointer (some ⟨D, 33, none⟩))) 100 ((.agg (nums .u8 nf 12).toArray))) 101 (.int .i64 ni)) 103 (.bool true)) 104 (.bool true)) 105 (.bool true)) 106 (.bool true)) 6 (.bool true)) b _ ⟨hB, (fun _ => rfl), (fun _ => rfl), (fun _ => rfl), (fun _ => rfl), (fun _ => rfl), (fun _ => rfl), (fun _ => rfl), (p8_ hF.out), (fun _ => rfl), (fun _ => rfl), (fun _ => rfl), (fun _ => rfl), (fun _ => rfl), (fun _ => rfl), (fun _ => rfl), (p16_ hF.out), (fun _ => rfl), (fun _ => rfl), (fun _ => rfl), (fun _ => rfl), (fun _ => rfl)⟩
              exact StepsF.nil
            intro d s b zb hF hall
            replace hF := Lib.hid hF
            have hB : Below wr.heap.size wr zb := (p0_ hF.out)
            try dsimp only
            have e0 : s 87 = .pointer (some ⟨D, 0, none⟩) := (p1_ hF.out) (hall 0 (by decide))
            have e1 : s 88 = (.agg (nums .u8 kf 32).toArray) := (p2_ hF.out) (hall 1 (by decide))
            have e2 : s 89 = .pointer (some ⟨D, 32, none⟩) := (p3_ hF.out) (hall 2 (by decide))
            have e3 : s 90 = .int .u32 c := (p4_ hF.out) (hall 3 (by decide))
            have e4 : s 91 = .pointer (some ⟨D, 33, none⟩) := (p5_ hF.out) (hall 4 (by decide))
            have e5 : s 92 = (.agg (nums .u8 nf 12).toArray) := (p6_ hF.out) (hall 5 (by decide))
            have e6 : s 93 = .int .i64 ni := (p7_ hF.out) (hall 6 (by decide))
            have f7 := (p8_ hF.out) (hall 7 (by decide))
            have e8 : s 95 = .pointer (some ⟨D, 0, none⟩) := (p9_ hF.out) (hall 8 (by decide))
            have e9 : s 96 = (.agg (nums .u8 kf 32).toArray) := (p10_ hF.out) (hall 9 (by decide))
            have e10 : s 97 = .pointer (some ⟨D, 32, none⟩) := (p11_ hF.out) (hall 10 (by decide))
            have e11 : s 98 = .int .u32 c := (p12_ hF.out) (hall 11 (by decide))
            have e12 : s 99 = .pointer (some ⟨D, 33, none⟩) := (p13_ hF.out) (hall 12 (by decide))
            have e13 : s 100 = (.agg (nums .u8 nf 12).toArray) := (p14_ hF.out) (hall 13 (by decide))
            have e14 : s 101 = .int .i64 ni := (p15_ hF.out) (hall 14 (by decide))
            have f15 := (p16_ hF.out) (hall 15 (by decide))
            have e16 : s 103 = .bool true := (p17_ hF.out) (hall 16 (by decide))
            have e17 : s 104 = .bool true := (p18_ hF.out) (hall 17 (by decide))
            have e18 : s 105 = .bool true := (p19_ hF.out) (hall 18 (by decide))
            have e19 : s 106 = .bool true := (p20_ hF.out) (hall 19 (by decide))
            have e20 : s 6 = .bool true := (q21_ hF.out) (hall 20 (by decide))
            rw [e0, e1, e2, e3, e4, e5, e6, e8, e9, e10, e11, e12, e13, e14, e16, e17, e18, e19, e20]
            clear hall hF e0 e1 e2 e3 e4 e5 e6 e8 e9 e10 e11 e12 e13 e14 e16 e17 e18 e19 e20
            obtain ⟨q94, hz⟩ : ∃ x, x = s 94 := ⟨_, rfl⟩
            rw [← hz] at f7 ⊢
            clear hz
            obtain ⟨q102, hz⟩ : ∃ x, x = s 102 := ⟨_, rfl⟩
            rw [← hz] at f15 ⊢
            clear hz
            clear d s b
            go_wp2_with (fail)
            go_ret
            exact ⟨rfl, Below.go HBF.out hB⟩
end Go.Proofs.YtbcpoohoclobpaaDoor
