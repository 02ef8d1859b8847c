/- The document's product: umbraref01.Times. -/
import Derived.Test.YtlfchlholabijaaTA
namespace Go.Proofs.Ytlfchlholabijaa
set_option linter.unusedVariables false
set_option maxRecDepth 2000
set_option linter.unusedSimpArgs false
open Go.RowKit
attribute [local go_sem] setCell_twice setCell_pair

theorem up_next (f : Nat → Int) (J : Nat) (r : Int) (j : Nat) : (if j = J then Value.int .i64 r else .int .i64 (f j)) = .int .i64 (upF f J r j) := by
  unfold upF
  split <;> rfl

set_option maxHeartbeats 8000000 in
theorem times_core (ba bb : Bool) (p q : Option Addr) (n c m d : Nat) (da db : List Int) (z : Int) (w : World) (ha : SlR w (.slice p n c) da) (hb : SlR w (.slice q m d) db) (hn : n ≤ 500) (hm : m ≤ 500)
    (dga : ∀ i, 0 ≤ da.getD i 0 ∧ da.getD i 0 ≤ 65535) (dgb : ∀ i, 0 ≤ db.getD i 0 ∧ db.getD i 0 ≤ 65535) (hz : (if (ba != bb) = true then -(val da * val db) else val da * val db) = z) :
    Calls Try.prog 6 #[.agg #[.bool ba, .slice p n c], .agg #[.bool bb, .slice q m d]] w (NumE w z) := by
  obtain ⟨S1, hS1⟩ : ∃ S1 : Nat, S1 = n + m := ⟨_, rfl⟩
  obtain ⟨N, hN⟩ : ∃ N : Nat, N = S1 + 1 := ⟨_, rfl⟩
  have s1 : (n : Int) + (m : Int) = (S1 : Int) := by omega
  have s2 : IntKind.i64.wrap (S1 : Int) = (S1 : Int) := IntWalk.i64_in _ (by omega)
  have s3 : (S1 : Int) + 1 = (N : Int) := by omega
  have s4 : IntKind.i64.wrap (N : Int) = (N : Int) := IntWalk.i64_in _ (by omega)
  have hmk := run_make_row' (P := Try.prog) 27 3 (.int .i64 0) 8 Try.underlying27 infoI rfl .i64 .i64 N (by omega) (by omega)
  have LA := Lib.hid ha.len.1; have LB := Lib.hid hb.len.1
  have SA := Lib.hid ha; have SB := Lib.hid hb; clear ha hb
  have DA := Lib.hid dga; have DB := Lib.hid dgb; clear dga dgb
  have HZ := Lib.hid hz; clear hz
  have HN := Lib.hid (show N = n + m + 1 by omega)
  clear hS1 hN
  go_enter Try.func6, Try.ntmps6
  go_wp2_with (fail)
  clear s1 s2 s3 s4 hmk
  have hB0 : Below w.heap.size w ((((w.alloc (.cells #[.bool ba, .slice p n c] 29)).alloc (.cells #[.bool bb, .slice q m d] 29)).alloc (.cells #[.bool false, .slice none 0 0] 29)).alloc (.cells (madeCells #[.int .i64 0] N) 3)) := (by repeat (first | exact Below.refl _ _ | assumption | refine below_drewN ?_ _ | refine Below.drew ?_ | refine Below.alloc ?_ (by first | omega | (simp; done) | (simp; omega)) _ | refine Below.setCell ?_ (by first | (simp; done) | (simp; omega)) _))
  have K0 : Kept [(w.heap.size, 0, .bool ba), (w.heap.size, 1, .slice p n c), (w.heap.size + 1, 0, .bool bb), (w.heap.size + 1, 1, .slice q m d), (w.heap.size + 1 + 1, 0, .bool false), (w.heap.size + 1 + 1, 1, .slice none 0 0)] ((((w.alloc (.cells #[.bool ba, .slice p n c] 29)).alloc (.cells #[.bool bb, .slice q m d] 29)).alloc (.cells #[.bool false, .slice none 0 0] 29)).alloc (.cells (madeCells #[.int .i64 0] N) 3)) := by
    refine .cons ?_ ?_ ?_ (.cons ?_ ?_ ?_ (.cons ?_ ?_ ?_ (.cons ?_ ?_ ?_ (.cons ?_ ?_ ?_ (.cons ?_ ?_ ?_ .nil))))) <;> first | (simp; done) | (simp; omega) | (simp [go_sem]; done)
  have hrow := World.rowIs_made (((w.alloc (.cells #[.bool ba, .slice p n c] 29)).alloc (.cells #[.bool bb, .slice q m d] 29)).alloc (.cells #[.bool false, .slice none 0 0] 29)) (.int .i64 0) N 3
  rw [show (((w.alloc (.cells #[.bool ba, .slice p n c] 29)).alloc (.cells #[.bool bb, .slice q m d] 29)).alloc (.cells #[.bool false, .slice none 0 0] 29)).heap.size = w.heap.size + 1 + 1 + 1 by simp] at hrow
  obtain ⟨L, hLe⟩ : ∃ L, L = w.heap.size + 1 + 1 + 1 := ⟨_, rfl⟩
  obtain ⟨R, hRe⟩ : ∃ R, R = w.heap.size + 1 + 1 := ⟨_, rfl⟩
  obtain ⟨B, hBe⟩ : ∃ B, B = w.heap.size + 1 := ⟨_, rfl⟩
  obtain ⟨A, hAe⟩ : ∃ A, A = w.heap.size := ⟨_, rfl⟩
  rw [← hLe] at hrow ⊢
  rw [← hRe] at K0 ⊢
  rw [← hBe] at K0 ⊢
  rw [← hAe] at K0 ⊢
  generalize ((((w.alloc (.cells #[.bool ba, .slice p n c] 29)).alloc (.cells #[.bool bb, .slice q m d] 29)).alloc (.cells #[.bool false, .slice none 0 0] 29)).alloc (.cells (madeCells #[.int .i64 0] N) 3)) = W0 at *
  have nLA : ¬ L = A := by omega
  have nLB : ¬ L = B := by omega
  have nLR : ¬ L = R := by omega
  have hwL : w.heap.size ≤ L := by omega
  have hwR : w.heap.size ≤ R := by omega
  have KO' := Lib.hid (show ∀ X o v, Kept [(A, 0, .bool ba), (A, 1, .slice p n c), (B, 0, .bool bb), (B, 1, .slice q m d), (R, 0, .bool false), (R, 1, .slice none 0 0)] X → Kept [(A, 0, .bool ba), (A, 1, .slice p n c), (B, 0, .bool bb), (B, 1, .slice q m d), (R, 0, .bool false), (R, 1, .slice none 0 0)] (X.setCell ⟨L, o, none⟩ v) from fun X o v h => h.setOther (fun t ht => by simp at ht; rcases ht with rfl | rfl | rfl | rfl | rfl | rfl <;> (simp; omega)) v)
  have K0' := Lib.hid K0
  have hrow' := Lib.hid hrow
  have HB0 := Lib.hid hB0
  clear hLe hRe hBe hAe K0 hrow hB0
  have HBZ := Lib.hid (show ∀ j, m ≤ j → db.getD j 0 = 0 from fun j hj => by rw [List.getD_eq_getElem?_getD, List.getElem?_eq_none (by rw [LB.out]; exact hj)]; rfl)
  go_loopw [6] (fun iv wr => ∃ (i : Nat) (f0 : Nat → Int), i ≤ n ∧ iv = .int .i64 i ∧ Hid (∀ j, 0 ≤ f0 j ∧ f0 j ≤ 65535) ∧ Hid (∀ j, i + m ≤ j → f0 j = 0) ∧ Hid (V f0 N = V (fun j => da.getD j 0) i * V (fun j => db.getD j 0) m) ∧ Hid (wr.rowIs L 3 N (fun j => .int .i64 (f0 j))) ∧ Hid (Kept [(A, 0, .bool ba), (A, 1, .slice p n c), (B, 0, .bool bb), (B, 1, .slice q m d), (R, 0, .bool false), (R, 1, .slice none 0 0)] wr) ∧ Hid (Below w.heap.size w wr)) (fun iv _ => (n - (intOf iv).toNat))
  case atStart => exact ⟨0, fun _ => 0, by omega, rfl, Lib.hid (fun _ => by simp), Lib.hid (fun _ _ => rfl), Lib.hid (by rw [V_zeros (fun _ => 0) 0 N (by omega) (fun _ _ => rfl)]; simp [V]), hrow', K0', HB0⟩
  case round =>
    obtain ⟨i, f0, hi, rfl, hd0, hz0, hs0, hr0, hK0, hB0⟩ := hrel
    have q0 := (hK0.out.get A 0 (.bool ba) (by simp)).2.1
    have q1 := (hK0.out.get A 1 (.slice p n c) (by simp)).2.1
    have t0 := (hK0.out.get B 0 (.bool bb) (by simp)).2.1
    have t1 := (hK0.out.get B 1 (.slice q m d) (by simp)).2.1
    have sz := hB0.out.size
    by_cases hlt : i < n
    · obtain ⟨blk, rfl⟩ : ∃ blk, p = some ⟨blk, 0, none⟩ := by
        rcases SA.out with ⟨e, _⟩ | ⟨blk, n', c', e, _⟩
        · cases e; omega
        · cases e; exact ⟨blk, rfl⟩
      obtain ⟨hblk, hcell⟩ : blk < w.heap.size ∧ w.cell? ⟨blk, i, none⟩ = some (.int .i64 (da.getD i 0)) := by
        rcases SA.out with ⟨e, _⟩ | ⟨blk', n', c', e, _, _, _, h5, h6⟩
        · cases e
        · cases e; exact ⟨h5, h6 i hlt⟩
      have nLb : ¬ L = blk := by omega
      have CA := Lib.hid hcell
      have i1 : (i : Int) < (n : Int) := by omega
      have i0 : (0 : Int) ≤ (i : Int) := by omega
      clear hcell
      go_wp2_with (fail)
      go_loopw [7, 8] (fun cv kv wr => ∃ (k : Nat) (cc : Int) (f : Nat → Int), k ≤ m + 1 ∧ kv = .int .i64 k ∧ cv = .int .i64 cc ∧ 0 ≤ cc ∧ Hid (k ≤ m ∨ cc = 0) ∧ Hid (TimI (fun j => db.getD j 0) f0 f (da.getD i 0) i k N cc) ∧ Hid (wr.rowIs L 3 N (fun j => .int .i64 (f j))) ∧ Hid (Kept [(A, 0, .bool ba), (A, 1, .slice (some ⟨blk, 0, none⟩) n c), (B, 0, .bool bb), (B, 1, .slice q m d), (R, 0, .bool false), (R, 1, .slice none 0 0)] wr) ∧ Hid (Below w.heap.size w wr)) (fun _ kv _ => (m + 1 - (intOf kv).toNat))
      case atStart => exact ⟨0, 0, f0, by omega, rfl, rfl, by omega, Lib.hid (.inl (by omega)), Lib.hid (TimI.start _ _ _ _ _ hd0.out), hr0, hK0, hB0⟩
      case round =>
        clear q0 q1 t0 t1 sz
        obtain ⟨k, cc, f, hk, rfl, rfl, hc0, hkc, hT, hr, hK, hB⟩ := hrel
        have q0 := (hK.out.get A 0 (.bool ba) (by simp)).2.1
        have q1 := (hK.out.get A 1 (.slice (some ⟨blk, 0, none⟩) n c) (by simp)).2.1
        have t0 := (hK.out.get B 0 (.bool bb) (by simp)).2.1
        have t1 := (hK.out.get B 1 (.slice q m d) (by simp)).2.1
        have sz := hB.out.size
        by_cases hlm : k < m
        · have hlmI : (k : Int) < (m : Int) := by omega
          have km : k ≤ m := by omega
          have hend : Hid (k = m → f (i + k) + da.getD i 0 * db.getD k 0 + cc ≤ 65535) := Lib.hid (fun h => by omega)
          obtain ⟨J, hJ⟩ : ∃ J : Nat, i + k = J := ⟨_, rfl⟩
          have hJ1 : (i : Int) + (k : Int) = (J : Int) := by omega
          have jN : J < N := by have := HN.out; omega
          have wJ : IntKind.i64.wrap (J : Int) = (J : Int) := IntWalk.i64_in _ (by have := HN.out; omega)
          have j0 : (0 : Int) ≤ (J : Int) := by omega
          have j1 : (J : Int) < (N : Int) := by omega
          have hx := DA.out i
          have hy := DB.out k
          have hg := hT.out.dig J
          have cb := hT.out.c1
          have xs := hT.out.sumIn hx.1 hx.2 hy
          have mm := mul_digits _ _ hx.1 hx.2 hy.1 hy.2
          obtain ⟨X, hX⟩ : ∃ X, f (i + k) + da.getD i 0 * db.getD k 0 + cc = X := ⟨_, rfl⟩
          have stp := hT.out.step (by omega) hx.1 hx.2 hy X hX
          have hen := hend.out
          rw [hX] at xs hen
          rw [hJ] at hX stp
          have cL := hr.out.cell jN
          have fL := hr.out.frozen J
          have cA := (hB.out.cell (p := ⟨blk, i, none⟩) hblk).trans CA.out
          have dgc : ∀ wx, Below w.heap.size w wx → Calls Try.prog 18 #[.agg #[.bool bb, .slice q m d], .int .i64 k] wx fun e w' => e = .returned (.int .i64 (db.getD k 0)) ∧ Below wx.heap.size wx w' := fun wx hx => digit_any bb (.slice q m d) db k (by omega) wx (SB.out.later hx (Nat.le_refl _))
          obtain ⟨x, ex⟩ : ∃ x, da.getD i 0 = x := ⟨_, rfl⟩
          obtain ⟨y, ey⟩ : ∃ y, db.getD k 0 = y := ⟨_, rfl⟩
          obtain ⟨g, eg⟩ : ∃ g, f J = g := ⟨_, rfl⟩
          rw [ex] at cA hX hx mm
          rw [ey] at dgc hX hy mm
          rw [eg] at cL hX hg
          obtain ⟨P, hP⟩ : ∃ P, x * y = P := ⟨_, rfl⟩
          rw [hP] at hX mm
          obtain ⟨Q, hQ⟩ : ∃ Q, g + P = Q := ⟨_, rfl⟩
          rw [hQ] at hX
          have wP : IntKind.i64.wrap P = P := IntWalk.i64_in _ (by omega)
          have wQ : IntKind.i64.wrap Q = Q := IntWalk.i64_in _ (by omega)
          have wX : IntKind.i64.wrap X = X := IntWalk.i64_in _ (by omega)
          have e4 := and_16 X (by omega) (by omega)
          obtain ⟨r, hr'⟩ : ∃ r, X % 65536 = r := ⟨_, rfl⟩
          obtain ⟨u, hu⟩ : ∃ u, X / 65536 = u := ⟨_, rfl⟩
          have nxt : Hid (k + 1 ≤ m ∨ u = 0) := Lib.hid (by
            by_cases h : k = m
            · have := hen h
              exact .inr (by omega)
            · exact .inl (by omega))
          have u0 : 0 ≤ u := by omega
          rw [hr', hu] at stp
          rw [hr'] at e4
          have STP := Lib.hid stp
          have DC := Lib.hid dgc
          have HC1 := Lib.hid hc0
          have i0x : (0 : Int) ≤ (i : Int) := by omega
          have wk : IntKind.i64.wrap ((k : Int) + 1) = ((k + 1 : Nat) : Int) := IntWalk.i64_in _ (by omega)
          clear ex ey eg stp dgc xs mm hx hy hg cb hen hend hJ
          go_wp2_with (fail)
          go_region_held3 (fun w' => w'.cell? ⟨A, 0, none⟩ = some (.bool ba) ∧ w'.cell? ⟨A, 1, none⟩ = some (.slice (some ⟨blk, 0, none⟩) n c) ∧ w'.cell? ⟨B, 0, none⟩ = some (.bool bb) ∧ w'.cell? ⟨B, 1, none⟩ = some (.slice q m d) ∧ w'.cell? ⟨blk, i, none⟩ = some (.int .i64 x) ∧ w'.cell? ⟨L, J, none⟩ = some (.int .i64 g)) (first | exact ⟨by assumption, by assumption, by assumption, by assumption, by assumption, by assumption⟩ | go_keep) ((go_at_call 18; (with_reducible refine (DC.out _ ?hx).mono ?_); (case hx => exact below_drewN hB.out 1); rintro e w4 ⟨rfl, h4⟩; have b4 : Below wr.heap.size wr w4 := below_step (by repeat (first | exact Below.refl _ _ | assumption | refine below_drewN ?_ _ | refine Below.drew ?_ | refine Below.alloc ?_ (by first | omega | (simp; done) | (simp; omega)) _ | refine Below.setCell ?_ (by first | (simp; done) | (simp; omega)) _)) h4; have K4 := Lib.hid (hK.out.step b4); have R4 := Lib.hid (rowIs_below hr.out b4); have a04 := (K4.out.get A 0 (.bool ba) (by simp)).2.1; have a14 := (K4.out.get A 1 (.slice (some ⟨blk, 0, none⟩) n c) (by simp)).2.1; have b04 := (K4.out.get B 0 (.bool bb) (by simp)).2.1; have b14 := (K4.out.get B 1 (.slice q m d) (by simp)).2.1; have d4 := (b4.cell (p := ⟨blk, i, none⟩) (by simp; omega)).trans cA; have f4 := R4.out.frozen J; have c4 := (b4.cell (p := ⟨L, J, none⟩) hr.out.lt).trans cL))
          have nr := Lib.hid (R4.out.set J (.int .i64 r))
          have nK := Lib.hid (KO'.out w4 J (.int .i64 r) K4.out)
          have nB := Lib.hid (show Below w.heap.size w (w4.setCell ⟨L, J, none⟩ (.int .i64 r)) from Below.setCell (below_step hB.out b4) hwL _)
          go_wp2_with (fail)
          go_roundw
          case rel => exact ⟨k + 1, u, upF f J r, by omega, by go_num, rfl, u0, nxt, STP, Lib.hid (nr.out.congr fun j _ => up_next f J r j), nK, nB⟩
          case measure => simp [intOf]; omega
        · have hlmI : ¬ (k : Int) < (m : Int) := by omega
          by_cases hcc : 0 < cc
          · have km : k ≤ m := by rcases hkc.out with h | h <;> omega
            have hend : Hid (k = m → f (i + k) + da.getD i 0 * db.getD k 0 + cc ≤ 65535) := Lib.hid (fun h => by
              have a := hT.out.hi (i + k) (Nat.le_refl _)
              rw [hz0.out (i + k) (by omega)] at a
              have b := hT.out.c1
              rw [a, HBZ.out k (by omega)]
              omega)
            obtain ⟨J, hJ⟩ : ∃ J : Nat, i + k = J := ⟨_, rfl⟩
            have hJ1 : (i : Int) + (k : Int) = (J : Int) := by omega
            have jN : J < N := by have := HN.out; omega
            have wJ : IntKind.i64.wrap (J : Int) = (J : Int) := IntWalk.i64_in _ (by have := HN.out; omega)
            have j0 : (0 : Int) ≤ (J : Int) := by omega
            have j1 : (J : Int) < (N : Int) := by omega
            have hx := DA.out i
            have hy := DB.out k
            have hg := hT.out.dig J
            have cb := hT.out.c1
            have xs := hT.out.sumIn hx.1 hx.2 hy
            have mm := mul_digits _ _ hx.1 hx.2 hy.1 hy.2
            obtain ⟨X, hX⟩ : ∃ X, f (i + k) + da.getD i 0 * db.getD k 0 + cc = X := ⟨_, rfl⟩
            have stp := hT.out.step (by omega) hx.1 hx.2 hy X hX
            have hen := hend.out
            rw [hX] at xs hen
            rw [hJ] at hX stp
            have cL := hr.out.cell jN
            have fL := hr.out.frozen J
            have cA := (hB.out.cell (p := ⟨blk, i, none⟩) hblk).trans CA.out
            have dgc : ∀ wx, Below w.heap.size w wx → Calls Try.prog 18 #[.agg #[.bool bb, .slice q m d], .int .i64 k] wx fun e w' => e = .returned (.int .i64 (db.getD k 0)) ∧ Below wx.heap.size wx w' := fun wx hx => digit_any bb (.slice q m d) db k (by omega) wx (SB.out.later hx (Nat.le_refl _))
            obtain ⟨x, ex⟩ : ∃ x, da.getD i 0 = x := ⟨_, rfl⟩
            obtain ⟨y, ey⟩ : ∃ y, db.getD k 0 = y := ⟨_, rfl⟩
            obtain ⟨g, eg⟩ : ∃ g, f J = g := ⟨_, rfl⟩
            rw [ex] at cA hX hx mm
            rw [ey] at dgc hX hy mm
            rw [eg] at cL hX hg
            obtain ⟨P, hP⟩ : ∃ P, x * y = P := ⟨_, rfl⟩
            rw [hP] at hX mm
            obtain ⟨Q, hQ⟩ : ∃ Q, g + P = Q := ⟨_, rfl⟩
            rw [hQ] at hX
            have wP : IntKind.i64.wrap P = P := IntWalk.i64_in _ (by omega)
            have wQ : IntKind.i64.wrap Q = Q := IntWalk.i64_in _ (by omega)
            have wX : IntKind.i64.wrap X = X := IntWalk.i64_in _ (by omega)
            have e4 := and_16 X (by omega) (by omega)
            obtain ⟨r, hr'⟩ : ∃ r, X % 65536 = r := ⟨_, rfl⟩
            obtain ⟨u, hu⟩ : ∃ u, X / 65536 = u := ⟨_, rfl⟩
            have nxt : Hid (k + 1 ≤ m ∨ u = 0) := Lib.hid (by
              by_cases h : k = m
              · have := hen h
                exact .inr (by omega)
              · exact .inl (by omega))
            have u0 : 0 ≤ u := by omega
            rw [hr', hu] at stp
            rw [hr'] at e4
            have STP := Lib.hid stp
            have DC := Lib.hid dgc
            have HC1 := Lib.hid hc0
            have i0x : (0 : Int) ≤ (i : Int) := by omega
            have wk : IntKind.i64.wrap ((k : Int) + 1) = ((k + 1 : Nat) : Int) := IntWalk.i64_in _ (by omega)
            clear ex ey eg stp dgc xs mm hx hy hg cb hen hend hJ
            go_wp2_with (fail)
            go_region_held3 (fun w' => w'.cell? ⟨A, 0, none⟩ = some (.bool ba) ∧ w'.cell? ⟨A, 1, none⟩ = some (.slice (some ⟨blk, 0, none⟩) n c) ∧ w'.cell? ⟨B, 0, none⟩ = some (.bool bb) ∧ w'.cell? ⟨B, 1, none⟩ = some (.slice q m d) ∧ w'.cell? ⟨blk, i, none⟩ = some (.int .i64 x) ∧ w'.cell? ⟨L, J, none⟩ = some (.int .i64 g)) (first | exact ⟨by assumption, by assumption, by assumption, by assumption, by assumption, by assumption⟩ | go_keep) ((go_at_call 18; (with_reducible refine (DC.out _ ?hx).mono ?_); (case hx => exact below_drewN hB.out 1); rintro e w4 ⟨rfl, h4⟩; have b4 : Below wr.heap.size wr w4 := below_step (by repeat (first | exact Below.refl _ _ | assumption | refine below_drewN ?_ _ | refine Below.drew ?_ | refine Below.alloc ?_ (by first | omega | (simp; done) | (simp; omega)) _ | refine Below.setCell ?_ (by first | (simp; done) | (simp; omega)) _)) h4; have K4 := Lib.hid (hK.out.step b4); have R4 := Lib.hid (rowIs_below hr.out b4); have a04 := (K4.out.get A 0 (.bool ba) (by simp)).2.1; have a14 := (K4.out.get A 1 (.slice (some ⟨blk, 0, none⟩) n c) (by simp)).2.1; have b04 := (K4.out.get B 0 (.bool bb) (by simp)).2.1; have b14 := (K4.out.get B 1 (.slice q m d) (by simp)).2.1; have d4 := (b4.cell (p := ⟨blk, i, none⟩) (by simp; omega)).trans cA; have f4 := R4.out.frozen J; have c4 := (b4.cell (p := ⟨L, J, none⟩) hr.out.lt).trans cL))
            have nr := Lib.hid (R4.out.set J (.int .i64 r))
            have nK := Lib.hid (KO'.out w4 J (.int .i64 r) K4.out)
            have nB := Lib.hid (show Below w.heap.size w (w4.setCell ⟨L, J, none⟩ (.int .i64 r)) from Below.setCell (below_step hB.out b4) hwL _)
            go_wp2_with (fail)
            go_roundw
            case rel => exact ⟨k + 1, u, upF f J r, by omega, by go_num, rfl, u0, nxt, STP, Lib.hid (nr.out.congr fun j _ => up_next f J r j), nK, nB⟩
            case measure => simp [intOf]; omega
          · obtain rfl : cc = 0 := by omega
            have nz := Lib.hid (show ∀ j, i + 1 + m ≤ j → f j = 0 from fun j hj => (hT.out.hi j (by omega)).trans (hz0.out j (by omega)))
            have ns := Lib.hid (hT.out.last (by omega) HBZ.out (fun j => da.getD j 0) rfl hs0.out)
            have nd := Lib.hid hT.out.dig
            clear hT hs0 hz0 hd0
            go_wp2_with (fail)
            go_roundw
            case rel => exact ⟨i + 1, f, by omega, by go_num, nd, nz, ns, hr, hK, hB⟩
            case measure => simp [intOf]; omega
    · obtain rfl : i = n := by omega
      have sl : SlR wr (.slice (some ⟨L, 0, none⟩) N N) ((List.range N).map f0) := .inr ⟨L, N, N, rfl, by simp, Nat.le_refl _, by have := HN.out; omega, hr0.out.lt, fun j hj => by rw [hr0.out.cell hj, range_getD, if_pos hj]⟩
      have dh : ∀ j, 0 ≤ ((List.range N).map f0).getD j 0 ∧ ((List.range N).map f0).getD j 0 ≤ 65535 := fun j => by
        rw [range_getD]
        split
        · exact hd0.out j
        · omega
      have tr := Lib.hid (trim_z (ba != bb) _ ((List.range N).map f0) z wr (by rw [val_range, hs0.out, ← val_V da i (by rw [LA.out]; exact Nat.le_refl _), ← val_V db m (by rw [LB.out]; exact Nat.le_refl _)]; exact HZ) sl dh)
      clear sl dh hs0 hz0 hd0
      go_wp2_with (fail); go_at_call 19; refine (tr.out).mono ?_; rintro e w4 ⟨v, rfl, hv, h4⟩
      have K4 := Lib.hid (hK0.out.step h4)
      have b4 : Below w.heap.size w w4 := below_step hB0.out h4
      obtain ⟨b', p', n', c', rfl⟩ := hv.form
      have r0 := (K4.out.get R 0 (.bool false) (by simp)).2.1
      have r1 := (K4.out.get R 1 (.slice none 0 0) (by simp)).2.1
      have e0 := (K4.out.get R 0 (.bool false) (by simp)).2.2
      have e1 := (K4.out.get R 1 (.slice none 0 0) (by simp)).2.2
      have hf := Lib.hid (hv.boxed r0 (.bool b') (.slice p' n' c'))
      have s4 := b4.size
      clear hv
      go_wp2_with (fail)
      exact bodyPost_ret (v := .agg #[.bool b', .slice p' n' c']) (by simp [results, Try.results6, go_sem, r0, r1]) rfl ⟨_, rfl, hf.out, (by repeat (first | exact Below.refl _ _ | assumption | refine below_drewN ?_ _ | refine Below.drew ?_ | refine Below.alloc ?_ (by first | omega | (simp; done) | (simp; omega)) _ | refine Below.setCell ?_ (by first | (simp; done) | (simp; omega)) _))⟩
end Go.Proofs.Ytlfchlholabijaa
