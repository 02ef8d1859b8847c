/- poly.Blocks. -/
import Derived.Test.YtbofihejegbfhaaNI
import Derived.Lib.Hide
import Derived.Deep.Onto
import Derived.Deep.Upon
import Derived.Great.BuildSlice
namespace Go.Proofs.Ytbofihejegbfhaa
set_option linter.unusedVariables false
set_option maxRecDepth 2000
set_option linter.unusedSimpArgs false
open Go.RowKit
/-- the r-th byte of the k-th block of f's first N bytes -/
def blkB (f : Nat → Int) (N k r : Nat) : Int := if 16 * k + r < N ∧ r < 16 then f (16 * k + r) else if r = min 16 (N - 16 * k) then 1 else 0
/-- the blocks, one behind the other -/
def rowF (f : Nat → Int) (N j : Nat) : Int := blkB f N (j / 17) (j % 17)
theorem rowF_at (f : Nat → Int) (N k r : Nat) (h : r < 17) : rowF f N (k * 17 + r) = blkB f N k r := by
  unfold rowF
  rw [show (k * 17 + r) / 17 = k by omega, show (k * 17 + r) % 17 = r by omega]
theorem in_blkB {f : Nat → Int} {N : Nat} (h : ∀ i, i < N → inB (f i)) (k r : Nat) : inB (blkB f N k r) := by
  unfold blkB
  split
  · exact h _ (by omega)
  · split <;> (unfold inB; decide)
theorem infoK : (Try.prog.info? 48).map (fun i => (i.zero, i.size, i.bytes)) = some (some (.agg (nums .u8 (fun _ => 0) 17).toArray), 17, 17) := by kernel_rfl
theorem infoK_parts : ∃ i, Try.prog.info? 48 = some i ∧ i.zero = some (.agg (nums .u8 (fun _ => 0) 17).toArray) ∧ i.size = 17 ∧ i.bytes = 17 := by
  obtain ⟨i, hi, h⟩ := Option.map_eq_some_iff.1 infoK
  simp only [Prod.mk.injEq] at h
  exact ⟨i, hi, h.1, h.2.1, h.2.2⟩
theorem over_nums (g h : Nat → Int) (t n : Nat) (ht : t ≤ n) : over (nums .u8 h n) 0 (nums .u8 g t) = nums .u8 (fun j => if j < t then g j else h j) n := by
  apply List.ext_getElem?
  intro j
  unfold over
  rw [List.take_zero, List.nil_append, Nat.zero_add, nums_length]
  by_cases h1 : j < t
  · rw [List.getElem?_append_left (by rw [nums_length]; exact h1), nums_at _ _ h1, nums_at _ _ (by omega), if_pos h1]
  · rw [List.getElem?_append_right (by rw [nums_length]; omega), nums_length, List.getElem?_drop, show t + (j - t) = j by omega]
    by_cases h2 : j < n
    · rw [nums_at _ _ h2, nums_at _ _ h2, if_neg h1]
    · rw [nums_out _ _ (by omega), nums_out _ _ (by omega)]
theorem blk_done (f : Nat → Int) (N k t : Nat) (hk : 16 * k < N) (ht : t = min 16 (N - 16 * k)) : nums .u8 (at1 (fun j => if j < t then f (16 * k + j) else 0) t 1) 17 = nums .u8 (blkB f N k) 17 := nums_congr _ fun j hj => by
  unfold at1 blkB
  subst ht
  dsimp only
  by_cases h1 : j = min 16 (N - 16 * k)
  · rw [if_pos h1, if_neg (by omega), if_pos h1]
  · rw [if_neg h1]
    by_cases h2 : j < min 16 (N - 16 * k)
    · rw [if_pos h2, if_pos (by omega)]
    · rw [if_neg h2, if_neg (by omega), if_neg h1]
theorem wpList_copy {P : Program} {w w' : World} {ops : Array Oper} {rest : List Oper} {o : Oper} {a : Act} {Q : Exit → Act → World → Prop} (hgd : o.guard = none) (s x : Operand) (t : TypeId)
    (ho : o.op = .call { callee := .builtin .copy, args := #[s, x], argTypes := #[t, t] }) {vs vx v : Value} (hs : a.eval s = vs) (hx : a.eval x = vx)
    (hr : (Builtin.copy_ #[t, t] o.type #[vs, vx]).run P w = .ok v w') (h : wpList P ops Q rest (a.put o.dst v) w') : wpList P ops Q (o :: rest) a w :=
  wpList_plain hgd fun K hK => by
    unfold Oper.wp
    simp [execOp, ho, resolve, invoke, builtin, hs, hx, hr, Result.andThen]
    exact hK _ _ h
theorem size_byte : (Try.prog.info? 5).map (·.size) = some 1 := by kernel_rfl
/-- bytes into an array -/
theorem copy_byt (X o b off dL dC sL sC t ty : Nat) (g : Nat → Int) (W : World) (ht : t = Nat.min sL dL) (hs : Has b off (nums .u8 g t) W) (hd : W.there X o t) :
    (Builtin.copy_ #[26, 26] ty #[.slice (some ⟨X, o, none⟩) dL dC, .slice (some ⟨b, off, none⟩) sL sC]).run Try.prog W = .ok (goInt t) (W.setCells X o (nums .u8 g t)) := by
  have h := run_copy_rows (P := Try.prog) (S := 1) W 26 26 ty _ X o dL dC ⟨b, off, none⟩ sL sC (nums .u8 g t) Try.underlying26 size_byte (by rw [nums_length, Nat.mul_one, ht])
    (fun j v hv => by rw [Addr.add_mid]; exact hs.cell j v hv) (by rw [nums_length]; exact hd) (nums_one _ _ _)
  rw [← ht] at h
  exact h
theorem row_far {w : World} {base size n X : Nat} {e : TypeId} {v : Value} {xs : List Value} (h : w.ownsRow base e size v n xs) (hne : v.ownBlock ≠ some X) (o : Nat) (vs : List Value) : (w.setCells X o vs).ownsRow base e size v n xs := by
  refine ⟨h.1, ?_⟩
  rcases h.2 with hn | ⟨g, cap, cur, rfl, hb, hg, rest⟩
  · exact .inl hn
  · refine .inr ⟨g, cap, cur, rfl, hb, ?_, rest⟩
    rw [World.heap_setCells_other w X o vs (Array.getElem?_eq_some_iff.1 hg).1 (fun e => hne (by rw [e]; rfl))]
    exact hg
theorem fill17 (f : Nat → Int) : Instr.fill (fun i => some (i * 17, 17)) ((Array.range (1 * 17)).map ((Value.agg (nums .u8 (fun _ => 0) 17).toArray).cells[· % (Value.agg (nums .u8 (fun _ => 0) 17).toArray).cells.size]!)) [(0, .agg (nums .u8 f 17).toArray)] = some (nums .u8 f 17).toArray := by kernel_rfl
/-- a slice of one array of 17 bytes -/
theorem wpList_build17 {ops : Array Oper} {rest : List Oper} {o : Oper} {a : Act} {w : World} {Q : Exit → Act → World → Prop} (hg : o.guard = none) (x : Operand) (ho : o.op = .buildSlice 40 1 #[(0, x)]) (f : Nat → Int) (hx : a.eval x = .agg (nums .u8 f 17).toArray)
    (h : wpList Try.prog ops Q rest (a.put o.dst (.slice (some ⟨w.heap.size, 0, none⟩) 1 1)) (w.alloc (.cells (nums .u8 f 17).toArray 48))) : wpList Try.prog ops Q (o :: rest) a w := by
  obtain ⟨i0, hi, hz0, hz1, _⟩ := infoK_parts
  refine wpList_buildSlice hg 40 48 1 _ ho _ i0 _ Try.underlying40 hi hz0 (by rw [hz1]; decide) (by rw [hz1]; decide) ?_ h
  rw [hz1]
  simp only [List.map_toArray, List.map_cons, List.map_nil, hx]
  exact fill17 f
/-- a block made behind a row is another one -/
theorem row_new {w : World} {base size n X : Nat} {e : TypeId} {v : Value} {xs : List Value} (h : w.ownsRow base e size v n xs) (hX : w.heap.size ≤ X) : v.ownBlock ≠ some X := fun he => by
  have := (h.lt X he).2
  omega
attribute [local go_sem] nums_length

set_option maxHeartbeats 2000000 in
theorem Blocks_any (f : Nat → Int) (p : Option Addr) (n c N m : Nat) (e1 : (if 65536 < (n : Int) then 65536 else (n : Int)) = (N : Int)) (hn : n ≤ c) (hc : c ≤ 9223372036854775807) (hm : m = (N + 15) / 16) (w : World) (hb : Byt w p N f) :
    Calls Try.prog 12 #[.slice p n c] w fun e w' => ∃ v, e = .returned v ∧ w'.ownsRow w.heap.size 48 17 v m (nums .u8 (rowF f N) (m * 17)) ∧ Below w.heap.size w w' := by
  have hNn : N ≤ n := by split at e1 <;> omega
  have hN6 : N ≤ 65536 := by split at e1 <;> omega
  have HNC := Lib.hid (show N ≤ c by omega); have HC := Lib.hid hc; have HB0 := Lib.hid hb; have HM := Lib.hid hm; have HN6 := Lib.hid hN6
  have PB : Hid (∀ b off, N ≠ 0 → p = some ⟨b, off, none⟩ → b < w.heap.size) := Lib.hid fun b off h0 he => by
    obtain ⟨b', off', e2, h2⟩ := hb.resolve_left h0
    rw [he] at e2
    cases e2
    exact h2.lt
  obtain ⟨i0, hi, hz0, hz1, hz2⟩ := infoK_parts
  have n0 : (0 : Int) ≤ (N : Int) := by omega
  have n1 : (N : Int) ≤ (c : Int) := by omega
  have w1 : IntKind.i64.wrap ((N : Int) + 15) = (N : Int) + 15 := IntWalk.i64_in _ (by omega)
  have w2 : ((N : Int) + 15).tdiv 16 = (m : Int) := by rw [Int.tdiv_eq_ediv_of_nonneg (by omega)]; omega
  have w3 : IntKind.i64.wrap (m : Int) = (m : Int) := IntWalk.i64_in _ (by omega)
  have m0 : (0 : Int) ≤ (m : Int) := by omega
  obtain ⟨W1, hmk, hrow, hgr⟩ := run_make_own (P := Try.prog) w w.heap.size 40 48 i0 (.agg (nums .u8 (fun _ => 0) 17).toArray) 17 Try.underlying40 hi hz0 hz1 .i64 .i64 m (by rw [hz2]; omega) (by unfold maxLen; omega) (Nat.le_refl _)
  clear hn hc hb hm hNn hN6
  go_enter Try.func12, Try.ntmps12
  go_wp2_with (fail)
  have hB1 : Below w.heap.size w W1 := (Below.refl _ _).grown hgr (Nat.le_refl _) (fun k hk => nomatch hk)
  have BY := Lib.hid (HB0.out.later hB1)
  have ROW := Lib.hid hrow
  clear hmk hgr hrow HB0
  go_loopw [3, 4] (fun v av wr => ∃ (k a : Nat) (p3 : Option Addr) (c3 : Nat), k ≤ m ∧ a = 16 * k ∧ v = .slice p3 k c3 ∧ av = .int .i64 a ∧ Hid (wr.ownsRow w.heap.size 48 17 (.slice p3 k c3) k (nums .u8 (rowF f N) (k * 17))) ∧ Hid (Byt wr p N f) ∧ Hid (Below w.heap.size w wr)) (fun _ av _ => (16 * m - (intOf av).toNat))
  case atStart => exact ⟨0, 0, _, _, Nat.zero_le _, rfl, rfl, rfl, Lib.hid (by rw [Nat.zero_mul]; exact ROW.out), BY, Lib.hid hB1⟩
  case round =>
    clear ROW BY hB1
    obtain ⟨k, a, p3, c3, hk, ea, rfl, rfl, ROW, BY, HB⟩ := hrel
    by_cases hlt : k < m
    · have haN : a < N := by have := HM.out; omega
      obtain ⟨b, off, rfl, hbs⟩ : ∃ b off, p = some ⟨b, off, none⟩ ∧ Has b off (nums .u8 f N) wr := BY.out.resolve_left (by omega)
      have HS := Lib.hid hbs
      have bw := PB.out b off (by omega) rfl
      obtain ⟨d_, ed⟩ : ∃ d : Nat, d = N - a := ⟨_, rfl⟩
      obtain ⟨t, et⟩ : ∃ t : Nat, t = min 16 d_ := ⟨_, rfl⟩
      have ht : t = min 16 (N - 16 * k) := by omega
      have BD := blk_done f N k t (by omega) ht
      have h1 : (a : Int) < (N : Int) := by omega
      have h0 : (0 : Int) ≤ (a : Int) := by omega
      have h2 : (a : Int) ≤ (c : Int) := by omega
      have h3 : (a : Int) ≤ (N : Int) := by omega
      have a63 : IntKind.i64.wrap ((a : Int) + 16) = (a : Int) + 16 := IntWalk.i64_in _ (by have := HN6.out; omega)
      have t16 : (t : Int) < 17 := by omega
      have t0 : (0 : Int) ≤ (t : Int) := by omega
      have hca : ¬ c = a := by have := HNC.out; omega
      have ED := Lib.hid ed; have ET := Lib.hid et; have EA := Lib.hid ea; have HK := Lib.hid hlt
      clear hbs BY ht ed et ea hk haN
      go_wp2_with (fail)
      have hB0 := HB.out
      clear HB
      have RN := fun X hX => row_new (X := X) ROW.out hX
      obtain ⟨W2, hW⟩ : ∃ W2, W2 = (wr.alloc (.cells #[.int .u8 0, .int .u8 0, .int .u8 0, .int .u8 0, .int .u8 0, .int .u8 0, .int .u8 0, .int .u8 0, .int .u8 0, .int .u8 0, .int .u8 0, .int .u8 0, .int .u8 0, .int .u8 0, .int .u8 0, .int .u8 0, .int .u8 0] 48)) := ⟨_, rfl⟩
      have hBx : Below wr.heap.size wr W2 := hW ▸ (Below.al (Below.refl _ _))
      have HX : Hid (Own wr.heap.size (nums .u8 (fun _ => 0) 17) W2) := Lib.hid (hW ▸ (show Own wr.heap.size (nums .u8 (fun _ => 0) 17) (wr.alloc (.cells #[.int .u8 0, .int .u8 0, .int .u8 0, .int .u8 0, .int .u8 0, .int .u8 0, .int .u8 0, .int .u8 0, .int .u8 0, .int .u8 0, .int .u8 0, .int .u8 0, .int .u8 0, .int .u8 0, .int .u8 0, .int .u8 0, .int .u8 0] 48)) from Own.newAt (by simp)))
      rw [← hW]
      clear hW
      obtain ⟨X, eX⟩ : ∃ X, X = wr.heap.size := ⟨_, rfl⟩
      rw [← eX] at HX ⊢
      have Xw : wr.heap.size ≤ X := by omega
      clear eX
      have nXb : X ≠ b := by have := HS.out.lt; omega
      have nbX : b ≠ X := Ne.symm nXb
      have Xw2 : w.heap.size ≤ X := by have := hB0.size; omega
      have RX := RN X Xw
      clear Xw RN
      have Xw := Xw2
      clear Xw2
      have HSk := Lib.hid (HS.out.later hBx)
      clear HS
      have HS := HSk
      clear HSk
      replace ROW := Lib.hid (row_later ROW.out hBx)
      have hB0n := Below.go hB0 hBx
      clear hB0 hBx
      have hB0 := hB0n
      clear hB0n
      refine wp_region_still_tail 4 (by kernel_rfl) (by kernel_rfl) ?_; simp only [List.take_succ_cons, List.take_zero, List.drop_succ_cons, List.drop_zero]; change wpStill _ _ (World.drew _) (fun a1 => wpList _ _ _ _ a1 (World.drew _)) _ _; repeat still_step
      refine wpStill_nil ?_
      have HP : Has b (off + a) (nums .u8 (fun j => f (16 * k + j)) t) W2.drew := ⟨HS.out.drew.lt, fun j v hv => by
        have hj : j < t := by have := (List.getElem?_eq_some_iff.1 hv).1; rwa [nums_length] at this
        rw [nums_at _ _ hj] at hv
        rw [← EA.out] at hv
        have := ET.out; have := ED.out
        rw [Nat.add_assoc]
        exact HS.out.drew.at (a + j) v ((nums_at _ _ (by omega)).trans hv)⟩
      have XF := HX.out.drew.free
      rw [nums_length] at XF
      have hcp := copy_byt X 0 b (off + a) 16 17 (N - a) (c - a) t
      refine wpList_copy rfl _ _ 26 rfl rfl rfl (hcp _ _ _ (by rw [← ED.out, ET.out, Nat.min_comm]) HP (fun j hj => XF j (by have := ET.out; omega))) ?_
      have OX := Lib.hid (Own.part (o := 0) (vs := nums .u8 (fun j => f (16 * k + j)) t) HX.out.drew (by rw [nums_length, nums_length]; have := ET.out; omega))
      rw [over_nums _ _ _ _ (by have := ET.out; omega)] at OX
      have OS := Lib.hid (Has.far (c := X) (o := 0) (vs := nums .u8 (fun j => f (16 * k + j)) t) HS.out.drew nbX)
      have OB := Lib.hid (Below.setCells hB0.drew Xw (nums .u8 (fun j => f (16 * k + j)) t) 0)
      have OR := Lib.hid (row_far (row_later ROW.out (Below.refl _ _).drew) RX 0 (nums .u8 (fun j => f (16 * k + j)) t))
      clear HX HS hB0 ROW HP XF hcp
      generalize W2.drew.setCells X 0 (nums .u8 (fun j => f (16 * k + j)) t) = y1 at *
      have tn : t < 17 := by omega
      have x0 := OX.out.at t _ (nums_at _ _ tn)
      have xf := OX.out.ok t (by rw [nums_length]; exact tn)
      have Xl := OX.out.lt
      go_upto_region 9 with fail
      rw [show (y1.setCell ⟨X, t, none⟩ (.int .u8 1)) = y1.setCells X t [.int .u8 1] from rfl]
      have OX2 := Lib.hid (BD ▸ own_set (v := 1) OX.out tn)
      have OS2 := Lib.hid (Has.far (c := X) (o := t) (vs := [.int .u8 1]) OS.out nbX)
      have OB2 := Lib.hid (Below.setCells OB.out Xw [.int .u8 1] t)
      have OR2 := Lib.hid (row_far OR.out RX t [.int .u8 1])
      clear OX OS OB OR x0 xf Xl BD
      generalize y1.setCells X t [.int .u8 1] = y2 at *
      refine wp_region_lit ?_
      refine wpList_move rfl _ rfl ?_
      refine wpList_load_mid rfl 48 _ rfl X 0 rfl (nums .u8 (blkB f N k) 17) _ OX2.out.cell Try.underlying48 rfl (by kernel_rfl) ?_
      refine wpList_build17 rfl _ rfl (blkB f N k) rfl ?_
      have hB0 := OB2.out
      clear OB2 nXb nbX RX Xw
      obtain ⟨W3, hW⟩ : ∃ W3, W3 = (y2.alloc (.cells (nums .u8 (blkB f N k) 17).toArray 48)) := ⟨_, rfl⟩
      have hBx : Below y2.heap.size y2 W3 := hW ▸ (Below.al (Below.refl _ _))
      have HZ : Hid (Own y2.heap.size (nums .u8 (blkB f N k) 17) W3) := Lib.hid (hW ▸ (show Own y2.heap.size (nums .u8 (blkB f N k) 17) (y2.alloc (.cells (nums .u8 (blkB f N k) 17).toArray 48)) from Own.newAt (by simp)))
      rw [← hW]
      clear hW
      obtain ⟨Z, eZ⟩ : ∃ X, X = y2.heap.size := ⟨_, rfl⟩
      rw [← eZ] at HZ ⊢
      have Zw : y2.heap.size ≤ Z := by omega
      clear eZ
      have nZb : Z ≠ b := by have := OS2.out.lt; omega
      have nbZ : b ≠ Z := Ne.symm nZb
      have Zw2 : w.heap.size ≤ Z := by have := hB0.size; omega
      clear Zw
      have Zw := Zw2
      clear Zw2
      have OS2k := Lib.hid (OS2.out.later hBx)
      clear OS2
      have OS2 := OS2k
      clear OS2k
      replace OR2 := Lib.hid (row_later OR2.out hBx)
      have hB0n := Below.go hB0 hBx
      clear hB0 hBx
      have hB0 := hB0n
      clear hB0n
      have NL := Lib.hid (show (nums .u8 (blkB f N k) 17).length = 1 * 17 by rw [nums_length])
      have NW := Lib.hid HZ.out.news
      have k6 : k < 4097 := by have := HM.out; have := HN6.out; omega
      have N63 := Lib.hid (show k + 1 ≤ maxLen by unfold maxLen; omega)
      have NBY := Lib.hid (show (k + 1) * 17 ≤ 140737488355328 by omega)
      have XS := Lib.hid (show nums .u8 (rowF f N) (k * 17) ++ nums .u8 (blkB f N k) 17 = nums .u8 (rowF f N) ((k + 1) * 17) by
        rw [nums_append .u8 (rowF f N) (blkB f N k) (k * 17) 17 (fun j hj => rowF_at f N k j hj), Nat.succ_mul])
      have HS := Lib.hid hB0.size
      have HB := Lib.hid hB0
      clear hB0 k6
      go_wp2_with (at_builtin; refine wpList_append_own _ rfl _ _ 40 rfl w.heap.size 48 i0 (.agg (nums .u8 (fun _ => 0) 17).toArray) 17 17 Try.underlying40 hi hz0 hz1 hz2 rfl (by decide) _ k _ rfl OR2.out ⟨Z, 0, none⟩ 1 1 (nums .u8 (blkB f N k) 17) rfl NL.out NW.out (nums_one _ _ _) N63.out NBY.out HS.out ?_; intro v' w6 hrow hgr _; obtain ⟨p', c', rfl, _⟩ := row_form hrow; rw [XS.out] at hrow; have o4 := Lib.hid (HB.out.grown hgr HB.out.size fun q hq => row_ge OR2.out q hq); have o6 := Lib.hid hrow; have o7 := Lib.hid (Or.inr ⟨b, off, rfl, Has.grown OS2.out hgr (row_ne OR2.out bw)⟩ : Byt w6 (some ⟨b, off, none⟩) N f); clear hrow hgr)
      go_roundw
      case rel => (first | exact ⟨k + 1, _, _, _, HK.out, rfl, rfl, by rw [EA.out]; go_num, o6, o7, o4⟩ | ((repeat apply Exists.intro); exact ⟨⟨k + 1, _, _, _, HK.out, rfl, rfl, by rw [EA.out]; go_num, o6, o7, o4⟩, rfl⟩))
      case measure => (have := HK.out; have := EA.out; simp [intOf]; omega)
    · have hkm : k = m := by omega
      subst hkm
      have hd : decide (a < N) = false := decide_eq_false (by have := HM.out; omega)
      clear ea
      go_wp2_with (fail)
      skip
      go_ret
      exact ⟨_, rfl, ROW.out, HB.out⟩
end Go.Proofs.Ytbofihejegbfhaa
