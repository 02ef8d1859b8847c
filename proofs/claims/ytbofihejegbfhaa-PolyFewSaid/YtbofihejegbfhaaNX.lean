/- umbralaw07.works. -/
import Derived.Test.YtbofihejegbfhaaNW
import Derived.Test.YtbofihejegbfhaaNH
import Derived.Lib.Hide
import Derived.Great.BuildSlice
import Derived.Lib.SlBytesConst
namespace Go.Proofs.Ytbofihejegbfhaa
set_option linter.unusedVariables false
set_option maxRecDepth 2000
set_option linter.unusedSimpArgs false
open Go.RowKit
def wKey : List Int := [133, 214, 190, 120, 87, 85, 109, 51, 127, 68, 82, 254, 66, 213, 6, 168, 1, 3, 128, 138, 251, 13, 178, 253, 74, 191, 246, 175, 65, 73, 245, 27]
def wTxt : List Int := [67, 114, 121, 112, 116, 111, 103, 114, 97, 112, 104, 105, 99, 32, 70, 111, 114, 117, 109, 32, 82, 101, 115, 101, 97, 114, 99, 104, 32, 71, 114, 111, 117, 112]
def wTag : List Int := [168, 6, 29, 193, 48, 81, 54, 198, 194, 43, 139, 175, 12, 1, 39, 169]
def wK (i : Nat) : Int := wKey.getD i 0
def wG (i : Nat) : Int := wTxt.getD i 0
def wR (i : Nat) : Int := wTag.getD i 0
def wT (k : Nat) : Nat := [0, 20, 34].getD k 34
theorem inB_list (l : List Int) (h : l.all (fun x => decide (0 ≤ x ∧ x < 256)) = true) (i : Nat) : inB (l.getD i 0) := by
  rw [List.getD_eq_getElem?_getD]
  cases e : l[i]? with
  | none => exact ⟨by decide, by decide⟩
  | some x =>
    have := List.all_eq_true.1 h x (List.mem_of_getElem? e)
    simpa [inB] using this
theorem w_tag : (List.range 16).all (fun i => byt (tagN wK wG 34) i == wR i) = true := by decide +kernel
theorem w_eq : eqB (byt (tagN wK wG 34)) wR 16 = true := eqB_congr fun i hi => by
  have := List.all_eq_true.1 w_tag i (List.mem_range.2 hi)
  simpa using this
theorem works_tag : ∃ T_, tagN wK wG 34 = T_ ∧ eqB (byt T_) wR 16 = true := ⟨_, rfl, w_eq⟩
theorem works_call (N T_ : Nat) (kf g : Nat → Int) (T : Nat → Nat) (np : Nat) (P_ : Option Addr) (hN : T np = N) (hT_ : tagN kf g N = T_) (hk : ∀ i, i < 32 → inB (kf i)) (hg : ∀ i, i < N → inB (g i)) (hT0 : T 0 = 0) (hT : ∀ k, k ≤ np → T k ≤ 65536) (hnp : np ≤ 65536) (w : World) (hP : Parts w P_ np g T) :
    Calls Try.prog 15 #[(.agg (nums .u8 kf 32).toArray), .slice P_ np np] w fun e w' => e = .returned (.agg (nums .u8 (byt T_) 16).toArray) ∧ Below w.heap.size w w' := by
  subst hN; subst hT_
  exact Tag_any kf g P_ np np T hk hg hT0 hT (Nat.le_refl _) (by omega) w hP
theorem wpList_arrN {P : Program} {ops : Array Oper} {rest : List Oper} {o : Oper} {a : Act} {w : World} {Q : Exit → Act → World → Prop} (hg : o.guard = none) (t e : TypeId) (n : Nat) (parts : Array (Nat × Operand)) (ho : o.op = .build t parts)
    (k : IntKind) (zs : List Int) (f : Nat → Int) (hu : P.underlying t = some (.array n e)) (hsz : (P.info? e).map (·.size) = some 1) (hz : ((P.info? t).bind (·.zero)).map (·.cells.size) = some zs.length)
    (hparts : parts.toList = (zs.zipIdx 0).map fun x => (x.2, Operand.const (Value.int k x.1))) (hzs : zs.map (Value.int k) = nums k f n)
    (h : wpList P ops Q rest (a.put o.dst (.agg (nums k f n).toArray)) w) : wpList P ops Q (o :: rest) a w := by
  refine wpList_buildFlatArr hg t e n parts ho k zs hu hsz hz hparts ?_
  rw [hzs]; exact h
theorem wpList_slN {P : Program} {ops : Array Oper} {rest : List Oper} {o : Oper} {a : Act} {w : World} {Q : Exit → Act → World → Prop} (hg : o.guard = none) (t e : TypeId) (len : Nat) (parts : Array (Nat × Operand)) (ho : o.op = .buildSlice t len parts)
    (k : IntKind) (zs : List Int) (f : Nat → Int) (hu : P.underlying t = some (.slice e)) (hsz : (P.info? e).map (·.size) = some 1) (hz : ((P.info? e).bind (·.zero)).isSome = true)
    (hlen : len = zs.length) (hpos : 0 < len) (hsmall : len ≤ 2 ^ 24) (hparts : parts.toList = (zs.zipIdx 0).map fun x => (x.2, Operand.const (Value.int k x.1))) (hzs : zs.map (Value.int k) = nums k f len)
    (h : wpList P ops Q rest (a.put o.dst (.slice (some ⟨w.heap.size, 0, none⟩) len len)) (w.alloc (.cells (nums k f len).toArray e))) : wpList P ops Q (o :: rest) a w := by
  refine wpList_buildFlat hg t e len parts ho k zs hu hsz hz hlen hpos hsmall hparts ?_
  rw [hzs]; exact h
theorem st32 (w : World) (f : Nat → Int) (c : Array Value) (hc : c.size = 32) : (storeCells ⟨w.heap.size, 0, none⟩ (nums .u8 f 32)).run Try.prog (w.alloc (.cells c 22)) = .ok () (w.alloc (.cells (nums .u8 f 32).toArray 22)) :=
  run_storeCells_new (P := Try.prog) w 22 c (nums .u8 f 32).toArray (by rw [nums_size]; kernel_rfl) (by rw [nums_size, hc]) (nums_all _ _ _)
theorem has_marked (W : World) (cs : List Value) (T : TypeId) (fz : Nat × Nat) : Has W.heap.size 0 cs (W.alloc (.cells cs.toArray T fz)) where
  lt := by simp
  cell := fun j v hv => by
    rw [Nat.zero_add]
    simp only [World.cell?, World.alloc, Array.getElem?_push_size]
    simpa using hv
/-- '[]byte("..")' of a constant -/
theorem wpList_conv {ops : Array Oper} {rest : List Oper} {o : Oper} {a : Act} {w : World} {C : Array Value} {n c : Nat} {Q : Exit → Act → World → Prop} (hg : o.guard = none) (x : Operand) (ho : o.op = .convert 26 26 x) (hx : a.eval x = .slice (some ⟨w.heap.size, 0, none⟩) n c)
    (h : wpList Try.prog ops Q rest (a.put o.dst (.slice (some ⟨w.heap.size, 0, none⟩) n c)) (w.alloc (.cells C 5 (C.size, C.size + 1)))) : wpList Try.prog ops Q (o :: rest) a (w.alloc (.cells C 5)) :=
  wpList_plain hg fun K hK => by
    have kc := Lib.run_convert_bytes_const (P := Try.prog) w 26 5 C n c Try.underlying26 Try.underlying5
    unfold Oper.wp execOp
    simp only [ho, hx, Sem.run_bind, kc, Result.andThen_ok]
    exact hK _ _ h
theorem wK_list : nums .u8 wK 32 = [.int .u8 133, .int .u8 214, .int .u8 190, .int .u8 120, .int .u8 87, .int .u8 85, .int .u8 109, .int .u8 51, .int .u8 127, .int .u8 68, .int .u8 82, .int .u8 254, .int .u8 66, .int .u8 213, .int .u8 6, .int .u8 168, .int .u8 1, .int .u8 3, .int .u8 128, .int .u8 138, .int .u8 251, .int .u8 13, .int .u8 178, .int .u8 253, .int .u8 74, .int .u8 191, .int .u8 246, .int .u8 175, .int .u8 65, .int .u8 73, .int .u8 245, .int .u8 27] := by kernel_rfl
theorem wR_list : nums .u8 wR 16 = [.int .u8 168, .int .u8 6, .int .u8 29, .int .u8 193, .int .u8 48, .int .u8 81, .int .u8 54, .int .u8 198, .int .u8 194, .int .u8 43, .int .u8 139, .int .u8 175, .int .u8 12, .int .u8 1, .int .u8 39, .int .u8 169] := by kernel_rfl
theorem wG_list : nums .u8 wG 34 = [.int .u8 67, .int .u8 114, .int .u8 121, .int .u8 112, .int .u8 116, .int .u8 111, .int .u8 103, .int .u8 114, .int .u8 97, .int .u8 112, .int .u8 104, .int .u8 105, .int .u8 99, .int .u8 32, .int .u8 70, .int .u8 111, .int .u8 114, .int .u8 117, .int .u8 109, .int .u8 32, .int .u8 82, .int .u8 101, .int .u8 115, .int .u8 101, .int .u8 97, .int .u8 114, .int .u8 99, .int .u8 104, .int .u8 32, .int .u8 71, .int .u8 114, .int .u8 111, .int .u8 117, .int .u8 112] := by kernel_rfl
attribute [local go_sem] nums_length st32

set_option maxHeartbeats 4000000 in
theorem works_any (w : World) : Calls Try.prog 10 #[] w fun e w' => e = .returned (.bool true) ∧ Below w.heap.size w w' := by
  obtain ⟨T_, eT, eB⟩ := works_tag
  have TG := Lib.hid (fun P_ w h => works_call 34 T_ wK wG wT 2 P_ rfl eT (fun i _ => inB_list wKey (by decide) i) (fun i _ => inB_list wTxt (by decide) i) rfl (fun k hk => by have : k = 0 ∨ k = 1 ∨ k = 2 := (by omega); rcases this with rfl | rfl | rfl <;> decide) (by decide) w h)
  have EQ := eq16 (byt T_) wR
  rw [eB] at EQ
  have EQ2 := EQ
  rw [wR_list] at EQ2
  clear eT eB
  go_enter Try.func10, Try.ntmps10
  go_upto_region 1 with fail
  refine wp_region_lit ?_
  refine wpList_arrN rfl 22 5 32 _ rfl .u8 wKey wK Try.underlying22 (by kernel_rfl) (by kernel_rfl) (by kernel_rfl) (by kernel_rfl) ?_
  go_upto_region 2 with fail
  obtain ⟨W0, hW⟩ : ∃ W0, W0 = (w.alloc (.cells (nums .u8 wK 32).toArray 22)) := ⟨_, rfl⟩
  have hB0 : Below w.heap.size w W0 := hW ▸ (Below.al (Below.refl _ _))
  have HY : Hid (Own w.heap.size (nums .u8 wK 32) W0) := Lib.hid (hW ▸ (show Own w.heap.size (nums .u8 wK 32) (w.alloc (.cells (nums .u8 wK 32).toArray 22)) from Own.newAt (by simp)))
  rw [← hW]
  clear hW
  obtain ⟨Y, eY⟩ : ∃ X, X = w.heap.size := ⟨_, rfl⟩
  rw [← eY] at HY ⊢
  have Yw : w.heap.size ≤ Y := by omega
  clear eY
  refine wp_region_lit ?_
  refine wpList_load_mid rfl 22 _ rfl Y 0 rfl (nums .u8 wK 32) _ HY.out.cell Try.underlying22 rfl (by kernel_rfl) ?_
  refine wpList_slN rfl 26 5 20 _ rfl .u8 [67, 114, 121, 112, 116, 111, 103, 114, 97, 112, 104, 105, 99, 32, 70, 111, 114, 117, 109, 32] wG Try.underlying26 (by kernel_rfl) (by kernel_rfl) rfl (by decide) (by decide) (by kernel_rfl) (by kernel_rfl) ?_
  refine wpList_conv rfl _ rfl rfl ?_
  obtain ⟨W1, hW⟩ : ∃ W, W = (W0.alloc (.cells (nums .u8 wG 20).toArray 5 ((nums .u8 wG 20).toArray.size, (nums .u8 wG 20).toArray.size + 1))) := ⟨_, rfl⟩
  have HA : Hid (Has W0.heap.size 0 (nums .u8 wG 20) W1) := Lib.hid (hW ▸ has_marked _ _ _ _)
  have hBx : Below W0.heap.size W0 W1 := hW ▸ Below.al (Below.refl _ _)
  rw [← hW]
  clear hW
  obtain ⟨A_, eA⟩ : ∃ X, X = W0.heap.size := ⟨_, rfl⟩
  rw [← eA] at HA ⊢
  clear eA
  have hB1 := Below.go hB0 hBx
  clear hBx hB0
  refine wpList_slN rfl 26 5 14 _ rfl .u8 [82, 101, 115, 101, 97, 114, 99, 104, 32, 71, 114, 111, 117, 112] (fun i => wG (20 + i)) Try.underlying26 (by kernel_rfl) (by kernel_rfl) rfl (by decide) (by decide) (by kernel_rfl) (by kernel_rfl) ?_
  refine wpList_conv rfl _ rfl rfl ?_
  obtain ⟨W2, hW⟩ : ∃ W, W = (W1.alloc (.cells (nums .u8 (fun i => wG (20 + i)) 14).toArray 5 ((nums .u8 (fun i => wG (20 + i)) 14).toArray.size, (nums .u8 (fun i => wG (20 + i)) 14).toArray.size + 1))) := ⟨_, rfl⟩
  have HBL : Hid (Has W1.heap.size 0 (nums .u8 (fun i => wG (20 + i)) 14) W2) := Lib.hid (hW ▸ has_marked _ _ _ _)
  have hBx : Below W1.heap.size W1 W2 := hW ▸ Below.al (Below.refl _ _)
  rw [← hW]
  clear hW
  obtain ⟨B_, eB⟩ : ∃ X, X = W1.heap.size := ⟨_, rfl⟩
  rw [← eB] at HBL ⊢
  clear eB
  have HA2 := Lib.hid (HA.out.later hBx)
  have hB2 := Below.go hB1 hBx
  clear hBx hB1 HA
  go_wp2_with (fail)
  obtain ⟨W3, hW⟩ : ∃ W, W = (W2.alloc (.cells #[.slice (some ⟨A_, 0, none⟩) 20 20, .slice (some ⟨B_, 0, none⟩) 14 14] 26)) := ⟨_, rfl⟩
  have HLs : Hid (Own W2.heap.size [.slice (some ⟨A_, 0, none⟩) 20 20, .slice (some ⟨B_, 0, none⟩) 14 14] W3) := Lib.hid (hW ▸ Own.newAt rfl)
  have hBx : Below W2.heap.size W2 W3 := hW ▸ Below.al (Below.refl _ _)
  rw [← hW]
  clear hW
  obtain ⟨L_, eL⟩ : ∃ X, X = W2.heap.size := ⟨_, rfl⟩
  rw [← eL] at HLs ⊢
  clear eL
  have hB3 := Below.go hB2 hBx
  have hP : Parts W3 (some ⟨L_, 0, none⟩) 2 wG wT := fun k hk => by
    have hk' : k = 0 ∨ k = 1 := by omega
    rcases hk' with rfl | rfl
    · refine ⟨L_, 0, some ⟨A_, 0, none⟩, 20, 20, rfl, HLs.out.lt, HLs.out.at 0 _ rfl, by decide, by decide, rfl, .inr ⟨A_, 0, rfl, ?_⟩⟩
      rw [nums_congr (g := wG) .u8 (fun j _ => by show wG (0 + j) = wG j; rw [Nat.zero_add])]
      exact HA2.out.later hBx
    · exact ⟨L_, 0, some ⟨B_, 0, none⟩, 14, 14, rfl, HLs.out.lt, HLs.out.at 1 _ rfl, by decide, by decide, rfl, .inr ⟨B_, 0, rfl, HBL.out.later hBx⟩⟩
  go_at_call 15
  refine (TG.out _ _ hP).mono ?_
  rintro e w5 ⟨rfl, hb⟩
  have hB4 := Below.go hB3 hb
  clear hBx hB2 hB3 hb hP HA2 HBL HLs
  go_wp2_with (fail)
  go_ret
  exact ⟨rfl, hB4⟩
end Go.Proofs.Ytbofihejegbfhaa
