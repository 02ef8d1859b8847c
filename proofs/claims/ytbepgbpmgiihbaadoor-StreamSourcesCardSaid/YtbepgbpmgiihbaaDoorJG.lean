/- stream: a Source's cells; New. -/
import Derived.Test.YtbepgbpmgiihbaaDoorJF
import Derived.Lib.Hide
import Derived.LoopN
import Derived.LoopTactic
import Derived.Deep.Onto
import Derived.Deep.WholeRow
namespace Go.Proofs.YtbepgbpmgiihbaaDoor
set_option linter.unusedVariables false
set_option maxRecDepth 2000
set_option linter.unusedSimpArgs false
open Go.RowKit
/-- the cells of the last block of a Source: where it is, its bytes, whether it is known -/
def lastL (s2 p2 q2 c2 : Int) (f : Nat → Int) (kn : Bool) : List Value := .int .u64 s2 :: .int .u32 p2 :: .int .u32 q2 :: .int .u32 c2 :: (nums .u8 f 64 ++ [.bool kn])
/-- the cells of a Source that New made -/
def srcL (sd p q s2 p2 q2 c2 : Int) (f : Nat → Int) (kn : Bool) : List Value := .int .u64 sd :: .int .u32 p :: .int .u32 q :: .int .u32 0 :: .bool true :: lastL s2 p2 q2 c2 f kn
theorem last_len (s2 p2 q2 c2 : Int) (f : Nat → Int) (kn : Bool) : (lastL s2 p2 q2 c2 f kn).length = 69 := by simp [lastL, nums_length]
theorem src_len (sd p q s2 p2 q2 c2 : Int) (f : Nat → Int) (kn : Bool) : (srcL sd p q s2 p2 q2 c2 f kn).length = 74 := by simp [srcL, last_len]
theorem last_one (s2 p2 q2 c2 : Int) (f : Nat → Int) (kn : Bool) : ∀ x ∈ lastL s2 p2 q2 c2 f kn, x.oneCell' = true := by
  intro x hx
  simp only [lastL, List.mem_cons, List.mem_append, List.not_mem_nil, or_false] at hx
  rcases hx with rfl | rfl | rfl | rfl | h | rfl
  · rfl
  · rfl
  · rfl
  · rfl
  · exact nums_one _ _ _ x h
  · rfl
theorem src_blk (sd p q s2 p2 q2 c2 : Int) (f : Nat → Int) (kn : Bool) {j : Nat} (h : j < 64) : (srcL sd p q s2 p2 q2 c2 f kn)[9 + j]? = some (.int .u8 (f j)) := by
  rw [show 9 + j = (((((((((j + 1) + 1) + 1) + 1) + 1) + 1) + 1) + 1) + 1) by omega]
  unfold srcL lastL
  simp only [List.getElem?_cons_succ]
  rw [List.getElem?_append_left (by rw [nums_length]; exact h), nums_at _ _ h]
theorem src_known (sd p q s2 p2 q2 c2 : Int) (f : Nat → Int) (kn : Bool) : (srcL sd p q s2 p2 q2 c2 f kn)[73]? = some (.bool kn) := by
  unfold srcL lastL
  simp only [List.getElem?_cons_succ]
  rw [List.getElem?_append_right (by rw [nums_length]; exact Nat.le_refl _), nums_length]
  rfl
theorem src_set (sd p q s2 p2 q2 c2 s3 p3 q3 c3 : Int) (f g : Nat → Int) (kn k3 : Bool) : over (srcL sd p q s2 p2 q2 c2 f kn) 5 (lastL s3 p3 q3 c3 g k3) = srcL sd p q s3 p3 q3 c3 g k3 := by
  unfold over
  rw [show (srcL sd p q s2 p2 q2 c2 f kn).drop (5 + (lastL s3 p3 q3 c3 g k3).length) = [] from List.drop_eq_nil_of_le (by rw [src_len, last_len]; decide)]
  simp [srcL]
/-- what a Source holds: nothing yet, or the block of a counter -/
def srcF (sd p q : Int) : Option Int → List Value
  | none => srcL sd p q 0 0 0 0 (fun _ => 0) false
  | some c => srcL sd p q sd p q c (blkF (keyF sd) c (nonF p q)) true
theorem own_last {B : Nat} {sd p q : Int} {oc : Option Int} {W : World} (c : Int) (h : Own B (srcF sd p q oc) W) :
    Own B (srcF sd p q (some c)) (W.setCells B 5 (lastL sd p q c (blkF (keyF sd) c (nonF p q)) true)) := by
  cases oc with
  | none =>
    have := Own.part (o := 5) (vs := lastL sd p q c (blkF (keyF sd) c (nonF p q)) true) h (by rw [last_len, srcF, src_len]; decide)
    rwa [srcF, src_set] at this
  | some c0 =>
    have := Own.part (o := 5) (vs := lastL sd p q c (blkF (keyF sd) c (nonF p q)) true) h (by rw [last_len, srcF, src_len]; decide)
    rwa [srcF, src_set] at this
theorem has_blk10 {B : Nat} {sd p q c : Int} {W : World} (h : Own B (srcF sd p q (some c)) W) : Has B 9 (nums .u8 (blkF (keyF sd) c (nonF p q)) 64) W := ⟨h.lt, fun j x hj => by
  have hj8 : j < 64 := by
    have := (List.getElem?_eq_some_iff.1 hj).1
    rwa [nums_length] at this
  rw [nums_at _ _ hj8] at hj
  rw [← hj]
  exact h.at (9 + j) _ (src_blk _ _ _ _ _ _ _ _ _ hj8)⟩
theorem store_last {P : Program} {w : World} {B : Nat} {sd p q : Int} {oc : Option Int} (s3 p3 q3 c3 : Int) (f : Nat → Int) (kn : Bool) (h : Own B (srcF sd p q oc) w) :
    (storeCells ⟨B, 5, none⟩ (lastL s3 p3 q3 c3 f kn)).run P w = .ok () (w.setCells B 5 (lastL s3 p3 q3 c3 f kn)) := by
  have hl : (srcF sd p q oc).length = 74 := by cases oc <;> exact src_len _ _ _ _ _ _ _ _ _
  exact run_storeCells_cells (P := P) B 5 (lastL s3 p3 q3 c3 f kn) 0 w (fun j hj => by simpa using (h.free (5 + j) (by rw [last_len] at hj; omega)).1) (fun j hj => by simpa using (h.free (5 + j) (by rw [last_len] at hj; omega)).2) (last_one _ _ _ _ _ _)

set_option maxHeartbeats 4000000 in
theorem New_any (sd pi sa : Int) (hs : in64u sd) (hp : inI pi) (hq : inI sa) (w : World) :
    Calls Tryd.prog 9 #[.int .u64 sd, .int .i64 pi, .int .i64 sa] w fun e w' => e = .returned (.pointer (some ⟨w.heap.size, 0, none⟩)) ∧ Below w.heap.size w w' ∧ Own w.heap.size (srcF sd (pi % 4294967296) (sa % 4294967296) none) w' := by
  have w1 : IntKind.u32.wrap pi = pi % 4294967296 := by rw [IntKind.wrap_u32']
  have w2 : IntKind.u32.wrap sa = sa % 4294967296 := by rw [IntKind.wrap_u32']
  generalize pi % 4294967296 = p at *
  generalize sa % 4294967296 = q at *
  go_enter Tryd.func9, Tryd.ntmps9
  go_upto_region 1 with fail
  refine wp_region_lit ?_
  refine wpList_move rfl _ rfl ?_
  refine wpList_move rfl _ rfl ?_
  refine wpList_val rfl (.int .u32 p) (by simp [go_sem, execOp, w1]) ?_
  refine wpList_move rfl _ rfl ?_
  refine wpList_val rfl (.int .u32 q) (by simp [go_sem, execOp, w2]) ?_
  refine wpList_val rfl (.agg #[.int .u64 sd, .int .u32 p, .int .u32 q, .int .u32 0]) (by kernel_rfl) ?_
  refine wpList_val rfl (.agg (srcF sd p q none).toArray) (by kernel_rfl) ?_
  go_wp2_with (fail)
  go_ret
  exact ⟨rfl, Below.al (Below.refl _ _), show Own w.heap.size (srcF sd p q none) (w.alloc (.cells (srcF sd p q none).toArray 39)) from Own.newAt (by simp)⟩
end Go.Proofs.YtbepgbpmgiihbaaDoor
