/- wide.Add: the sum from left to right. -/
import Derived.Test.YtgggngcgcpmkbaaWJ
import Derived.LoopTactic
namespace Go.Proofs.Ytgggngcgcpmkbaa
set_option linter.unusedVariables false
set_option maxRecDepth 2000
open Go.RowKit
attribute [local go_sem] setCell_twice setCell_pair

def inW (z : Int) : Bool := decide (-170141183460469231731687303715884105728 ≤ z ∧ z < 170141183460469231731687303715884105728)
theorem inW_iff (z : Int) : inW z = true ↔ (-170141183460469231731687303715884105728 ≤ z ∧ z < 170141183460469231731687303715884105728) := by unfold inW; exact decide_eq_true_iff
/-- the sum from left to right, as long as each partial one is a wide number -/
def addR : Int → List Int → Option Int
  | s, [] => some s
  | s, z :: l => if inW (s + z) then addR (s + z) l else none
/-- what Add tells -/
def addV : Option Int → Value
  | some s => .tuple #[(.agg #[.int .i64 (hi (s)), .int .u64 (lo (s))]), .bool true]
  | none => .tuple #[.agg #[.int .i64 0, .int .u64 0], .bool false]

theorem addR_step (s : Int) (zs : List Int) (k : Nat) (h : k < zs.length) : addR s (zs.drop k) = if inW (s + zs.getD k 0) then addR (s + zs.getD k 0) (zs.drop (k + 1)) else none := by
  rw [List.drop_eq_getElem_cons h, addR]
  have e : zs.getD k 0 = zs[k] := by simp [h]
  rw [e]

set_option maxHeartbeats 1000000 in
theorem Add_walk (blk off n cap : Nat) (zs : List Int) (R : Option Int) (hn : zs.length = n) (hN : n ≤ 4611686018427387904) (w : World) (hb : blk < w.heap.size)
    (bd : ∀ k, k < n → inW (zs.getD k 0) = true)
    (cells : ∀ k, k < n → w.cell? ⟨blk, off + k * 2, none⟩ = some (.int .i64 (hi (zs.getD k 0))) ∧ w.cell? ⟨blk, off + k * 2 + 1, none⟩ = some (.int .u64 (lo (zs.getD k 0))))
    (hR : addR 0 zs = R) :
    Calls Try.prog 38 #[.slice (some ⟨blk, off, none⟩) n cap] w fun e w' => e = .returned (addV R) ∧ Below w.heap.size w w' := by
  have BD := Lib.hid bd; clear bd
  have CL := Lib.hid cells; clear cells
  have HR := Lib.hid hR; clear hR
  have HN := Lib.hid hn; clear hn
  go_enter Try.func38, Try.ntmps38
  go_wp2
  go_loopw [8] (fun i wr => ∃ (k : Nat) (s : Int), k ≤ n ∧ i = .int .i64 k ∧ Hid (addR s (zs.drop k) = R) ∧ Hid (inW s = true) ∧ Below w.heap.size w wr ∧ w.heap.size < wr.heap.size ∧
    wr.cell? ⟨w.heap.size, 0, none⟩ = some (.int .i64 (hi s)) ∧ wr.cell? ⟨w.heap.size, 1, none⟩ = some (.int .u64 (lo s)) ∧ wr.frozen? ⟨w.heap.size, 0, none⟩ = false ∧ wr.frozen? ⟨w.heap.size, 1, none⟩ = false) (fun i _ => (n - (intOf i).toNat))
  case atStart => exact ⟨0, 0, by omega, rfl, HR.out, show inW 0 = true by decide, (by repeat (first | exact Below.refl _ _ | assumption | refine below_drewN ?_ _ | refine Below.drew ?_ | refine Below.alloc ?_ (by first | omega | (simp; done) | (simp; omega)) _ | refine Below.setCell ?_ (by first | (simp; done) | (simp; omega)) _)), by simp, by simp [go_sem]; rfl, by simp [go_sem]; rfl, by simp [go_sem], by simp [go_sem]⟩
  case round =>
    obtain ⟨k, s, hk, rfl, hs, hw, hB, hz, c0, c1, f0, f1⟩ := hrel
    by_cases hlt : k < n
    · have d0 := hB.cell (p := ⟨blk, off + k * 2, none⟩) (by simpa using hb)
      have d1 := hB.cell (p := ⟨blk, off + k * 2 + 1, none⟩) (by simpa using hb)
      rw [(CL.out k hlt).1] at d0
      rw [(CL.out k hlt).2] at d1
      have wz := BD.out k hlt
      have st := addR_step s zs k (by rw [HN.out]; exact hlt)
      rw [hs.out] at st
      generalize zs.getD k 0 = z at *
      have ws := (inW_iff s).1 hw.out
      have wz' := (inW_iff z).1 wz
      clear wz hs hw
      by_cases hin : inW (s + z) = true
      · rw [if_pos hin] at st
        have nx := Lib.hid st.symm
        have hin' := (inW_iff _).1 hin
        have pl := Lib.hid (fun w => plus_yes s z ws.1 ws.2 wz'.1 wz'.2 hin'.1 hin'.2 w)
        have HI := Lib.hid hin
        clear st hin hin' ws wz'
        go_wp2_with (go_at_call 82; go_must (refine (pl.out _).mono ?_; rintro e w1 ⟨rfl, hc⟩; have hzq : w.heap.size < w1.heap.size := (by have := hc.size; (try simp at this); omega); have c00q := hc.cell (p := ⟨w.heap.size, 0, none⟩) (by first | omega | (simp; done) | (simp; omega)); have f00q := hc.frozen (p := ⟨w.heap.size, 0, none⟩) (by first | omega | (simp; done) | (simp; omega)); have c01q := hc.cell (p := ⟨w.heap.size, 1, none⟩) (by first | omega | (simp; done) | (simp; omega)); have f01q := hc.frozen (p := ⟨w.heap.size, 1, none⟩) (by first | omega | (simp; done) | (simp; omega)); simp [go_sem, c0, c1, f0, f1, hz] at c00q f00q c01q f01q; have hbq' : Below w.heap.size w w1 := below_step (by repeat (first | exact Below.refl _ _ | assumption | refine below_drewN ?_ _ | refine Below.drew ?_ | refine Below.alloc ?_ (by first | omega | (simp; done) | (simp; omega)) _ | refine Below.setCell ?_ (by first | (simp; done) | (simp; omega)) _)) hc))
        go_roundw
        case rel => exact ⟨k + 1, s + z, by omega, by go_num, nx, HI, (by repeat (first | exact Below.refl _ _ | assumption | refine below_drewN ?_ _ | refine Below.drew ?_ | refine Below.alloc ?_ (by first | omega | (simp; done) | (simp; omega)) _ | refine Below.setCell ?_ (by first | (simp; done) | (simp; omega)) _)), by simpa using hzq, by simp [go_sem, c00q], by simp [go_sem, c01q], by simp [go_sem, f00q], by simp [go_sem, f01q]⟩
        case measure => simp [intOf]; omega
      · rw [if_neg hin] at st
        have hin' : ¬ _ := fun h => hin ((inW_iff _).2 h)
        have pl := Lib.hid (fun w => plus_no s z ws.1 ws.2 wz'.1 wz'.2 hin' w)
        have ST := Lib.hid st
        clear st hin hin' ws wz'
        go_wp2_with (go_at_call 82; refine (pl.out _).mono ?_; rintro e w1 ⟨rfl, hc⟩; have hzq : w.heap.size < w1.heap.size := (by have := hc.size; (try simp at this); omega); have c00q := hc.cell (p := ⟨w.heap.size, 0, none⟩) (by first | omega | (simp; done) | (simp; omega)); have f00q := hc.frozen (p := ⟨w.heap.size, 0, none⟩) (by first | omega | (simp; done) | (simp; omega)); have c01q := hc.cell (p := ⟨w.heap.size, 1, none⟩) (by first | omega | (simp; done) | (simp; omega)); have f01q := hc.frozen (p := ⟨w.heap.size, 1, none⟩) (by first | omega | (simp; done) | (simp; omega)); simp [go_sem, c0, c1, f0, f1, hz] at c00q f00q c01q f01q; have hbq' : Below w.heap.size w w1 := below_step (by repeat (first | exact Below.refl _ _ | assumption | refine below_drewN ?_ _ | refine Below.drew ?_ | refine Below.alloc ?_ (by first | omega | (simp; done) | (simp; omega)) _ | refine Below.setCell ?_ (by first | (simp; done) | (simp; omega)) _)) hc)
        refine bodyPost_ret (v := .tuple #[.agg #[.int .i64 0, .int .u64 0], .bool false]) (by simp [results, Try.results38, go_sem, c00q, c01q]) rfl ⟨?_, (by repeat (first | exact Below.refl _ _ | assumption | refine below_drewN ?_ _ | refine Below.drew ?_ | refine Below.alloc ?_ (by first | omega | (simp; done) | (simp; omega)) _ | refine Below.setCell ?_ (by first | (simp; done) | (simp; omega)) _))⟩
        rw [ST.out]; rfl
    · obtain rfl : k = n := by omega
      have he := hs.out
      rw [List.drop_eq_nil_of_le (by rw [HN.out]; exact Nat.le_refl _)] at he
      have HE := Lib.hid he
      clear he hs
      go_wp2
      refine bodyPost_ret (v := .tuple #[(.agg #[.int .i64 (hi (s)), .int .u64 (lo (s))]), .bool true]) (by simp [results, Try.results38, go_sem, c0, c1]) rfl ⟨?_, (by repeat (first | exact Below.refl _ _ | assumption | refine below_drewN ?_ _ | refine Below.drew ?_ | refine Below.alloc ?_ (by first | omega | (simp; done) | (simp; omega)) _ | refine Below.setCell ?_ (by first | (simp; done) | (simp; omega)) _))⟩
      rw [← HE.out]; rfl
end Go.Proofs.Ytgggngcgcpmkbaa
