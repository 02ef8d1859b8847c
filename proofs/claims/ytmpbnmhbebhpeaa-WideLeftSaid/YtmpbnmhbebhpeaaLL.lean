/- umbralaw01.WideLeft: the walk. -/
import Derived.Test.YtmpbnmhbebhpeaaWW
import Derived.Test.YtmpbnmhbebhpeaaWAdd
namespace Go.Proofs.Ytmpbnmhbebhpeaa
set_option linter.unusedVariables false
open Go.RowKit
attribute [local go_sem] setCell_twice setCell_pair
attribute [local go_sem ↓] eqW neqW

theorem Add_two (blk : Nat) (x y cap : Int) (c : Nat) (hx : inW x = true) (hy : inW y = true) (hs : inW (x + y) = true) (w : World) (hb : blk < w.heap.size)
    (c0 : w.cell? ⟨blk, 0, none⟩ = some (.int .i64 (hi x))) (c1 : w.cell? ⟨blk, 1, none⟩ = some (.int .u64 (lo x))) (c2 : w.cell? ⟨blk, 2, none⟩ = some (.int .i64 (hi y))) (c3 : w.cell? ⟨blk, 3, none⟩ = some (.int .u64 (lo y))) :
    Calls Try.prog 19 #[.slice (some ⟨blk, 0, none⟩) 2 c] w fun e w' => e = .returned (.tuple #[(.agg #[.int .i64 (hi (x + y)), .int .u64 (lo (x + y))]), .bool true]) ∧ Below w.heap.size w w' := by
  refine (Add_walk blk 0 2 c [x, y] (some (x + y)) rfl (by omega) w hb ?_ ?_ ?_).mono fun e w' h => h
  · intro k hk
    obtain rfl | rfl : k = 0 ∨ k = 1 := by omega
    · exact hx
    · exact hy
  · intro k hk
    obtain rfl | rfl : k = 0 ∨ k = 1 := by omega
    · exact ⟨c0, c1⟩
    · exact ⟨c2, c3⟩
  · simp [addR, hx, hs]

theorem Left_zero (h l : Int) (w : World) (a : Int) (h0 : -2147483648 ≤ h) (h1 : h ≤ 2147483647)
    (wk : Hid (∀ w, Calls Try.prog 18 #[] w fun e w' => e = .returned (.bool true) ∧ Below w.heap.size w w')) :
    Calls Try.prog 10 #[.int .i32 h, .int .u64 l, .int .i64 0] w fun e w' => e = .returned (.bool true) ∧ Below w.heap.size w w' := by
  go_enter Try.func10, Try.ntmps10
  go_wp2_with (first | (go_at_call 30; refine (Div_zero _ _ _).mono ?_; rintro e w1 ⟨rfl, hb⟩) | (go_at_call 18; refine (wk.out _).mono ?_; rintro e w3 ⟨rfl, hc⟩))
  have hb' : Below w.heap.size w w1 := below_step (by repeat (first | exact Below.refl _ _ | assumption | refine below_drewN ?_ _ | refine Below.drew ?_ | refine Below.alloc ?_ (by first | omega | (simp; done) | (simp; omega)) _ | refine Below.setCell ?_ (by first | (simp; done) | (simp; omega)) _)) hb
  have hs := hb'.size
  go_ret
  exact ⟨rfl, below_step (by repeat (first | exact Below.refl _ _ | assumption | refine below_drewN ?_ _ | refine Below.drew ?_ | refine Below.alloc ?_ (by first | omega | (simp; done) | (simp; omega)) _ | refine Below.setCell ?_ (by first | (simp; done) | (simp; omega)) _)) hc⟩

set_option maxHeartbeats 2000000 in
theorem Left_core (h l d r zh zl qh ql n : Int) (there : Bool) (w : World) (h0 : -2147483648 ≤ h) (h1 : h ≤ 2147483647)
    (hd : (d == 0) = false) (hp : 0 < d → 0 ≤ r ∧ r < d) (hm : d < 0 → d < r ∧ r ≤ 0)
    (dv : Hid (∀ w, Calls Try.prog 30 #[.agg #[.int .i64 h, .int .u64 l], .int .i64 d] w fun e w' => e = .returned (.tuple #[.agg #[.int .i64 qh, .int .u64 ql], .int .i64 r, .bool true]) ∧ Below w.heap.size w w'))
    (it : Hid (∀ w, Calls Try.prog 14 #[.agg #[.int .i64 qh, .int .u64 ql]] w fun e w' => e = .returned (.tuple #[.int .i64 n, .bool there]) ∧ Below w.heap.size w w'))
    (mh ml rh rl : Int)
    (mu : there = true → Hid (∀ w, Calls Try.prog 24 #[.int .i64 n, .int .i64 d] w fun e w' => e = .returned (.agg #[.int .i64 mh, .int .u64 ml]) ∧ Below w.heap.size w w'))
    (ofr : Hid (∀ w, Calls Try.prog 17 #[.int .i64 r] w fun e w' => e = .returned (.agg #[.int .i64 rh, .int .u64 rl]) ∧ Below w.heap.size w w'))
    (ad : there = true → Hid (∀ blk c w, blk < w.heap.size → w.cell? ⟨blk, 0, none⟩ = some (.int .i64 mh) → w.cell? ⟨blk, 1, none⟩ = some (.int .u64 ml) → w.cell? ⟨blk, 2, none⟩ = some (.int .i64 rh) → w.cell? ⟨blk, 3, none⟩ = some (.int .u64 rl) →
      Calls Try.prog 19 #[.slice (some ⟨blk, 0, none⟩) 2 c] w fun e w' => e = .returned (.tuple #[.agg #[.int .i64 h, .int .u64 l], .bool true]) ∧ Below w.heap.size w w'))
    (eq : eqB h l h l = true)
    (wk : Hid (∀ w, Calls Try.prog 18 #[] w fun e w' => e = .returned (.bool true) ∧ Below w.heap.size w w')) :
    Calls Try.prog 10 #[.int .i32 h, .int .u64 l, .int .i64 d] w fun e w' => e = .returned (.bool true) ∧ Below w.heap.size w w' := by
  have hd' : d ≠ 0 := by simpa using hd
  rcases Int.lt_or_gt_of_ne hd' with sd | sd
  all_goals
    first
    | (have t0 := (hm sd).1; have t1 := (hm sd).2)
    | (have t0 := (hp sd).1; have t1 := (hp sd).2)
    clear hp hm hd'
    cases there
    · clear mu ad
      go_enter Try.func10, Try.ntmps10
      go_wp2_with (first | (go_at_call 30; refine (dv.out _).mono ?_; rintro e w1 ⟨rfl, hb⟩; have hza : w.heap.size < w1.heap.size := (by have := hb.size; (try simp at this); omega); have c00a := hb.cell (p := ⟨w.heap.size, 0, none⟩) (by first | omega | (simp; done) | (simp; omega)); have f00a := hb.frozen (p := ⟨w.heap.size, 0, none⟩) (by first | omega | (simp; done) | (simp; omega)); have c01a := hb.cell (p := ⟨w.heap.size, 1, none⟩) (by first | omega | (simp; done) | (simp; omega)); have f01a := hb.frozen (p := ⟨w.heap.size, 1, none⟩) (by first | omega | (simp; done) | (simp; omega)); simp [go_sem] at c00a f00a c01a f01a; have hba' : Below w.heap.size w w1 := below_step (by repeat (first | exact Below.refl _ _ | assumption | refine below_drewN ?_ _ | refine Below.drew ?_ | refine Below.alloc ?_ (by first | omega | (simp; done) | (simp; omega)) _ | refine Below.setCell ?_ (by first | (simp; done) | (simp; omega)) _)) hb) | (go_at_call 14; refine (it.out _).mono ?_; rintro e w2 ⟨rfl, hc⟩; have hzb : w.heap.size < w2.heap.size := (by have := hc.size; (try simp at this); omega); have c00b := hc.cell (p := ⟨w.heap.size, 0, none⟩) (by first | omega | (simp; done) | (simp; omega)); have f00b := hc.frozen (p := ⟨w.heap.size, 0, none⟩) (by first | omega | (simp; done) | (simp; omega)); have c01b := hc.cell (p := ⟨w.heap.size, 1, none⟩) (by first | omega | (simp; done) | (simp; omega)); have f01b := hc.frozen (p := ⟨w.heap.size, 1, none⟩) (by first | omega | (simp; done) | (simp; omega)); simp [go_sem, c00a, c01a, f00a, f01a, hza] at c00b f00b c01b f01b; have hbb' : Below w.heap.size w w2 := below_step (by repeat (first | exact Below.refl _ _ | assumption | refine below_drewN ?_ _ | refine Below.drew ?_ | refine Below.alloc ?_ (by first | omega | (simp; done) | (simp; omega)) _ | refine Below.setCell ?_ (by first | (simp; done) | (simp; omega)) _)) hc) | (go_at_call 18; refine (wk.out _).mono ?_; rintro e w3 ⟨rfl, hf⟩))
      go_ret
      exact ⟨rfl, below_step hbb' hf⟩
    · have mu' := mu rfl
      have ad' := ad rfl
      clear mu ad
      go_enter Try.func10, Try.ntmps10
      go_wp2_with (first | (go_at_call 30; refine (dv.out _).mono ?_; rintro e w1 ⟨rfl, hb⟩; have hza : w.heap.size < w1.heap.size := (by have := hb.size; (try simp at this); omega); have c00a := hb.cell (p := ⟨w.heap.size, 0, none⟩) (by first | omega | (simp; done) | (simp; omega)); have f00a := hb.frozen (p := ⟨w.heap.size, 0, none⟩) (by first | omega | (simp; done) | (simp; omega)); have c01a := hb.cell (p := ⟨w.heap.size, 1, none⟩) (by first | omega | (simp; done) | (simp; omega)); have f01a := hb.frozen (p := ⟨w.heap.size, 1, none⟩) (by first | omega | (simp; done) | (simp; omega)); simp [go_sem] at c00a f00a c01a f01a; have hba' : Below w.heap.size w w1 := below_step (by repeat (first | exact Below.refl _ _ | assumption | refine below_drewN ?_ _ | refine Below.drew ?_ | refine Below.alloc ?_ (by first | omega | (simp; done) | (simp; omega)) _ | refine Below.setCell ?_ (by first | (simp; done) | (simp; omega)) _)) hb) | (go_at_call 14; refine (it.out _).mono ?_; rintro e w2 ⟨rfl, hc⟩; have hzb : w.heap.size < w2.heap.size := (by have := hc.size; (try simp at this); omega); have c00b := hc.cell (p := ⟨w.heap.size, 0, none⟩) (by first | omega | (simp; done) | (simp; omega)); have f00b := hc.frozen (p := ⟨w.heap.size, 0, none⟩) (by first | omega | (simp; done) | (simp; omega)); have c01b := hc.cell (p := ⟨w.heap.size, 1, none⟩) (by first | omega | (simp; done) | (simp; omega)); have f01b := hc.frozen (p := ⟨w.heap.size, 1, none⟩) (by first | omega | (simp; done) | (simp; omega)); simp [go_sem, c00a, c01a, f00a, f01a, hza] at c00b f00b c01b f01b; have hbb' : Below w.heap.size w w2 := below_step (by repeat (first | exact Below.refl _ _ | assumption | refine below_drewN ?_ _ | refine Below.drew ?_ | refine Below.alloc ?_ (by first | omega | (simp; done) | (simp; omega)) _ | refine Below.setCell ?_ (by first | (simp; done) | (simp; omega)) _)) hc) | (go_at_call 24; refine (mu'.out _).mono ?_; rintro e w3 ⟨rfl, hf⟩; have hzc : w.heap.size < w3.heap.size := (by have := hf.size; (try simp at this); omega); have c00c := hf.cell (p := ⟨w.heap.size, 0, none⟩) (by first | omega | (simp; done) | (simp; omega)); have f00c := hf.frozen (p := ⟨w.heap.size, 0, none⟩) (by first | omega | (simp; done) | (simp; omega)); have c01c := hf.cell (p := ⟨w.heap.size, 1, none⟩) (by first | omega | (simp; done) | (simp; omega)); have f01c := hf.frozen (p := ⟨w.heap.size, 1, none⟩) (by first | omega | (simp; done) | (simp; omega)); simp [go_sem, c00b, c01b, f00b, f01b] at c00c f00c c01c f01c; have hbc' : Below w.heap.size w w3 := below_step (by repeat (first | exact Below.refl _ _ | assumption | refine below_drewN ?_ _ | refine Below.drew ?_ | refine Below.alloc ?_ (by first | omega | (simp; done) | (simp; omega)) _ | refine Below.setCell ?_ (by first | (simp; done) | (simp; omega)) _)) hf) | (go_at_call 17; refine (ofr.out _).mono ?_; rintro e w4 ⟨rfl, hg⟩; have hzd : w.heap.size < w4.heap.size := (by have := hg.size; (try simp at this); omega); have c00d := hg.cell (p := ⟨w.heap.size, 0, none⟩) (by first | omega | (simp; done) | (simp; omega)); have f00d := hg.frozen (p := ⟨w.heap.size, 0, none⟩) (by first | omega | (simp; done) | (simp; omega)); have c01d := hg.cell (p := ⟨w.heap.size, 1, none⟩) (by first | omega | (simp; done) | (simp; omega)); have f01d := hg.frozen (p := ⟨w.heap.size, 1, none⟩) (by first | omega | (simp; done) | (simp; omega)); simp [go_sem, c00c, c01c, f00c, f01c] at c00d f00d c01d f01d; have hbd' : Below w.heap.size w w4 := below_step (by repeat (first | exact Below.refl _ _ | assumption | refine below_drewN ?_ _ | refine Below.drew ?_ | refine Below.alloc ?_ (by first | omega | (simp; done) | (simp; omega)) _ | refine Below.setCell ?_ (by first | (simp; done) | (simp; omega)) _)) hg) | (go_at_call 19; refine (ad'.out _ _ _ (by simp) (by simp [go_sem]) (by simp [go_sem]) (by simp [go_sem]) (by simp [go_sem])).mono ?_; rintro e w5 ⟨rfl, hi⟩; have hze : w.heap.size < w5.heap.size := (by have := hi.size; (try simp at this); omega); have c00e := hi.cell (p := ⟨w.heap.size, 0, none⟩) (by first | omega | (simp; done) | (simp; omega)); have f00e := hi.frozen (p := ⟨w.heap.size, 0, none⟩) (by first | omega | (simp; done) | (simp; omega)); have c01e := hi.cell (p := ⟨w.heap.size, 1, none⟩) (by first | omega | (simp; done) | (simp; omega)); have f01e := hi.frozen (p := ⟨w.heap.size, 1, none⟩) (by first | omega | (simp; done) | (simp; omega)); simp [go_sem, c00d, c01d, f00d, f01d, hzd] at c00e f00e c01e f01e; have hbe' : Below w.heap.size w w5 := below_step (by repeat (first | exact Below.refl _ _ | assumption | refine below_drewN ?_ _ | refine Below.drew ?_ | refine Below.alloc ?_ (by first | omega | (simp; done) | (simp; omega)) _ | refine Below.setCell ?_ (by first | (simp; done) | (simp; omega)) _)) hi) | (go_at_call 18; refine (wk.out _).mono ?_; rintro e w6 ⟨rfl, hj⟩))
      go_ret
      exact ⟨rfl, below_step (by repeat (first | exact Below.refl _ _ | assumption | refine below_drewN ?_ _ | refine Below.drew ?_ | refine Below.alloc ?_ (by first | omega | (simp; done) | (simp; omega)) _ | refine Below.setCell ?_ (by first | (simp; done) | (simp; omega)) _)) hj⟩
end Go.Proofs.Ytmpbnmhbebhpeaa
