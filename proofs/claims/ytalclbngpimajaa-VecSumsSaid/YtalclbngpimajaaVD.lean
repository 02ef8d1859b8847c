/- Package vec: what each call gives. -/
import Derived.Test.YtalclbngpimajaaVC
namespace Go.Proofs.Ytalclbngpimajaa
set_option linter.unusedVariables false
set_option maxRecDepth 2000
open Go.RowKit
attribute [local go_sem] setCell_twice setCell_pair

theorem below_of_eq {P : Program} {k : Nat} {ar : Array Value} {w : World} {v : Value} (h : Calls P k ar w fun e w' => e = .returned v ∧ w = w') : Calls P k ar w fun e w' => e = .returned v ∧ Below w.heap.size w w' :=
  h.mono fun _ _ ⟨a, b⟩ => ⟨a, b ▸ Below.refl _ _⟩

theorem pairAdd_any (x1 y1 z1 x2 y2 z2 : Int) (hx1 : in64 x1) (hy1 : in64 y1) (hz1 : in64 z1) (hx2 : in64 x2) (hy2 : in64 y2) (hz2 : in64 z2) (w : World) :
    Calls Try.prog 64 #[(.agg #[.int .i64 x1, .int .i64 y1, .int .i64 z1]), (.agg #[.int .i64 x2, .int .i64 y2, .int .i64 z2]), .func (.func 65) #[] #[]] w fun e w' => e = .returned (.agg #[.int .i64 (sat (x1 + x2)), .int .i64 (sat (y1 + y2)), .int .i64 (sat (z1 + z2))]) ∧ Below w.heap.size w w' :=
  pair_core 65 #[] x1 y1 z1 x2 y2 z2 _ _ _ w (fun _ _ => rfl) (fun wx _ => cAdd_any x1 x2 hx1 hx2 wx) (fun wx _ => cAdd_any y1 y2 hy1 hy2 wx) (fun wx _ => cAdd_any z1 z2 hz1 hz2 wx)

theorem pairTimes_any (x1 y1 z1 x2 y2 z2 : Int) (hx1 : in64 x1) (hy1 : in64 y1) (hz1 : in64 z1) (hx2 : in64 x2) (hy2 : in64 y2) (hz2 : in64 z2) (w : World) :
    Calls Try.prog 64 #[(.agg #[.int .i64 x1, .int .i64 y1, .int .i64 z1]), (.agg #[.int .i64 x2, .int .i64 y2, .int .i64 z2]), .func (.func 68) #[] #[]] w fun e w' => e = .returned (.agg #[.int .i64 (mulF x1 x2), .int .i64 (mulF y1 y2), .int .i64 (mulF z1 z2)]) ∧ Below w.heap.size w w' :=
  pair_core 68 #[] x1 y1 z1 x2 y2 z2 _ _ _ w (fun _ _ => rfl) (fun wx _ => cTimes_any x1 x2 hx1 hx2 wx) (fun wx _ => cTimes_any y1 y2 hy1 hy2 wx) (fun wx _ => cTimes_any z1 z2 hz1 hz2 wx)

theorem pairSub_any (x1 y1 z1 x2 y2 z2 : Int) (hx1 : in64 x1) (hy1 : in64 y1) (hz1 : in64 z1) (hx2 : in64 x2) (hy2 : in64 y2) (hz2 : in64 z2) (w : World) :
    Calls Try.prog 64 #[(.agg #[.int .i64 x1, .int .i64 y1, .int .i64 z1]), (.agg #[.int .i64 x2, .int .i64 y2, .int .i64 z2]), .func (.func 71) #[] #[]] w fun e w' => e = .returned (.agg #[.int .i64 (sat (x1 - x2)), .int .i64 (sat (y1 - y2)), .int .i64 (sat (z1 - z2))]) ∧ Below w.heap.size w w' :=
  pair_core 71 #[] x1 y1 z1 x2 y2 z2 _ _ _ w (fun _ _ => rfl) (fun wx _ => below_of_eq (FSub_any x1 x2 hx1.1 hx1.2 hx2.1 hx2.2 wx)) (fun wx _ => below_of_eq (FSub_any y1 y2 hy1.1 hy1.2 hy2.1 hy2.2 wx)) (fun wx _ => below_of_eq (FSub_any z1 z2 hz1.1 hz1.2 hz2.1 hz2.2 wx))

theorem pairLerp_any (x1 y1 z1 x2 y2 z2 t : Int) (b : Nat) (hx1 : in64 x1) (hy1 : in64 y1) (hz1 : in64 z1) (hx2 : in64 x2) (hy2 : in64 y2) (hz2 : in64 z2) (ht : in64 t) (w : World) (hb : b < w.heap.size) (hc : w.cell? ⟨b, 0, none⟩ = some (.int .i64 t)) :
    Calls Try.prog 64 #[(.agg #[.int .i64 x1, .int .i64 y1, .int .i64 z1]), (.agg #[.int .i64 x2, .int .i64 y2, .int .i64 z2]), .func (.func 76) #[] #[.pointer (some ⟨b, 0, none⟩)]] w fun e w' => e = .returned (.agg #[.int .i64 (lerpF x1 x2 t), .int .i64 (lerpF y1 y2 t), .int .i64 (lerpF z1 z2 t)]) ∧ Below w.heap.size w w' := by
  have lt : ∀ wx, Below w.heap.size w wx → b < wx.heap.size := fun wx h => by have := h.size; omega
  have cl : ∀ wx, Below w.heap.size w wx → wx.cell? ⟨b, 0, none⟩ = some (.int .i64 t) := fun wx h => by rw [h.cell (p := ⟨b, 0, none⟩) hb]; exact hc
  exact pair_core 76 #[.pointer (some ⟨b, 0, none⟩)] x1 y1 z1 x2 y2 z2 _ _ _ w (fun _ _ => rfl) (fun wx h => cLerp_any x1 x2 t b hx1 hx2 ht wx (lt wx h) (cl wx h)) (fun wx h => cLerp_any y1 y2 t b hy1 hy2 ht wx (lt wx h) (cl wx h)) (fun wx h => cLerp_any z1 z2 t b hz1 hz2 ht wx (lt wx h) (cl wx h))

theorem eachScale_any (x y z k : Int) (b : Nat) (hx : in64 x) (hy : in64 y) (hz : in64 z) (hk : in64 k) (w : World) (hb : b < w.heap.size) (hc : w.cell? ⟨b, 0, none⟩ = some (.int .i64 k)) :
    Calls Try.prog 73 #[.int .i64 x, .int .i64 y, .int .i64 z, .func (.func 74) #[] #[.pointer (some ⟨b, 0, none⟩)]] w fun e w' => e = .returned (.agg #[.int .i64 (mulF x k), .int .i64 (mulF y k), .int .i64 (mulF z k)]) ∧ Below w.heap.size w w' := by
  have lt : ∀ wx, Below w.heap.size w wx → b < wx.heap.size := fun wx h => by have := h.size; omega
  have cl : ∀ wx, Below w.heap.size w wx → wx.cell? ⟨b, 0, none⟩ = some (.int .i64 k) := fun wx h => by rw [h.cell (p := ⟨b, 0, none⟩) hb]; exact hc
  exact eachF_core 74 #[.pointer (some ⟨b, 0, none⟩)] x y z _ _ _ w (fun _ _ => rfl) (fun wx h => cScale_any x k b hx hk wx (lt wx h) (cl wx h)) (fun wx h => cScale_any y k b hy hk wx (lt wx h) (cl wx h)) (fun wx h => cScale_any z k b hz hk wx (lt wx h) (cl wx h))

theorem eachUnit_any (x y z n X Y Z : Int) (b : Nat) (w : World) (hb : b < w.heap.size) (hc : w.cell? ⟨b, 0, none⟩ = some (.int .i64 n))
    (fx : Hid (∀ w, Calls Try.prog 90 #[.int .i64 x, .int .i64 n] w fun e w' => e = .returned (.int .i64 X) ∧ Below w.heap.size w w'))
    (fy : Hid (∀ w, Calls Try.prog 90 #[.int .i64 y, .int .i64 n] w fun e w' => e = .returned (.int .i64 Y) ∧ Below w.heap.size w w'))
    (fz : Hid (∀ w, Calls Try.prog 90 #[.int .i64 z, .int .i64 n] w fun e w' => e = .returned (.int .i64 Z) ∧ Below w.heap.size w w')) :
    Calls Try.prog 73 #[.int .i64 x, .int .i64 y, .int .i64 z, .func (.func 89) #[] #[.pointer (some ⟨b, 0, none⟩)]] w fun e w' => e = .returned (.agg #[.int .i64 X, .int .i64 Y, .int .i64 Z]) ∧ Below w.heap.size w w' := by
  have lt : ∀ wx, Below w.heap.size w wx → b < wx.heap.size := fun wx h => by have := h.size; omega
  have cl : ∀ wx, Below w.heap.size w wx → wx.cell? ⟨b, 0, none⟩ = some (.int .i64 n) := fun wx h => by rw [h.cell (p := ⟨b, 0, none⟩) hb]; exact hc
  exact eachF_core 89 #[.pointer (some ⟨b, 0, none⟩)] x y z _ _ _ w (fun _ _ => rfl) (fun wx h => cUnit_any x n X b wx (lt wx h) (cl wx h) fx) (fun wx h => cUnit_any y n Y b wx (lt wx h) (cl wx h) fy) (fun wx h => cUnit_any z n Z b wx (lt wx h) (cl wx h) fz)

def absF (x : Int) : Int := if x < 0 then sat (-x) else x
theorem eachAbs_any (x y z : Int) (hx : in64 x) (hy : in64 y) (hz : in64 z) (w : World) :
    Calls Try.prog 73 #[.int .i64 x, .int .i64 y, .int .i64 z, .func (.func 42) #[] #[]] w fun e w' => e = .returned (.agg #[.int .i64 (absF x), .int .i64 (absF y), .int .i64 (absF z)]) ∧ Below w.heap.size w w' :=
  eachF_core 42 #[] x y z _ _ _ w (fun _ _ => rfl) (fun wx h => below_of_eq (FAbs_any x hx.1 hx.2 wx)) (fun wx h => below_of_eq (FAbs_any y hy.1 hy.2 wx)) (fun wx h => below_of_eq (FAbs_any z hz.1 hz.2 wx))

theorem eachOf_any (x y z : Int) (hx : in64 x) (hy : in64 y) (hz : in64 z) (w : World) :
    Calls Try.prog 79 #[.int .i64 x, .int .i64 y, .int .i64 z, .func (.func 80) #[] #[]] w fun e w' => e = .returned (.agg #[.int .i64 (sat (x * 4294967296)), .int .i64 (sat (y * 4294967296)), .int .i64 (sat (z * 4294967296))]) ∧ Below w.heap.size w w' :=
  eachI_core 80 #[] x y z _ _ _ w (fun _ _ => rfl) (fun wx h => FOf_any x hx.1 hx.2 wx) (fun wx h => FOf_any y hy.1 hy.2 wx) (fun wx h => FOf_any z hz.1 hz.2 wx)

/-- a place's part, kept within 2^30, as a Fix -/
def partF (n : Int) : Int := min (max n (-1073741824)) 1073741824
theorem partF_bd (n : Int) : -1073741824 ≤ partF n ∧ partF n ≤ 1073741824 := by unfold partF; omega
theorem cToward_any (n : Int) (w : World) :
    Calls Try.prog 92 #[.int .i64 n] w fun e w' => e = .returned (.int .i64 (partF n * 4294967296)) ∧ Below w.heap.size w w' := by
  have b := partF_bd n
  refine cToward_core n (partF n) _ w rfl ?_
  have h := fun w => FOf_any (partF n) (by omega) (by omega) w
  rw [sat_in (partF n * 4294967296) (by omega) (by omega)] at h
  exact h
theorem eachToward_any (x y z : Int) (w : World) :
    Calls Try.prog 79 #[.int .i64 x, .int .i64 y, .int .i64 z, .func (.func 92) #[] #[]] w fun e w' => e = .returned (.agg #[.int .i64 (partF x * 4294967296), .int .i64 (partF y * 4294967296), .int .i64 (partF z * 4294967296)]) ∧ Below w.heap.size w w' :=
  eachI_core 92 #[] x y z _ _ _ w (fun _ _ => rfl) (fun wx h => cToward_any x wx) (fun wx h => cToward_any y wx) (fun wx h => cToward_any z wx)

theorem VSub_core (x1 y1 z1 x2 y2 z2 X Y Z : Int) (w : World)
    (H : Hid (∀ w, Calls Try.prog 64 #[(.agg #[.int .i64 x1, .int .i64 y1, .int .i64 z1]), (.agg #[.int .i64 x2, .int .i64 y2, .int .i64 z2]), .func (.func 71) #[] #[]] w fun e w' => e = .returned (.agg #[.int .i64 X, .int .i64 Y, .int .i64 Z]) ∧ Below w.heap.size w w')) :
    Calls Try.prog 19 #[(.agg #[.int .i64 x1, .int .i64 y1, .int .i64 z1]), (.agg #[.int .i64 x2, .int .i64 y2, .int .i64 z2])] w fun e w' => e = .returned (.agg #[.int .i64 X, .int .i64 Y, .int .i64 Z]) ∧ Below w.heap.size w w' := by
  go_enter Try.func19, Try.ntmps19
  go_wp2_with (fail); go_at_call 64; refine (H.out _).mono ?_; rintro e w1 ⟨rfl, hb⟩
  have hB : Below w.heap.size w w1 := below_step (by repeat (first | exact Below.refl _ _ | assumption | refine below_drewN ?_ _ | refine Below.drew ?_ | refine Below.alloc ?_ (by first | omega | (simp; done) | (simp; omega)) _ | refine Below.setCell ?_ (by first | (simp; done) | (simp; omega)) _)) hb
  have hz : w.heap.size + 1 + 1 < w1.heap.size := (by have := hb.size; (try simp at this); omega)
  have c0 := hb.cell (p := ⟨w.heap.size + 1 + 1, 0, none⟩) (by first | omega | (simp; done) | (simp; omega))
  have g0 := hb.frozen (p := ⟨w.heap.size + 1 + 1, 0, none⟩) (by first | omega | (simp; done) | (simp; omega))
  have c1 := hb.cell (p := ⟨w.heap.size + 1 + 1, 1, none⟩) (by first | omega | (simp; done) | (simp; omega))
  have g1 := hb.frozen (p := ⟨w.heap.size + 1 + 1, 1, none⟩) (by first | omega | (simp; done) | (simp; omega))
  have c2 := hb.cell (p := ⟨w.heap.size + 1 + 1, 2, none⟩) (by first | omega | (simp; done) | (simp; omega))
  have g2 := hb.frozen (p := ⟨w.heap.size + 1 + 1, 2, none⟩) (by first | omega | (simp; done) | (simp; omega))
  simp [go_sem] at c0 g0 c1 g1 c2 g2
  clear hb
  go_wp2
  exact bodyPost_ret (v := (.agg #[.int .i64 X, .int .i64 Y, .int .i64 Z])) (by simp [results, Try.results19, go_sem, c0, c1, c2]) rfl ⟨rfl, (by repeat (first | exact Below.refl _ _ | assumption | refine below_drewN ?_ _ | refine Below.drew ?_ | refine Below.alloc ?_ (by first | omega | (simp; done) | (simp; omega)) _ | refine Below.setCell ?_ (by first | (simp; done) | (simp; omega)) _))⟩

theorem VScale_core (x1 y1 z1 k X Y Z : Int) (w : World)
    (H : Hid (∀ (w : World) (b : Nat), b < w.heap.size → w.cell? ⟨b, 0, none⟩ = some (.int .i64 k) → Calls Try.prog 73 #[.int .i64 x1, .int .i64 y1, .int .i64 z1, .func (.func 74) #[] #[.pointer (some ⟨b, 0, none⟩)]] w fun e w' => e = .returned (.agg #[.int .i64 X, .int .i64 Y, .int .i64 Z]) ∧ Below w.heap.size w w')) :
    Calls Try.prog 22 #[(.agg #[.int .i64 x1, .int .i64 y1, .int .i64 z1]), .int .i64 k] w fun e w' => e = .returned (.agg #[.int .i64 X, .int .i64 Y, .int .i64 Z]) ∧ Below w.heap.size w w' := by
  go_enter Try.func22, Try.ntmps22
  go_wp2_with (fail); go_at_call 73; refine (H.out _ _ (by simp) (by simp [go_sem])).mono ?_; rintro e w1 ⟨rfl, hb⟩
  have hB : Below w.heap.size w w1 := below_step (by repeat (first | exact Below.refl _ _ | assumption | refine below_drewN ?_ _ | refine Below.drew ?_ | refine Below.alloc ?_ (by first | omega | (simp; done) | (simp; omega)) _ | refine Below.setCell ?_ (by first | (simp; done) | (simp; omega)) _)) hb
  have hz : w.heap.size + 1 + 1 < w1.heap.size := (by have := hb.size; (try simp at this); omega)
  have c0 := hb.cell (p := ⟨w.heap.size + 1 + 1, 0, none⟩) (by first | omega | (simp; done) | (simp; omega))
  have g0 := hb.frozen (p := ⟨w.heap.size + 1 + 1, 0, none⟩) (by first | omega | (simp; done) | (simp; omega))
  have c1 := hb.cell (p := ⟨w.heap.size + 1 + 1, 1, none⟩) (by first | omega | (simp; done) | (simp; omega))
  have g1 := hb.frozen (p := ⟨w.heap.size + 1 + 1, 1, none⟩) (by first | omega | (simp; done) | (simp; omega))
  have c2 := hb.cell (p := ⟨w.heap.size + 1 + 1, 2, none⟩) (by first | omega | (simp; done) | (simp; omega))
  have g2 := hb.frozen (p := ⟨w.heap.size + 1 + 1, 2, none⟩) (by first | omega | (simp; done) | (simp; omega))
  simp [go_sem] at c0 g0 c1 g1 c2 g2
  clear hb
  go_wp2
  exact bodyPost_ret (v := (.agg #[.int .i64 X, .int .i64 Y, .int .i64 Z])) (by simp [results, Try.results22, go_sem, c0, c1, c2]) rfl ⟨rfl, (by repeat (first | exact Below.refl _ _ | assumption | refine below_drewN ?_ _ | refine Below.drew ?_ | refine Below.alloc ?_ (by first | omega | (simp; done) | (simp; omega)) _ | refine Below.setCell ?_ (by first | (simp; done) | (simp; omega)) _))⟩

theorem VLerp_core (x1 y1 z1 x2 y2 z2 k X Y Z : Int) (w : World)
    (H : Hid (∀ (w : World) (b : Nat), b < w.heap.size → w.cell? ⟨b, 0, none⟩ = some (.int .i64 k) → Calls Try.prog 64 #[(.agg #[.int .i64 x1, .int .i64 y1, .int .i64 z1]), (.agg #[.int .i64 x2, .int .i64 y2, .int .i64 z2]), .func (.func 76) #[] #[.pointer (some ⟨b, 0, none⟩)]] w fun e w' => e = .returned (.agg #[.int .i64 X, .int .i64 Y, .int .i64 Z]) ∧ Below w.heap.size w w')) :
    Calls Try.prog 24 #[(.agg #[.int .i64 x1, .int .i64 y1, .int .i64 z1]), (.agg #[.int .i64 x2, .int .i64 y2, .int .i64 z2]), .int .i64 k] w fun e w' => e = .returned (.agg #[.int .i64 X, .int .i64 Y, .int .i64 Z]) ∧ Below w.heap.size w w' := by
  go_enter Try.func24, Try.ntmps24
  go_wp2_with (fail); go_at_call 64; refine (H.out _ _ (by simp) (by simp [go_sem])).mono ?_; rintro e w1 ⟨rfl, hb⟩
  have hB : Below w.heap.size w w1 := below_step (by repeat (first | exact Below.refl _ _ | assumption | refine below_drewN ?_ _ | refine Below.drew ?_ | refine Below.alloc ?_ (by first | omega | (simp; done) | (simp; omega)) _ | refine Below.setCell ?_ (by first | (simp; done) | (simp; omega)) _)) hb
  have hz : w.heap.size + 1 + 1 + 1 < w1.heap.size := (by have := hb.size; (try simp at this); omega)
  have c0 := hb.cell (p := ⟨w.heap.size + 1 + 1 + 1, 0, none⟩) (by first | omega | (simp; done) | (simp; omega))
  have g0 := hb.frozen (p := ⟨w.heap.size + 1 + 1 + 1, 0, none⟩) (by first | omega | (simp; done) | (simp; omega))
  have c1 := hb.cell (p := ⟨w.heap.size + 1 + 1 + 1, 1, none⟩) (by first | omega | (simp; done) | (simp; omega))
  have g1 := hb.frozen (p := ⟨w.heap.size + 1 + 1 + 1, 1, none⟩) (by first | omega | (simp; done) | (simp; omega))
  have c2 := hb.cell (p := ⟨w.heap.size + 1 + 1 + 1, 2, none⟩) (by first | omega | (simp; done) | (simp; omega))
  have g2 := hb.frozen (p := ⟨w.heap.size + 1 + 1 + 1, 2, none⟩) (by first | omega | (simp; done) | (simp; omega))
  simp [go_sem] at c0 g0 c1 g1 c2 g2
  clear hb
  go_wp2
  exact bodyPost_ret (v := (.agg #[.int .i64 X, .int .i64 Y, .int .i64 Z])) (by simp [results, Try.results24, go_sem, c0, c1, c2]) rfl ⟨rfl, (by repeat (first | exact Below.refl _ _ | assumption | refine below_drewN ?_ _ | refine Below.drew ?_ | refine Below.alloc ?_ (by first | omega | (simp; done) | (simp; omega)) _ | refine Below.setCell ?_ (by first | (simp; done) | (simp; omega)) _))⟩

theorem VOf_core (x1 y1 z1 X Y Z : Int) (w : World)
    (H : Hid (∀ w, Calls Try.prog 79 #[.int .i64 x1, .int .i64 y1, .int .i64 z1, .func (.func 80) #[] #[]] w fun e w' => e = .returned (.agg #[.int .i64 X, .int .i64 Y, .int .i64 Z]) ∧ Below w.heap.size w w')) :
    Calls Try.prog 26 #[(.agg #[.int .i64 x1, .int .i64 y1, .int .i64 z1])] w fun e w' => e = .returned (.agg #[.int .i64 X, .int .i64 Y, .int .i64 Z]) ∧ Below w.heap.size w w' := by
  go_enter Try.func26, Try.ntmps26
  go_wp2_with (fail); go_at_call 79; refine (H.out _).mono ?_; rintro e w1 ⟨rfl, hb⟩
  have hB : Below w.heap.size w w1 := below_step (by repeat (first | exact Below.refl _ _ | assumption | refine below_drewN ?_ _ | refine Below.drew ?_ | refine Below.alloc ?_ (by first | omega | (simp; done) | (simp; omega)) _ | refine Below.setCell ?_ (by first | (simp; done) | (simp; omega)) _)) hb
  have hz : w.heap.size + 1 < w1.heap.size := (by have := hb.size; (try simp at this); omega)
  have c0 := hb.cell (p := ⟨w.heap.size + 1, 0, none⟩) (by first | omega | (simp; done) | (simp; omega))
  have g0 := hb.frozen (p := ⟨w.heap.size + 1, 0, none⟩) (by first | omega | (simp; done) | (simp; omega))
  have c1 := hb.cell (p := ⟨w.heap.size + 1, 1, none⟩) (by first | omega | (simp; done) | (simp; omega))
  have g1 := hb.frozen (p := ⟨w.heap.size + 1, 1, none⟩) (by first | omega | (simp; done) | (simp; omega))
  have c2 := hb.cell (p := ⟨w.heap.size + 1, 2, none⟩) (by first | omega | (simp; done) | (simp; omega))
  have g2 := hb.frozen (p := ⟨w.heap.size + 1, 2, none⟩) (by first | omega | (simp; done) | (simp; omega))
  simp [go_sem] at c0 g0 c1 g1 c2 g2
  clear hb
  go_wp2
  exact bodyPost_ret (v := (.agg #[.int .i64 X, .int .i64 Y, .int .i64 Z])) (by simp [results, Try.results26, go_sem, c0, c1, c2]) rfl ⟨rfl, (by repeat (first | exact Below.refl _ _ | assumption | refine below_drewN ?_ _ | refine Below.drew ?_ | refine Below.alloc ?_ (by first | omega | (simp; done) | (simp; omega)) _ | refine Below.setCell ?_ (by first | (simp; done) | (simp; omega)) _))⟩
end Go.Proofs.Ytalclbngpimajaa
