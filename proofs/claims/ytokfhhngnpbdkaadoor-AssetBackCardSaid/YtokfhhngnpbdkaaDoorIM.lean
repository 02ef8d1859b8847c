/- asset: encode. -/
import Derived.Test.YtokfhhngnpbdkaaDoorIL
import Derived.Test.YtokfhhngnpbdkaaDoorGA2
import Derived.Lib.Hide
import Derived.LoopN
import Derived.LoopTactic
import Derived.Deep.Onto
import Derived.Deep.RegionHeld3
import Derived.Deep.QuietTactic
import Derived.BigQuiet
import Derived.Great.BuildSlice
import Derived.StillTailTactics
import Derived.Lib.SliceRun
namespace Go.Proofs.YtokfhhngnpbdkaaDoor
set_option linter.unusedVariables false
set_option maxRecDepth 2000
set_option linter.unusedSimpArgs false
open Go.RowKit
attribute [local go_sem] setCell_self
theorem res_tct {P : Program} {fn : Func} {tmps : Array Value} {w : World} {p r s T : Nat} {a : Addr} {v u t : Value} (hf : fn.results = #[.tmp p, .cell r T, .tmp s]) (hp : tmps[p]?.getD undef = t) (ha : tmps[r]?.getD undef = .pointer (some a)) (hl : (loadVar T a).run P w = .ok v w) (hs : tmps[s]?.getD undef = u) : (results fn tmps).run P w = .ok (.tuple #[t, v, u]) w := by
  subst hs hp
  have hx : (asAddr (Value.pointer (some a))).run P w = .ok a w := by simp [asAddr]
  simp [results, hf, ha, hx, hl]
def isU8 : Value → Bool
  | .int .u8 _ => true
  | _ => false
theorem has_kinds {b o Q k : Nat} {cs ds vs : List Value} {W : World} (p : Value → Bool) (h : Has b o cs W) (hc : ∀ v ∈ cs, p v = true) (hQ : Own Q ds W) (hd : ∀ v ∈ ds, p v = false) (hl : k + vs.length ≤ ds.length) : Has b o cs (W.setCells Q k vs) where
  lt := by rw [size_setCells]; exact h.lt
  cell := by
    by_cases e : b = Q
    · subst e
      intro j v hv
      have h1 := h.cell j v hv
      by_cases q : o + j < ds.length
      · have h2 := hQ.at (o + j) _ (List.getElem?_eq_getElem q)
        rw [h1] at h2
        have h3 : v = ds[o + j] := by injection h2
        have h4 := hc v (List.mem_of_getElem? hv)
        have h5 := hd _ (List.getElem_mem q)
        rw [← h3, h4] at h5
        cases h5
      · rw [World.cell?_setCells_out b vs k W ⟨b, o + j, none⟩ (fun _ _ => .inr (by show k + vs.length ≤ o + j; omega))]
        exact h1
    · exact World.rangeAt_setCells_apart h.cell _ _ _ (.inl e)
theorem setCells_self {b : Nat} : ∀ (vs : List Value) (o : Nat) (w : World), (∀ j v, vs[j]? = some v → w.cell? ⟨b, o + j, none⟩ = some v) → w.setCells b o vs = w
  | [], _, _, _ => rfl
  | v :: vs, o, w, h => by
    have h0 := h 0 v rfl
    rw [Nat.add_zero] at h0
    show (w.setCell ⟨b, o, none⟩ v).setCells b (o + 1) vs = w
    rw [setCell_self h0]
    exact setCells_self vs (o + 1) w (fun j u hu => by
      have := h (j + 1) u hu
      rwa [show o + (j + 1) = o + 1 + j by omega] at this)
theorem step_store_self {P : Program} {ops : Array Oper} {o : Oper} {a : Act} {w : World} {K : Act → World → Prop} {Q : Exit → Act → World → Prop} {E : Prop}
    (hg : Region.wanted o (yielded ops a.tmps) = true) (ty : TypeId) (x y : Operand) (ho : o.op = .store ty x y) (b : Nat) (cells : Array Value) (hx : a.eval x = .pointer (some ⟨b, 0, none⟩)) (hy : a.eval y = .agg cells)
    (hO : Own b cells.toList w) (hi : (P.info? ty).map (·.size) = some cells.size) (h1 : cells.all (·.oneCell') = true)
    (h : K (a.put o.dst undef) w) : if Region.wanted o (yielded ops a.tmps) = true then Oper.wp P o a w K Q else E := by
  refine step_store hg ty x y ho b 0 cells hx hy ?_ hi h1 ?_
  · have := hO.room (o := 0) (n := cells.size) (by simp)
    exact this
  · rw [setCells_self cells.toList 0 w (fun j v hv => by rw [Nat.zero_add]; exact hO.at j v hv)]
    exact h
theorem nums_u8 (f : Nat → Int) (n : Nat) : ∀ v ∈ nums .u8 f n, isU8 v = true := by
  intro v hv
  unfold nums at hv
  obtain ⟨i, _, rfl⟩ := List.mem_map.1 hv
  rfl
theorem RowR.kinds {Q k n : Nat} {f : Nat → Int} {v : Value} {ds vs : List Value} {W : World} (h : RowR W v n f) (hQ : Own Q ds W) (hd : ds.all (fun v => !isU8 v) = true) (hl : k + vs.length ≤ ds.length) : RowR (W.setCells Q k vs) v n f := by
  obtain ⟨q, c, e, h1, h2, h3⟩ := h
  refine ⟨q, c, e, h1, h2, ?_⟩
  rcases h3 with h0 | ⟨b, o, e2, hh⟩
  · exact .inl h0
  · exact .inr ⟨b, o, e2, has_kinds isU8 hh (nums_u8 f n) hQ (fun v hv => by simpa using List.all_eq_true.1 hd v hv) hl⟩
set_option maxHeartbeats 16000000 in
theorem encode_1 (A : Ast) (w : World) (hA : AstAt A w) : Calls Tryd.prog 35 #[(.agg #[.int .i64 1, .slice A.M.qv A.M.nv A.M.cv, .slice A.M.qu A.M.nu A.M.cu, .slice A.M.qt A.M.nt A.M.ct, .int .i64 A.X.S, .slice A.X.q A.X.n A.X.c, .int .i64 (A.g 0), .int .i64 (A.g 1), .int .i64 (A.g 2), .int .i64 (A.g 3), .int .i64 (A.g 4), .int .i64 (A.l 0), .int .i64 (A.l 1), .int .i64 (A.l 2), .int .i64 (A.l 3), .int .i64 (A.l 4), .int .i64 (A.l 5), .int .i64 (A.l 6), .int .i64 (A.l 7), .int .i64 (A.l 8), .int .i64 (A.l 9), .int .i64 (A.l 10), .int .i64 (A.l 11), .int .i64 (A.l 12)])] w fun e w' => (∃ v, e = .returned (.tuple #[v, (.agg #[.int .i64 1, .slice none 0 0, .slice none 0 0, .slice none 0 0, .int .i64 A.X.S, .slice A.X.q A.X.n A.X.c, .int .i64 (A.g 0), .int .i64 (A.g 1), .int .i64 (A.g 2), .int .i64 (A.g 3), .int .i64 (A.g 4), .int .i64 (A.l 0), .int .i64 (A.l 1), .int .i64 (A.l 2), .int .i64 (A.l 3), .int .i64 (A.l 4), .int .i64 (A.l 5), .int .i64 (A.l 6), .int .i64 (A.l 7), .int .i64 (A.l 8), .int .i64 (A.l 9), .int .i64 (A.l 10), .int .i64 (A.l 11), .int .i64 (A.l 12)]), .int .i64 (chkM A.M)]) ∧ RowR w' v (encL (chkM A.M) (encN A.M.nv A.M.nu A.M.nt)) (encF A.M.nv A.M.nu A.M.nt A.M.V A.M.U A.M.R)) ∧ Below w.heap.size w w' := by
  have AQ : Hid (∀ W, Below w.heap.size w W → AstAt A W) := Lib.hid (fun W hb => hA.later hb)
  have AA := Lib.hid hA
  obtain ⟨z, ez⟩ : ∃ z, chkM A.M = z := ⟨_, rfl⟩
  have CON := Lib.hid (Encode_any A.M)
  rw [ez] at CON ⊢
  clear hA ez
  go_enter Tryd.func35, Tryd.ntmps35
  go_upto_region 1 with fail
  obtain ⟨W0, hW⟩ : ∃ W0, W0 = ((w.alloc (.cells #[.int .i64 1, .slice A.M.qv A.M.nv A.M.cv, .slice A.M.qu A.M.nu A.M.cu, .slice A.M.qt A.M.nt A.M.ct, .int .i64 A.X.S, .slice A.X.q A.X.n A.X.c, .int .i64 (A.g 0), .int .i64 (A.g 1), .int .i64 (A.g 2), .int .i64 (A.g 3), .int .i64 (A.g 4), .int .i64 (A.l 0), .int .i64 (A.l 1), .int .i64 (A.l 2), .int .i64 (A.l 3), .int .i64 (A.l 4), .int .i64 (A.l 5), .int .i64 (A.l 6), .int .i64 (A.l 7), .int .i64 (A.l 8), .int .i64 (A.l 9), .int .i64 (A.l 10), .int .i64 (A.l 11), .int .i64 (A.l 12)] 37)).alloc (.cells #[.int .i64 0, .slice none 0 0, .slice none 0 0, .slice none 0 0, .int .i64 0, .slice none 0 0, .int .i64 0, .int .i64 0, .int .i64 0, .int .i64 0, .int .i64 0, .int .i64 0, .int .i64 0, .int .i64 0, .int .i64 0, .int .i64 0, .int .i64 0, .int .i64 0, .int .i64 0, .int .i64 0, .int .i64 0, .int .i64 0, .int .i64 0, .int .i64 0] 37)) := ⟨_, rfl⟩
  have hB0 : Below w.heap.size w W0 := hW ▸ (Below.al (Below.al (Below.refl _ _)))
  have HP : Hid (Own w.heap.size ([.int .i64 1, .slice A.M.qv A.M.nv A.M.cv, .slice A.M.qu A.M.nu A.M.cu, .slice A.M.qt A.M.nt A.M.ct, .int .i64 A.X.S, .slice A.X.q A.X.n A.X.c, .int .i64 (A.g 0), .int .i64 (A.g 1), .int .i64 (A.g 2), .int .i64 (A.g 3), .int .i64 (A.g 4), .int .i64 (A.l 0), .int .i64 (A.l 1), .int .i64 (A.l 2), .int .i64 (A.l 3), .int .i64 (A.l 4), .int .i64 (A.l 5), .int .i64 (A.l 6), .int .i64 (A.l 7), .int .i64 (A.l 8), .int .i64 (A.l 9), .int .i64 (A.l 10), .int .i64 (A.l 11), .int .i64 (A.l 12)]) W0) := Lib.hid (hW ▸ (show Own w.heap.size ([.int .i64 1, .slice A.M.qv A.M.nv A.M.cv, .slice A.M.qu A.M.nu A.M.cu, .slice A.M.qt A.M.nt A.M.ct, .int .i64 A.X.S, .slice A.X.q A.X.n A.X.c, .int .i64 (A.g 0), .int .i64 (A.g 1), .int .i64 (A.g 2), .int .i64 (A.g 3), .int .i64 (A.g 4), .int .i64 (A.l 0), .int .i64 (A.l 1), .int .i64 (A.l 2), .int .i64 (A.l 3), .int .i64 (A.l 4), .int .i64 (A.l 5), .int .i64 (A.l 6), .int .i64 (A.l 7), .int .i64 (A.l 8), .int .i64 (A.l 9), .int .i64 (A.l 10), .int .i64 (A.l 11), .int .i64 (A.l 12)]) (w.alloc (.cells #[.int .i64 1, .slice A.M.qv A.M.nv A.M.cv, .slice A.M.qu A.M.nu A.M.cu, .slice A.M.qt A.M.nt A.M.ct, .int .i64 A.X.S, .slice A.X.q A.X.n A.X.c, .int .i64 (A.g 0), .int .i64 (A.g 1), .int .i64 (A.g 2), .int .i64 (A.g 3), .int .i64 (A.g 4), .int .i64 (A.l 0), .int .i64 (A.l 1), .int .i64 (A.l 2), .int .i64 (A.l 3), .int .i64 (A.l 4), .int .i64 (A.l 5), .int .i64 (A.l 6), .int .i64 (A.l 7), .int .i64 (A.l 8), .int .i64 (A.l 9), .int .i64 (A.l 10), .int .i64 (A.l 11), .int .i64 (A.l 12)] 37)) from Own.newAt (by simp)).alloc)
  have HQ : Hid (Own (w.heap.size + 1) ([.int .i64 0, .slice none 0 0, .slice none 0 0, .slice none 0 0, .int .i64 0, .slice none 0 0, .int .i64 0, .int .i64 0, .int .i64 0, .int .i64 0, .int .i64 0, .int .i64 0, .int .i64 0, .int .i64 0, .int .i64 0, .int .i64 0, .int .i64 0, .int .i64 0, .int .i64 0, .int .i64 0, .int .i64 0, .int .i64 0, .int .i64 0, .int .i64 0]) W0) := Lib.hid (hW ▸ (show Own (w.heap.size + 1) ([.int .i64 0, .slice none 0 0, .slice none 0 0, .slice none 0 0, .int .i64 0, .slice none 0 0, .int .i64 0, .int .i64 0, .int .i64 0, .int .i64 0, .int .i64 0, .int .i64 0, .int .i64 0, .int .i64 0, .int .i64 0, .int .i64 0, .int .i64 0, .int .i64 0, .int .i64 0, .int .i64 0, .int .i64 0, .int .i64 0, .int .i64 0, .int .i64 0]) ((w.alloc (.cells #[.int .i64 1, .slice A.M.qv A.M.nv A.M.cv, .slice A.M.qu A.M.nu A.M.cu, .slice A.M.qt A.M.nt A.M.ct, .int .i64 A.X.S, .slice A.X.q A.X.n A.X.c, .int .i64 (A.g 0), .int .i64 (A.g 1), .int .i64 (A.g 2), .int .i64 (A.g 3), .int .i64 (A.g 4), .int .i64 (A.l 0), .int .i64 (A.l 1), .int .i64 (A.l 2), .int .i64 (A.l 3), .int .i64 (A.l 4), .int .i64 (A.l 5), .int .i64 (A.l 6), .int .i64 (A.l 7), .int .i64 (A.l 8), .int .i64 (A.l 9), .int .i64 (A.l 10), .int .i64 (A.l 11), .int .i64 (A.l 12)] 37)).alloc (.cells #[.int .i64 0, .slice none 0 0, .slice none 0 0, .slice none 0 0, .int .i64 0, .slice none 0 0, .int .i64 0, .int .i64 0, .int .i64 0, .int .i64 0, .int .i64 0, .int .i64 0, .int .i64 0, .int .i64 0, .int .i64 0, .int .i64 0, .int .i64 0, .int .i64 0, .int .i64 0, .int .i64 0, .int .i64 0, .int .i64 0, .int .i64 0, .int .i64 0] 37)) from Own.newAt (by simp)))
  rw [← hW]
  clear hW
  obtain ⟨Q, eQ⟩ : ∃ X, X = (w.heap.size + 1) := ⟨_, rfl⟩
  rw [← eQ] at HQ ⊢
  have Qw : w.heap.size ≤ Q := by omega
  obtain ⟨P, eP⟩ : ∃ X, X = w.heap.size := ⟨_, rfl⟩
  rw [← eP] at HP ⊢
  have Pw : w.heap.size ≤ P := by omega
  have nPQ : P ≠ Q := by omega
  have nQP : Q ≠ P := by omega
  clear eP eQ
  have AA_ := Lib.hid (AA.out.later hB0)
  clear AA
  have AA := AA_
  clear AA_
  refine wp_region_lit ?_
  refine wpList_load_mid rfl 37 _ rfl P 0 rfl ([.int .i64 1, .slice A.M.qv A.M.nv A.M.cv, .slice A.M.qu A.M.nu A.M.cu, .slice A.M.qt A.M.nt A.M.ct, .int .i64 A.X.S, .slice A.X.q A.X.n A.X.c, .int .i64 (A.g 0), .int .i64 (A.g 1), .int .i64 (A.g 2), .int .i64 (A.g 3), .int .i64 (A.g 4), .int .i64 (A.l 0), .int .i64 (A.l 1), .int .i64 (A.l 2), .int .i64 (A.l 3), .int .i64 (A.l 4), .int .i64 (A.l 5), .int .i64 (A.l 6), .int .i64 (A.l 7), .int .i64 (A.l 8), .int .i64 (A.l 9), .int .i64 (A.l 10), .int .i64 (A.l 11), .int .i64 (A.l 12)]) _ HP.out.cell Tryd.underlying37 rfl (by kernel_rfl) ?_
  refine wpList_store_mid rfl 37 _ _ rfl Q 0 ([.int .i64 1, .slice A.M.qv A.M.nv A.M.cv, .slice A.M.qu A.M.nu A.M.cu, .slice A.M.qt A.M.nt A.M.ct, .int .i64 A.X.S, .slice A.X.q A.X.n A.X.c, .int .i64 (A.g 0), .int .i64 (A.g 1), .int .i64 (A.g 2), .int .i64 (A.g 3), .int .i64 (A.g 4), .int .i64 (A.l 0), .int .i64 (A.l 1), .int .i64 (A.l 2), .int .i64 (A.l 3), .int .i64 (A.l 4), .int .i64 (A.l 5), .int .i64 (A.l 6), .int .i64 (A.l 7), .int .i64 (A.l 8), .int .i64 (A.l 9), .int .i64 (A.l 10), .int .i64 (A.l 11), .int .i64 (A.l 12)]).toArray rfl rfl HQ.out.free (by kernel_rfl) (by simp [Value.oneCell']) ?_
  change wpList _ _ _ [] _ (W0.setCells Q 0 ([.int .i64 1, .slice A.M.qv A.M.nv A.M.cv, .slice A.M.qu A.M.nu A.M.cu, .slice A.M.qt A.M.nt A.M.ct, .int .i64 A.X.S, .slice A.X.q A.X.n A.X.c, .int .i64 (A.g 0), .int .i64 (A.g 1), .int .i64 (A.g 2), .int .i64 (A.g 3), .int .i64 (A.g 4), .int .i64 (A.l 0), .int .i64 (A.l 1), .int .i64 (A.l 2), .int .i64 (A.l 3), .int .i64 (A.l 4), .int .i64 (A.l 5), .int .i64 (A.l 6), .int .i64 (A.l 7), .int .i64 (A.l 8), .int .i64 (A.l 9), .int .i64 (A.l 10), .int .i64 (A.l 11), .int .i64 (A.l 12)]))
  have HQn : Hid (Own Q ([.int .i64 1, .slice A.M.qv A.M.nv A.M.cv, .slice A.M.qu A.M.nu A.M.cu, .slice A.M.qt A.M.nt A.M.ct, .int .i64 A.X.S, .slice A.X.q A.X.n A.X.c, .int .i64 (A.g 0), .int .i64 (A.g 1), .int .i64 (A.g 2), .int .i64 (A.g 3), .int .i64 (A.g 4), .int .i64 (A.l 0), .int .i64 (A.l 1), .int .i64 (A.l 2), .int .i64 (A.l 3), .int .i64 (A.l 4), .int .i64 (A.l 5), .int .i64 (A.l 6), .int .i64 (A.l 7), .int .i64 (A.l 8), .int .i64 (A.l 9), .int .i64 (A.l 10), .int .i64 (A.l 11), .int .i64 (A.l 12)]) (W0.setCells Q 0 ([.int .i64 1, .slice A.M.qv A.M.nv A.M.cv, .slice A.M.qu A.M.nu A.M.cu, .slice A.M.qt A.M.nt A.M.ct, .int .i64 A.X.S, .slice A.X.q A.X.n A.X.c, .int .i64 (A.g 0), .int .i64 (A.g 1), .int .i64 (A.g 2), .int .i64 (A.g 3), .int .i64 (A.g 4), .int .i64 (A.l 0), .int .i64 (A.l 1), .int .i64 (A.l 2), .int .i64 (A.l 3), .int .i64 (A.l 4), .int .i64 (A.l 5), .int .i64 (A.l 6), .int .i64 (A.l 7), .int .i64 (A.l 8), .int .i64 (A.l 9), .int .i64 (A.l 10), .int .i64 (A.l 11), .int .i64 (A.l 12)]))) := Lib.hid (Own.store HQ.out rfl)
  have HPn : Hid (Own P ([.int .i64 1, .slice A.M.qv A.M.nv A.M.cv, .slice A.M.qu A.M.nu A.M.cu, .slice A.M.qt A.M.nt A.M.ct, .int .i64 A.X.S, .slice A.X.q A.X.n A.X.c, .int .i64 (A.g 0), .int .i64 (A.g 1), .int .i64 (A.g 2), .int .i64 (A.g 3), .int .i64 (A.g 4), .int .i64 (A.l 0), .int .i64 (A.l 1), .int .i64 (A.l 2), .int .i64 (A.l 3), .int .i64 (A.l 4), .int .i64 (A.l 5), .int .i64 (A.l 6), .int .i64 (A.l 7), .int .i64 (A.l 8), .int .i64 (A.l 9), .int .i64 (A.l 10), .int .i64 (A.l 11), .int .i64 (A.l 12)]) (W0.setCells Q 0 ([.int .i64 1, .slice A.M.qv A.M.nv A.M.cv, .slice A.M.qu A.M.nu A.M.cu, .slice A.M.qt A.M.nt A.M.ct, .int .i64 A.X.S, .slice A.X.q A.X.n A.X.c, .int .i64 (A.g 0), .int .i64 (A.g 1), .int .i64 (A.g 2), .int .i64 (A.g 3), .int .i64 (A.g 4), .int .i64 (A.l 0), .int .i64 (A.l 1), .int .i64 (A.l 2), .int .i64 (A.l 3), .int .i64 (A.l 4), .int .i64 (A.l 5), .int .i64 (A.l 6), .int .i64 (A.l 7), .int .i64 (A.l 8), .int .i64 (A.l 9), .int .i64 (A.l 10), .int .i64 (A.l 11), .int .i64 (A.l 12)]))) := Lib.hid (Own.far (o := 0) (vs := ([.int .i64 1, .slice A.M.qv A.M.nv A.M.cv, .slice A.M.qu A.M.nu A.M.cu, .slice A.M.qt A.M.nt A.M.ct, .int .i64 A.X.S, .slice A.X.q A.X.n A.X.c, .int .i64 (A.g 0), .int .i64 (A.g 1), .int .i64 (A.g 2), .int .i64 (A.g 3), .int .i64 (A.g 4), .int .i64 (A.l 0), .int .i64 (A.l 1), .int .i64 (A.l 2), .int .i64 (A.l 3), .int .i64 (A.l 4), .int .i64 (A.l 5), .int .i64 (A.l 6), .int .i64 (A.l 7), .int .i64 (A.l 8), .int .i64 (A.l 9), .int .i64 (A.l 10), .int .i64 (A.l 11), .int .i64 (A.l 12)])) HP.out nPQ)
  have hB0n : Below w.heap.size w (W0.setCells Q 0 ([.int .i64 1, .slice A.M.qv A.M.nv A.M.cv, .slice A.M.qu A.M.nu A.M.cu, .slice A.M.qt A.M.nt A.M.ct, .int .i64 A.X.S, .slice A.X.q A.X.n A.X.c, .int .i64 (A.g 0), .int .i64 (A.g 1), .int .i64 (A.g 2), .int .i64 (A.g 3), .int .i64 (A.g 4), .int .i64 (A.l 0), .int .i64 (A.l 1), .int .i64 (A.l 2), .int .i64 (A.l 3), .int .i64 (A.l 4), .int .i64 (A.l 5), .int .i64 (A.l 6), .int .i64 (A.l 7), .int .i64 (A.l 8), .int .i64 (A.l 9), .int .i64 (A.l 10), .int .i64 (A.l 11), .int .i64 (A.l 12)])) := Below.setCells hB0 Qw ([.int .i64 1, .slice A.M.qv A.M.nv A.M.cv, .slice A.M.qu A.M.nu A.M.cu, .slice A.M.qt A.M.nt A.M.ct, .int .i64 A.X.S, .slice A.X.q A.X.n A.X.c, .int .i64 (A.g 0), .int .i64 (A.g 1), .int .i64 (A.g 2), .int .i64 (A.g 3), .int .i64 (A.g 4), .int .i64 (A.l 0), .int .i64 (A.l 1), .int .i64 (A.l 2), .int .i64 (A.l 3), .int .i64 (A.l 4), .int .i64 (A.l 5), .int .i64 (A.l 6), .int .i64 (A.l 7), .int .i64 (A.l 8), .int .i64 (A.l 9), .int .i64 (A.l 10), .int .i64 (A.l 11), .int .i64 (A.l 12)]) 0
  clear HQ HP hB0
  generalize (W0.setCells Q 0 ([.int .i64 1, .slice A.M.qv A.M.nv A.M.cv, .slice A.M.qu A.M.nu A.M.cu, .slice A.M.qt A.M.nt A.M.ct, .int .i64 A.X.S, .slice A.X.q A.X.n A.X.c, .int .i64 (A.g 0), .int .i64 (A.g 1), .int .i64 (A.g 2), .int .i64 (A.g 3), .int .i64 (A.g 4), .int .i64 (A.l 0), .int .i64 (A.l 1), .int .i64 (A.l 2), .int .i64 (A.l 3), .int .i64 (A.l 4), .int .i64 (A.l 5), .int .i64 (A.l 6), .int .i64 (A.l 7), .int .i64 (A.l 8), .int .i64 (A.l 9), .int .i64 (A.l 10), .int .i64 (A.l 11), .int .i64 (A.l 12)])) = w1 at *
  have HQ := HQn
  clear HQn
  have HP := HPn
  clear HPn
  have hB0 := hB0n
  clear hB0n
  clear AA
  have AA := Lib.hid (AQ.out _ hB0)
  have oP := HP.out
  have P0 := oP.at 0 _ rfl
  have P1 := oP.at 1 _ rfl
  have P2 := oP.at 2 _ rfl
  have P3 := oP.at 3 _ rfl
  have P4 := oP.at 4 _ rfl
  have P5 := oP.at 5 _ rfl
  have P6 := oP.at 6 _ rfl
  have P7 := oP.at 7 _ rfl
  have P8 := oP.at 8 _ rfl
  have P9 := oP.at 9 _ rfl
  have P10 := oP.at 10 _ rfl
  have P11 := oP.at 11 _ rfl
  have P12 := oP.at 12 _ rfl
  have P13 := oP.at 13 _ rfl
  have P14 := oP.at 14 _ rfl
  have P15 := oP.at 15 _ rfl
  have P16 := oP.at 16 _ rfl
  have P17 := oP.at 17 _ rfl
  have P18 := oP.at 18 _ rfl
  have P19 := oP.at 19 _ rfl
  have P20 := oP.at 20 _ rfl
  have P21 := oP.at 21 _ rfl
  have P22 := oP.at 22 _ rfl
  have P23 := oP.at 23 _ rfl
  have Pl := oP.lt
  clear oP
  go_wp2_with (fail)
  clear P0 P1 P2 P3 P4 P5 P6 P7 P8 P9 P10 P11 P12 P13 P14 P15 P16 P17 P18 P19 P20 P21 P22 P23 Pl
  go_at_call 52
  refine (CON.out _ AA.out.m).mono ?_
  rintro e w2 ⟨⟨v, rfl, hr⟩, hb⟩
  have RR := Lib.hid hr
  have hB1 := Below.go hB0 hb
  have HQ_ := Lib.hid (HQ.out.later hb)
  clear hr hb HP HQ AA AQ hB0 CON
  have HQ := HQ_
  clear HQ_
  have oQ := HQ.out
  have Q0 := oQ.at 0 _ rfl
  have Qf0 := oQ.ok 0 (by simp)
  have Q1 := oQ.at 1 _ rfl
  have Qf1 := oQ.ok 1 (by simp)
  have Q2 := oQ.at 2 _ rfl
  have Qf2 := oQ.ok 2 (by simp)
  have Q3 := oQ.at 3 _ rfl
  have Qf3 := oQ.ok 3 (by simp)
  have Q4 := oQ.at 4 _ rfl
  have Qf4 := oQ.ok 4 (by simp)
  have Q5 := oQ.at 5 _ rfl
  have Qf5 := oQ.ok 5 (by simp)
  have Q6 := oQ.at 6 _ rfl
  have Qf6 := oQ.ok 6 (by simp)
  have Q7 := oQ.at 7 _ rfl
  have Qf7 := oQ.ok 7 (by simp)
  have Q8 := oQ.at 8 _ rfl
  have Qf8 := oQ.ok 8 (by simp)
  have Q9 := oQ.at 9 _ rfl
  have Qf9 := oQ.ok 9 (by simp)
  have Q10 := oQ.at 10 _ rfl
  have Qf10 := oQ.ok 10 (by simp)
  have Q11 := oQ.at 11 _ rfl
  have Qf11 := oQ.ok 11 (by simp)
  have Q12 := oQ.at 12 _ rfl
  have Qf12 := oQ.ok 12 (by simp)
  have Q13 := oQ.at 13 _ rfl
  have Qf13 := oQ.ok 13 (by simp)
  have Q14 := oQ.at 14 _ rfl
  have Qf14 := oQ.ok 14 (by simp)
  have Q15 := oQ.at 15 _ rfl
  have Qf15 := oQ.ok 15 (by simp)
  have Q16 := oQ.at 16 _ rfl
  have Qf16 := oQ.ok 16 (by simp)
  have Q17 := oQ.at 17 _ rfl
  have Qf17 := oQ.ok 17 (by simp)
  have Q18 := oQ.at 18 _ rfl
  have Qf18 := oQ.ok 18 (by simp)
  have Q19 := oQ.at 19 _ rfl
  have Qf19 := oQ.ok 19 (by simp)
  have Q20 := oQ.at 20 _ rfl
  have Qf20 := oQ.ok 20 (by simp)
  have Q21 := oQ.at 21 _ rfl
  have Qf21 := oQ.ok 21 (by simp)
  have Q22 := oQ.at 22 _ rfl
  have Qf22 := oQ.ok 22 (by simp)
  have Q23 := oQ.at 23 _ rfl
  have Qf23 := oQ.ok 23 (by simp)
  have Ql := oQ.lt
  clear oQ
  go_upto_region 16 with fail
  rw [show (((w2.setCell ⟨Q, 1, none⟩ (.slice none 0 0)).setCell ⟨Q, 2, none⟩ (.slice none 0 0)).setCell ⟨Q, 3, none⟩ (.slice none 0 0)) = w2.setCells Q 1 [.slice none 0 0, .slice none 0 0, .slice none 0 0] from rfl]
  have HQn : Hid (Own Q ([.int .i64 1, .slice none 0 0, .slice none 0 0, .slice none 0 0, .int .i64 A.X.S, .slice A.X.q A.X.n A.X.c, .int .i64 (A.g 0), .int .i64 (A.g 1), .int .i64 (A.g 2), .int .i64 (A.g 3), .int .i64 (A.g 4), .int .i64 (A.l 0), .int .i64 (A.l 1), .int .i64 (A.l 2), .int .i64 (A.l 3), .int .i64 (A.l 4), .int .i64 (A.l 5), .int .i64 (A.l 6), .int .i64 (A.l 7), .int .i64 (A.l 8), .int .i64 (A.l 9), .int .i64 (A.l 10), .int .i64 (A.l 11), .int .i64 (A.l 12)]) (w2.setCells Q 1 [.slice none 0 0, .slice none 0 0, .slice none 0 0])) := Lib.hid (show Own Q (over _ 1 [.slice none 0 0, .slice none 0 0, .slice none 0 0]) _ from Own.part HQ.out (by simp))
  have hB2 : Below w.heap.size w (w2.setCells Q 1 [.slice none 0 0, .slice none 0 0, .slice none 0 0]) := Below.setCells hB1 Qw [.slice none 0 0, .slice none 0 0, .slice none 0 0] 1
  have RRn : Hid (RowR (w2.setCells Q 1 [.slice none 0 0, .slice none 0 0, .slice none 0 0]) v (encL (z) (encN A.M.nv A.M.nu A.M.nt)) (encF A.M.nv A.M.nu A.M.nt A.M.V A.M.U A.M.R)) := Lib.hid (RowR.kinds RR.out HQ.out rfl (by simp))
  clear HQ RR hB1 Q0 Qf0 Q1 Qf1 Q2 Qf2 Q3 Qf3 Q4 Qf4 Q5 Qf5 Q6 Qf6 Q7 Qf7 Q8 Qf8 Q9 Qf9 Q10 Qf10 Q11 Qf11 Q12 Qf12 Q13 Qf13 Q14 Qf14 Q15 Qf15 Q16 Qf16 Q17 Qf17 Q18 Qf18 Q19 Qf19 Q20 Qf20 Q21 Qf21 Q22 Qf22 Q23 Qf23 Ql
  generalize w2.setCells Q 1 [.slice none 0 0, .slice none 0 0, .slice none 0 0] = w3 at *
  have SQ : Hid (Own Q ([.int .i64 1, .slice none 0 0, .slice none 0 0, .slice none 0 0, .int .i64 A.X.S, .slice A.X.q A.X.n A.X.c, .int .i64 (A.g 0), .int .i64 (A.g 1), .int .i64 (A.g 2), .int .i64 (A.g 3), .int .i64 (A.g 4), .int .i64 (A.l 0), .int .i64 (A.l 1), .int .i64 (A.l 2), .int .i64 (A.l 3), .int .i64 (A.l 4), .int .i64 (A.l 5), .int .i64 (A.l 6), .int .i64 (A.l 7), .int .i64 (A.l 8), .int .i64 (A.l 9), .int .i64 (A.l 10), .int .i64 (A.l 11), .int .i64 (A.l 12)]) w3.drew) := Lib.hid HQn.out.drew
  refine wp_region_held_drew (S := fun w' => w' = w3.drew) (by kernel_rfl) rfl (fun _ => ?_)
  refine wpAnyH_take (i := 0) (v := v) rfl (by kernel_rfl) (by kernel_rfl) (by kernel_rfl) (fun _ _ _ h => h) (Or.inl ⟨by rfl, fun w' hS => ?_⟩) rfl ?_
  · subst hS
    go_simp
  try simp only [Act.put, List.getElem_toArray, List.getElem_cons_zero, List.getElem_cons_succ, List.setIfInBounds_toArray, List.set_cons_zero, List.set_cons_succ]
  refine wpAnyH_take (i := 1) (v := .agg ([.int .i64 1, .slice none 0 0, .slice none 0 0, .slice none 0 0, .int .i64 A.X.S, .slice A.X.q A.X.n A.X.c, .int .i64 (A.g 0), .int .i64 (A.g 1), .int .i64 (A.g 2), .int .i64 (A.g 3), .int .i64 (A.g 4), .int .i64 (A.l 0), .int .i64 (A.l 1), .int .i64 (A.l 2), .int .i64 (A.l 3), .int .i64 (A.l 4), .int .i64 (A.l 5), .int .i64 (A.l 6), .int .i64 (A.l 7), .int .i64 (A.l 8), .int .i64 (A.l 9), .int .i64 (A.l 10), .int .i64 (A.l 11), .int .i64 (A.l 12)]).toArray) rfl (by kernel_rfl) (by kernel_rfl) (by kernel_rfl) (fun _ _ _ h => h) (yieldsIf_load_mid (by rfl) 37 _ rfl Q 0 rfl ([.int .i64 1, .slice none 0 0, .slice none 0 0, .slice none 0 0, .int .i64 A.X.S, .slice A.X.q A.X.n A.X.c, .int .i64 (A.g 0), .int .i64 (A.g 1), .int .i64 (A.g 2), .int .i64 (A.g 3), .int .i64 (A.g 4), .int .i64 (A.l 0), .int .i64 (A.l 1), .int .i64 (A.l 2), .int .i64 (A.l 3), .int .i64 (A.l 4), .int .i64 (A.l 5), .int .i64 (A.l 6), .int .i64 (A.l 7), .int .i64 (A.l 8), .int .i64 (A.l 9), .int .i64 (A.l 10), .int .i64 (A.l 11), .int .i64 (A.l 12)]) _ (fun w h => by rw [h]; exact SQ.out.cell) Tryd.underlying37 rfl (by kernel_rfl)) rfl ?_
  try simp only [Act.put, List.getElem_toArray, List.getElem_cons_zero, List.getElem_cons_succ, List.setIfInBounds_toArray, List.set_cons_zero, List.set_cons_succ]
  refine wpAnyH_take (i := 2) (v := .int .i64 z) rfl (by kernel_rfl) (by kernel_rfl) (by kernel_rfl) (fun _ _ _ h => h) (Or.inl ⟨by rfl, fun w' hS => ?_⟩) rfl ?_
  · subst hS
    go_simp
  try simp only [Act.put, List.getElem_toArray, List.getElem_cons_zero, List.getElem_cons_succ, List.setIfInBounds_toArray, List.set_cons_zero, List.set_cons_succ]
  refine wpAnyH_take (i := 3) (v := v) rfl (by kernel_rfl) (by kernel_rfl) (by kernel_rfl) (fun _ _ _ h => h) (Or.inl ⟨by rfl, fun w' hS => ?_⟩) rfl ?_
  · subst hS
    go_simp
  try simp only [Act.put, List.getElem_toArray, List.getElem_cons_zero, List.getElem_cons_succ, List.setIfInBounds_toArray, List.set_cons_zero, List.set_cons_succ]
  refine wpAnyH_ready (rs := [4]) (by kernel_rfl) (by simp) ?_
  refine AllReadyH.cons rfl (fun K hK => ?_) AllReadyH.nil
  refine step_store_self (by simp [Region.wanted]) 37 _ _ rfl Q #[.int .i64 1, .slice none 0 0, .slice none 0 0, .slice none 0 0, .int .i64 A.X.S, .slice A.X.q A.X.n A.X.c, .int .i64 (A.g 0), .int .i64 (A.g 1), .int .i64 (A.g 2), .int .i64 (A.g 3), .int .i64 (A.g 4), .int .i64 (A.l 0), .int .i64 (A.l 1), .int .i64 (A.l 2), .int .i64 (A.l 3), .int .i64 (A.l 4), .int .i64 (A.l 5), .int .i64 (A.l 6), .int .i64 (A.l 7), .int .i64 (A.l 8), .int .i64 (A.l 9), .int .i64 (A.l 10), .int .i64 (A.l 11), .int .i64 (A.l 12)] rfl rfl SQ.out (by kernel_rfl) (by simp [Value.oneCell']) ?_
  refine hK.out _ _ rfl (fun _ => ?_)
  clear hK K
  try simp only [Act.put, List.getElem_toArray, List.getElem_cons_zero, List.getElem_cons_succ, List.setIfInBounds_toArray, List.set_cons_zero, List.set_cons_succ]
  refine wpAnyH_take (i := 5) (v := .int .i64 z) rfl (by kernel_rfl) (by kernel_rfl) (by kernel_rfl) (fun _ _ _ h => h) (Or.inl ⟨by rfl, fun w' hS => ?_⟩) rfl ?_
  · subst hS
    go_simp
  try simp only [Act.put, List.getElem_toArray, List.getElem_cons_zero, List.getElem_cons_succ, List.setIfInBounds_toArray, List.set_cons_zero, List.set_cons_succ]
  refine wpAnyH_done (by kernel_rfl) ?_ _
  clear SQ
  have HQd := Lib.hid (HQn.out.drew); have hB3 := hB2.drew; have RRd := Lib.hid (RRn.out.later (Below.refl _ _).drew (Nat.le_refl _))
  clear HQn hB2 RRn
  generalize w3.drew = w4 at *
  go_wp2_with (fail)
  have hL := run_loadVar_mid (P := Tryd.prog) _ Q 0 37 ([.int .i64 1, .slice none 0 0, .slice none 0 0, .slice none 0 0, .int .i64 A.X.S, .slice A.X.q A.X.n A.X.c, .int .i64 (A.g 0), .int .i64 (A.g 1), .int .i64 (A.g 2), .int .i64 (A.g 3), .int .i64 (A.g 4), .int .i64 (A.l 0), .int .i64 (A.l 1), .int .i64 (A.l 2), .int .i64 (A.l 3), .int .i64 (A.l 4), .int .i64 (A.l 5), .int .i64 (A.l 6), .int .i64 (A.l 7), .int .i64 (A.l 8), .int .i64 (A.l 9), .int .i64 (A.l 10), .int .i64 (A.l 11), .int .i64 (A.l 12)]) _ HQd.out.cell Tryd.underlying37 rfl (by kernel_rfl)
  exact bodyPost_ret (v := .tuple #[v, .agg ([.int .i64 1, .slice none 0 0, .slice none 0 0, .slice none 0 0, .int .i64 A.X.S, .slice A.X.q A.X.n A.X.c, .int .i64 (A.g 0), .int .i64 (A.g 1), .int .i64 (A.g 2), .int .i64 (A.g 3), .int .i64 (A.g 4), .int .i64 (A.l 0), .int .i64 (A.l 1), .int .i64 (A.l 2), .int .i64 (A.l 3), .int .i64 (A.l 4), .int .i64 (A.l 5), .int .i64 (A.l 6), .int .i64 (A.l 7), .int .i64 (A.l 8), .int .i64 (A.l 9), .int .i64 (A.l 10), .int .i64 (A.l 11), .int .i64 (A.l 12)]).toArray, .int .i64 z]) (res_tct Tryd.results35 rfl rfl hL rfl) rfl ⟨⟨_, rfl, RRd.out⟩, hB3⟩
set_option maxHeartbeats 16000000 in
theorem encode_2 (A : Ast) (w : World) (hA : AstAt A w) : Calls Tryd.prog 35 #[(.agg #[.int .i64 2, .slice A.M.qv A.M.nv A.M.cv, .slice A.M.qu A.M.nu A.M.cu, .slice A.M.qt A.M.nt A.M.ct, .int .i64 A.X.S, .slice A.X.q A.X.n A.X.c, .int .i64 (A.g 0), .int .i64 (A.g 1), .int .i64 (A.g 2), .int .i64 (A.g 3), .int .i64 (A.g 4), .int .i64 (A.l 0), .int .i64 (A.l 1), .int .i64 (A.l 2), .int .i64 (A.l 3), .int .i64 (A.l 4), .int .i64 (A.l 5), .int .i64 (A.l 6), .int .i64 (A.l 7), .int .i64 (A.l 8), .int .i64 (A.l 9), .int .i64 (A.l 10), .int .i64 (A.l 11), .int .i64 (A.l 12)])] w fun e w' => (∃ v, e = .returned (.tuple #[v, (.agg #[.int .i64 2, .slice A.M.qv A.M.nv A.M.cv, .slice A.M.qu A.M.nu A.M.cu, .slice A.M.qt A.M.nt A.M.ct, .int .i64 0, .slice none 0 0, .int .i64 (A.g 0), .int .i64 (A.g 1), .int .i64 (A.g 2), .int .i64 (A.g 3), .int .i64 (A.g 4), .int .i64 (A.l 0), .int .i64 (A.l 1), .int .i64 (A.l 2), .int .i64 (A.l 3), .int .i64 (A.l 4), .int .i64 (A.l 5), .int .i64 (A.l 6), .int .i64 (A.l 7), .int .i64 (A.l 8), .int .i64 (A.l 9), .int .i64 (A.l 10), .int .i64 (A.l 11), .int .i64 (A.l 12)]), .int .i64 (chkT A.X.S A.X.n A.X.f)]) ∧ RowR w' v (encTL (chkT A.X.S A.X.n A.X.f) A.X.n) (encT A.X.S A.X.f)) ∧ Below w.heap.size w w' := by
  have AQ : Hid (∀ W, Below w.heap.size w W → AstAt A W) := Lib.hid (fun W hb => hA.later hb)
  have AA := Lib.hid hA
  obtain ⟨z, ez⟩ : ∃ z, chkT A.X.S A.X.n A.X.f = z := ⟨_, rfl⟩
  have CON := Lib.hid (tEncode_any A.X)
  rw [ez] at CON ⊢
  clear hA ez
  go_enter Tryd.func35, Tryd.ntmps35
  go_upto_region 1 with fail
  obtain ⟨W0, hW⟩ : ∃ W0, W0 = ((w.alloc (.cells #[.int .i64 2, .slice A.M.qv A.M.nv A.M.cv, .slice A.M.qu A.M.nu A.M.cu, .slice A.M.qt A.M.nt A.M.ct, .int .i64 A.X.S, .slice A.X.q A.X.n A.X.c, .int .i64 (A.g 0), .int .i64 (A.g 1), .int .i64 (A.g 2), .int .i64 (A.g 3), .int .i64 (A.g 4), .int .i64 (A.l 0), .int .i64 (A.l 1), .int .i64 (A.l 2), .int .i64 (A.l 3), .int .i64 (A.l 4), .int .i64 (A.l 5), .int .i64 (A.l 6), .int .i64 (A.l 7), .int .i64 (A.l 8), .int .i64 (A.l 9), .int .i64 (A.l 10), .int .i64 (A.l 11), .int .i64 (A.l 12)] 37)).alloc (.cells #[.int .i64 0, .slice none 0 0, .slice none 0 0, .slice none 0 0, .int .i64 0, .slice none 0 0, .int .i64 0, .int .i64 0, .int .i64 0, .int .i64 0, .int .i64 0, .int .i64 0, .int .i64 0, .int .i64 0, .int .i64 0, .int .i64 0, .int .i64 0, .int .i64 0, .int .i64 0, .int .i64 0, .int .i64 0, .int .i64 0, .int .i64 0, .int .i64 0] 37)) := ⟨_, rfl⟩
  have hB0 : Below w.heap.size w W0 := hW ▸ (Below.al (Below.al (Below.refl _ _)))
  have HP : Hid (Own w.heap.size ([.int .i64 2, .slice A.M.qv A.M.nv A.M.cv, .slice A.M.qu A.M.nu A.M.cu, .slice A.M.qt A.M.nt A.M.ct, .int .i64 A.X.S, .slice A.X.q A.X.n A.X.c, .int .i64 (A.g 0), .int .i64 (A.g 1), .int .i64 (A.g 2), .int .i64 (A.g 3), .int .i64 (A.g 4), .int .i64 (A.l 0), .int .i64 (A.l 1), .int .i64 (A.l 2), .int .i64 (A.l 3), .int .i64 (A.l 4), .int .i64 (A.l 5), .int .i64 (A.l 6), .int .i64 (A.l 7), .int .i64 (A.l 8), .int .i64 (A.l 9), .int .i64 (A.l 10), .int .i64 (A.l 11), .int .i64 (A.l 12)]) W0) := Lib.hid (hW ▸ (show Own w.heap.size ([.int .i64 2, .slice A.M.qv A.M.nv A.M.cv, .slice A.M.qu A.M.nu A.M.cu, .slice A.M.qt A.M.nt A.M.ct, .int .i64 A.X.S, .slice A.X.q A.X.n A.X.c, .int .i64 (A.g 0), .int .i64 (A.g 1), .int .i64 (A.g 2), .int .i64 (A.g 3), .int .i64 (A.g 4), .int .i64 (A.l 0), .int .i64 (A.l 1), .int .i64 (A.l 2), .int .i64 (A.l 3), .int .i64 (A.l 4), .int .i64 (A.l 5), .int .i64 (A.l 6), .int .i64 (A.l 7), .int .i64 (A.l 8), .int .i64 (A.l 9), .int .i64 (A.l 10), .int .i64 (A.l 11), .int .i64 (A.l 12)]) (w.alloc (.cells #[.int .i64 2, .slice A.M.qv A.M.nv A.M.cv, .slice A.M.qu A.M.nu A.M.cu, .slice A.M.qt A.M.nt A.M.ct, .int .i64 A.X.S, .slice A.X.q A.X.n A.X.c, .int .i64 (A.g 0), .int .i64 (A.g 1), .int .i64 (A.g 2), .int .i64 (A.g 3), .int .i64 (A.g 4), .int .i64 (A.l 0), .int .i64 (A.l 1), .int .i64 (A.l 2), .int .i64 (A.l 3), .int .i64 (A.l 4), .int .i64 (A.l 5), .int .i64 (A.l 6), .int .i64 (A.l 7), .int .i64 (A.l 8), .int .i64 (A.l 9), .int .i64 (A.l 10), .int .i64 (A.l 11), .int .i64 (A.l 12)] 37)) from Own.newAt (by simp)).alloc)
  have HQ : Hid (Own (w.heap.size + 1) ([.int .i64 0, .slice none 0 0, .slice none 0 0, .slice none 0 0, .int .i64 0, .slice none 0 0, .int .i64 0, .int .i64 0, .int .i64 0, .int .i64 0, .int .i64 0, .int .i64 0, .int .i64 0, .int .i64 0, .int .i64 0, .int .i64 0, .int .i64 0, .int .i64 0, .int .i64 0, .int .i64 0, .int .i64 0, .int .i64 0, .int .i64 0, .int .i64 0]) W0) := Lib.hid (hW ▸ (show Own (w.heap.size + 1) ([.int .i64 0, .slice none 0 0, .slice none 0 0, .slice none 0 0, .int .i64 0, .slice none 0 0, .int .i64 0, .int .i64 0, .int .i64 0, .int .i64 0, .int .i64 0, .int .i64 0, .int .i64 0, .int .i64 0, .int .i64 0, .int .i64 0, .int .i64 0, .int .i64 0, .int .i64 0, .int .i64 0, .int .i64 0, .int .i64 0, .int .i64 0, .int .i64 0]) ((w.alloc (.cells #[.int .i64 2, .slice A.M.qv A.M.nv A.M.cv, .slice A.M.qu A.M.nu A.M.cu, .slice A.M.qt A.M.nt A.M.ct, .int .i64 A.X.S, .slice A.X.q A.X.n A.X.c, .int .i64 (A.g 0), .int .i64 (A.g 1), .int .i64 (A.g 2), .int .i64 (A.g 3), .int .i64 (A.g 4), .int .i64 (A.l 0), .int .i64 (A.l 1), .int .i64 (A.l 2), .int .i64 (A.l 3), .int .i64 (A.l 4), .int .i64 (A.l 5), .int .i64 (A.l 6), .int .i64 (A.l 7), .int .i64 (A.l 8), .int .i64 (A.l 9), .int .i64 (A.l 10), .int .i64 (A.l 11), .int .i64 (A.l 12)] 37)).alloc (.cells #[.int .i64 0, .slice none 0 0, .slice none 0 0, .slice none 0 0, .int .i64 0, .slice none 0 0, .int .i64 0, .int .i64 0, .int .i64 0, .int .i64 0, .int .i64 0, .int .i64 0, .int .i64 0, .int .i64 0, .int .i64 0, .int .i64 0, .int .i64 0, .int .i64 0, .int .i64 0, .int .i64 0, .int .i64 0, .int .i64 0, .int .i64 0, .int .i64 0] 37)) from Own.newAt (by simp)))
  rw [← hW]
  clear hW
  obtain ⟨Q, eQ⟩ : ∃ X, X = (w.heap.size + 1) := ⟨_, rfl⟩
  rw [← eQ] at HQ ⊢
  have Qw : w.heap.size ≤ Q := by omega
  obtain ⟨P, eP⟩ : ∃ X, X = w.heap.size := ⟨_, rfl⟩
  rw [← eP] at HP ⊢
  have Pw : w.heap.size ≤ P := by omega
  have nPQ : P ≠ Q := by omega
  have nQP : Q ≠ P := by omega
  clear eP eQ
  have AA_ := Lib.hid (AA.out.later hB0)
  clear AA
  have AA := AA_
  clear AA_
  refine wp_region_lit ?_
  refine wpList_load_mid rfl 37 _ rfl P 0 rfl ([.int .i64 2, .slice A.M.qv A.M.nv A.M.cv, .slice A.M.qu A.M.nu A.M.cu, .slice A.M.qt A.M.nt A.M.ct, .int .i64 A.X.S, .slice A.X.q A.X.n A.X.c, .int .i64 (A.g 0), .int .i64 (A.g 1), .int .i64 (A.g 2), .int .i64 (A.g 3), .int .i64 (A.g 4), .int .i64 (A.l 0), .int .i64 (A.l 1), .int .i64 (A.l 2), .int .i64 (A.l 3), .int .i64 (A.l 4), .int .i64 (A.l 5), .int .i64 (A.l 6), .int .i64 (A.l 7), .int .i64 (A.l 8), .int .i64 (A.l 9), .int .i64 (A.l 10), .int .i64 (A.l 11), .int .i64 (A.l 12)]) _ HP.out.cell Tryd.underlying37 rfl (by kernel_rfl) ?_
  refine wpList_store_mid rfl 37 _ _ rfl Q 0 ([.int .i64 2, .slice A.M.qv A.M.nv A.M.cv, .slice A.M.qu A.M.nu A.M.cu, .slice A.M.qt A.M.nt A.M.ct, .int .i64 A.X.S, .slice A.X.q A.X.n A.X.c, .int .i64 (A.g 0), .int .i64 (A.g 1), .int .i64 (A.g 2), .int .i64 (A.g 3), .int .i64 (A.g 4), .int .i64 (A.l 0), .int .i64 (A.l 1), .int .i64 (A.l 2), .int .i64 (A.l 3), .int .i64 (A.l 4), .int .i64 (A.l 5), .int .i64 (A.l 6), .int .i64 (A.l 7), .int .i64 (A.l 8), .int .i64 (A.l 9), .int .i64 (A.l 10), .int .i64 (A.l 11), .int .i64 (A.l 12)]).toArray rfl rfl HQ.out.free (by kernel_rfl) (by simp [Value.oneCell']) ?_
  change wpList _ _ _ [] _ (W0.setCells Q 0 ([.int .i64 2, .slice A.M.qv A.M.nv A.M.cv, .slice A.M.qu A.M.nu A.M.cu, .slice A.M.qt A.M.nt A.M.ct, .int .i64 A.X.S, .slice A.X.q A.X.n A.X.c, .int .i64 (A.g 0), .int .i64 (A.g 1), .int .i64 (A.g 2), .int .i64 (A.g 3), .int .i64 (A.g 4), .int .i64 (A.l 0), .int .i64 (A.l 1), .int .i64 (A.l 2), .int .i64 (A.l 3), .int .i64 (A.l 4), .int .i64 (A.l 5), .int .i64 (A.l 6), .int .i64 (A.l 7), .int .i64 (A.l 8), .int .i64 (A.l 9), .int .i64 (A.l 10), .int .i64 (A.l 11), .int .i64 (A.l 12)]))
  have HQn : Hid (Own Q ([.int .i64 2, .slice A.M.qv A.M.nv A.M.cv, .slice A.M.qu A.M.nu A.M.cu, .slice A.M.qt A.M.nt A.M.ct, .int .i64 A.X.S, .slice A.X.q A.X.n A.X.c, .int .i64 (A.g 0), .int .i64 (A.g 1), .int .i64 (A.g 2), .int .i64 (A.g 3), .int .i64 (A.g 4), .int .i64 (A.l 0), .int .i64 (A.l 1), .int .i64 (A.l 2), .int .i64 (A.l 3), .int .i64 (A.l 4), .int .i64 (A.l 5), .int .i64 (A.l 6), .int .i64 (A.l 7), .int .i64 (A.l 8), .int .i64 (A.l 9), .int .i64 (A.l 10), .int .i64 (A.l 11), .int .i64 (A.l 12)]) (W0.setCells Q 0 ([.int .i64 2, .slice A.M.qv A.M.nv A.M.cv, .slice A.M.qu A.M.nu A.M.cu, .slice A.M.qt A.M.nt A.M.ct, .int .i64 A.X.S, .slice A.X.q A.X.n A.X.c, .int .i64 (A.g 0), .int .i64 (A.g 1), .int .i64 (A.g 2), .int .i64 (A.g 3), .int .i64 (A.g 4), .int .i64 (A.l 0), .int .i64 (A.l 1), .int .i64 (A.l 2), .int .i64 (A.l 3), .int .i64 (A.l 4), .int .i64 (A.l 5), .int .i64 (A.l 6), .int .i64 (A.l 7), .int .i64 (A.l 8), .int .i64 (A.l 9), .int .i64 (A.l 10), .int .i64 (A.l 11), .int .i64 (A.l 12)]))) := Lib.hid (Own.store HQ.out rfl)
  have HPn : Hid (Own P ([.int .i64 2, .slice A.M.qv A.M.nv A.M.cv, .slice A.M.qu A.M.nu A.M.cu, .slice A.M.qt A.M.nt A.M.ct, .int .i64 A.X.S, .slice A.X.q A.X.n A.X.c, .int .i64 (A.g 0), .int .i64 (A.g 1), .int .i64 (A.g 2), .int .i64 (A.g 3), .int .i64 (A.g 4), .int .i64 (A.l 0), .int .i64 (A.l 1), .int .i64 (A.l 2), .int .i64 (A.l 3), .int .i64 (A.l 4), .int .i64 (A.l 5), .int .i64 (A.l 6), .int .i64 (A.l 7), .int .i64 (A.l 8), .int .i64 (A.l 9), .int .i64 (A.l 10), .int .i64 (A.l 11), .int .i64 (A.l 12)]) (W0.setCells Q 0 ([.int .i64 2, .slice A.M.qv A.M.nv A.M.cv, .slice A.M.qu A.M.nu A.M.cu, .slice A.M.qt A.M.nt A.M.ct, .int .i64 A.X.S, .slice A.X.q A.X.n A.X.c, .int .i64 (A.g 0), .int .i64 (A.g 1), .int .i64 (A.g 2), .int .i64 (A.g 3), .int .i64 (A.g 4), .int .i64 (A.l 0), .int .i64 (A.l 1), .int .i64 (A.l 2), .int .i64 (A.l 3), .int .i64 (A.l 4), .int .i64 (A.l 5), .int .i64 (A.l 6), .int .i64 (A.l 7), .int .i64 (A.l 8), .int .i64 (A.l 9), .int .i64 (A.l 10), .int .i64 (A.l 11), .int .i64 (A.l 12)]))) := Lib.hid (Own.far (o := 0) (vs := ([.int .i64 2, .slice A.M.qv A.M.nv A.M.cv, .slice A.M.qu A.M.nu A.M.cu, .slice A.M.qt A.M.nt A.M.ct, .int .i64 A.X.S, .slice A.X.q A.X.n A.X.c, .int .i64 (A.g 0), .int .i64 (A.g 1), .int .i64 (A.g 2), .int .i64 (A.g 3), .int .i64 (A.g 4), .int .i64 (A.l 0), .int .i64 (A.l 1), .int .i64 (A.l 2), .int .i64 (A.l 3), .int .i64 (A.l 4), .int .i64 (A.l 5), .int .i64 (A.l 6), .int .i64 (A.l 7), .int .i64 (A.l 8), .int .i64 (A.l 9), .int .i64 (A.l 10), .int .i64 (A.l 11), .int .i64 (A.l 12)])) HP.out nPQ)
  have hB0n : Below w.heap.size w (W0.setCells Q 0 ([.int .i64 2, .slice A.M.qv A.M.nv A.M.cv, .slice A.M.qu A.M.nu A.M.cu, .slice A.M.qt A.M.nt A.M.ct, .int .i64 A.X.S, .slice A.X.q A.X.n A.X.c, .int .i64 (A.g 0), .int .i64 (A.g 1), .int .i64 (A.g 2), .int .i64 (A.g 3), .int .i64 (A.g 4), .int .i64 (A.l 0), .int .i64 (A.l 1), .int .i64 (A.l 2), .int .i64 (A.l 3), .int .i64 (A.l 4), .int .i64 (A.l 5), .int .i64 (A.l 6), .int .i64 (A.l 7), .int .i64 (A.l 8), .int .i64 (A.l 9), .int .i64 (A.l 10), .int .i64 (A.l 11), .int .i64 (A.l 12)])) := Below.setCells hB0 Qw ([.int .i64 2, .slice A.M.qv A.M.nv A.M.cv, .slice A.M.qu A.M.nu A.M.cu, .slice A.M.qt A.M.nt A.M.ct, .int .i64 A.X.S, .slice A.X.q A.X.n A.X.c, .int .i64 (A.g 0), .int .i64 (A.g 1), .int .i64 (A.g 2), .int .i64 (A.g 3), .int .i64 (A.g 4), .int .i64 (A.l 0), .int .i64 (A.l 1), .int .i64 (A.l 2), .int .i64 (A.l 3), .int .i64 (A.l 4), .int .i64 (A.l 5), .int .i64 (A.l 6), .int .i64 (A.l 7), .int .i64 (A.l 8), .int .i64 (A.l 9), .int .i64 (A.l 10), .int .i64 (A.l 11), .int .i64 (A.l 12)]) 0
  clear HQ HP hB0
  generalize (W0.setCells Q 0 ([.int .i64 2, .slice A.M.qv A.M.nv A.M.cv, .slice A.M.qu A.M.nu A.M.cu, .slice A.M.qt A.M.nt A.M.ct, .int .i64 A.X.S, .slice A.X.q A.X.n A.X.c, .int .i64 (A.g 0), .int .i64 (A.g 1), .int .i64 (A.g 2), .int .i64 (A.g 3), .int .i64 (A.g 4), .int .i64 (A.l 0), .int .i64 (A.l 1), .int .i64 (A.l 2), .int .i64 (A.l 3), .int .i64 (A.l 4), .int .i64 (A.l 5), .int .i64 (A.l 6), .int .i64 (A.l 7), .int .i64 (A.l 8), .int .i64 (A.l 9), .int .i64 (A.l 10), .int .i64 (A.l 11), .int .i64 (A.l 12)])) = w1 at *
  have HQ := HQn
  clear HQn
  have HP := HPn
  clear HPn
  have hB0 := hB0n
  clear hB0n
  clear AA
  have AA := Lib.hid (AQ.out _ hB0)
  have oP := HP.out
  have P0 := oP.at 0 _ rfl
  have P1 := oP.at 1 _ rfl
  have P2 := oP.at 2 _ rfl
  have P3 := oP.at 3 _ rfl
  have P4 := oP.at 4 _ rfl
  have P5 := oP.at 5 _ rfl
  have P6 := oP.at 6 _ rfl
  have P7 := oP.at 7 _ rfl
  have P8 := oP.at 8 _ rfl
  have P9 := oP.at 9 _ rfl
  have P10 := oP.at 10 _ rfl
  have P11 := oP.at 11 _ rfl
  have P12 := oP.at 12 _ rfl
  have P13 := oP.at 13 _ rfl
  have P14 := oP.at 14 _ rfl
  have P15 := oP.at 15 _ rfl
  have P16 := oP.at 16 _ rfl
  have P17 := oP.at 17 _ rfl
  have P18 := oP.at 18 _ rfl
  have P19 := oP.at 19 _ rfl
  have P20 := oP.at 20 _ rfl
  have P21 := oP.at 21 _ rfl
  have P22 := oP.at 22 _ rfl
  have P23 := oP.at 23 _ rfl
  have Pl := oP.lt
  clear oP
  go_wp2_with (fail)
  clear P0 P1 P2 P3 P4 P5 P6 P7 P8 P9 P10 P11 P12 P13 P14 P15 P16 P17 P18 P19 P20 P21 P22 P23 Pl
  go_at_call 53
  refine (CON.out _ AA.out.x).mono ?_
  rintro e w2 ⟨⟨v, rfl, hr⟩, hb⟩
  have RR := Lib.hid hr
  have hB1 := Below.go hB0 hb
  have HQ_ := Lib.hid (HQ.out.later hb)
  clear hr hb HP HQ AA AQ hB0 CON
  have HQ := HQ_
  clear HQ_
  have oQ := HQ.out
  have Q0 := oQ.at 0 _ rfl
  have Qf0 := oQ.ok 0 (by simp)
  have Q1 := oQ.at 1 _ rfl
  have Qf1 := oQ.ok 1 (by simp)
  have Q2 := oQ.at 2 _ rfl
  have Qf2 := oQ.ok 2 (by simp)
  have Q3 := oQ.at 3 _ rfl
  have Qf3 := oQ.ok 3 (by simp)
  have Q4 := oQ.at 4 _ rfl
  have Qf4 := oQ.ok 4 (by simp)
  have Q5 := oQ.at 5 _ rfl
  have Qf5 := oQ.ok 5 (by simp)
  have Q6 := oQ.at 6 _ rfl
  have Qf6 := oQ.ok 6 (by simp)
  have Q7 := oQ.at 7 _ rfl
  have Qf7 := oQ.ok 7 (by simp)
  have Q8 := oQ.at 8 _ rfl
  have Qf8 := oQ.ok 8 (by simp)
  have Q9 := oQ.at 9 _ rfl
  have Qf9 := oQ.ok 9 (by simp)
  have Q10 := oQ.at 10 _ rfl
  have Qf10 := oQ.ok 10 (by simp)
  have Q11 := oQ.at 11 _ rfl
  have Qf11 := oQ.ok 11 (by simp)
  have Q12 := oQ.at 12 _ rfl
  have Qf12 := oQ.ok 12 (by simp)
  have Q13 := oQ.at 13 _ rfl
  have Qf13 := oQ.ok 13 (by simp)
  have Q14 := oQ.at 14 _ rfl
  have Qf14 := oQ.ok 14 (by simp)
  have Q15 := oQ.at 15 _ rfl
  have Qf15 := oQ.ok 15 (by simp)
  have Q16 := oQ.at 16 _ rfl
  have Qf16 := oQ.ok 16 (by simp)
  have Q17 := oQ.at 17 _ rfl
  have Qf17 := oQ.ok 17 (by simp)
  have Q18 := oQ.at 18 _ rfl
  have Qf18 := oQ.ok 18 (by simp)
  have Q19 := oQ.at 19 _ rfl
  have Qf19 := oQ.ok 19 (by simp)
  have Q20 := oQ.at 20 _ rfl
  have Qf20 := oQ.ok 20 (by simp)
  have Q21 := oQ.at 21 _ rfl
  have Qf21 := oQ.ok 21 (by simp)
  have Q22 := oQ.at 22 _ rfl
  have Qf22 := oQ.ok 22 (by simp)
  have Q23 := oQ.at 23 _ rfl
  have Qf23 := oQ.ok 23 (by simp)
  have Ql := oQ.lt
  clear oQ
  go_upto_region 16 with fail
  rw [show ((w2.setCell ⟨Q, 4, none⟩ (.int .i64 0)).setCell ⟨Q, 5, none⟩ (.slice none 0 0)) = w2.setCells Q 4 [.int .i64 0, .slice none 0 0] from rfl]
  have HQn : Hid (Own Q ([.int .i64 2, .slice A.M.qv A.M.nv A.M.cv, .slice A.M.qu A.M.nu A.M.cu, .slice A.M.qt A.M.nt A.M.ct, .int .i64 0, .slice none 0 0, .int .i64 (A.g 0), .int .i64 (A.g 1), .int .i64 (A.g 2), .int .i64 (A.g 3), .int .i64 (A.g 4), .int .i64 (A.l 0), .int .i64 (A.l 1), .int .i64 (A.l 2), .int .i64 (A.l 3), .int .i64 (A.l 4), .int .i64 (A.l 5), .int .i64 (A.l 6), .int .i64 (A.l 7), .int .i64 (A.l 8), .int .i64 (A.l 9), .int .i64 (A.l 10), .int .i64 (A.l 11), .int .i64 (A.l 12)]) (w2.setCells Q 4 [.int .i64 0, .slice none 0 0])) := Lib.hid (show Own Q (over _ 4 [.int .i64 0, .slice none 0 0]) _ from Own.part HQ.out (by simp))
  have hB2 : Below w.heap.size w (w2.setCells Q 4 [.int .i64 0, .slice none 0 0]) := Below.setCells hB1 Qw [.int .i64 0, .slice none 0 0] 4
  have RRn : Hid (RowR (w2.setCells Q 4 [.int .i64 0, .slice none 0 0]) v (encTL (z) A.X.n) (encT A.X.S A.X.f)) := Lib.hid (RowR.kinds RR.out HQ.out rfl (by simp))
  clear HQ RR hB1 Q0 Qf0 Q1 Qf1 Q2 Qf2 Q3 Qf3 Q4 Qf4 Q5 Qf5 Q6 Qf6 Q7 Qf7 Q8 Qf8 Q9 Qf9 Q10 Qf10 Q11 Qf11 Q12 Qf12 Q13 Qf13 Q14 Qf14 Q15 Qf15 Q16 Qf16 Q17 Qf17 Q18 Qf18 Q19 Qf19 Q20 Qf20 Q21 Qf21 Q22 Qf22 Q23 Qf23 Ql
  generalize w2.setCells Q 4 [.int .i64 0, .slice none 0 0] = w3 at *
  have SQ : Hid (Own Q ([.int .i64 2, .slice A.M.qv A.M.nv A.M.cv, .slice A.M.qu A.M.nu A.M.cu, .slice A.M.qt A.M.nt A.M.ct, .int .i64 0, .slice none 0 0, .int .i64 (A.g 0), .int .i64 (A.g 1), .int .i64 (A.g 2), .int .i64 (A.g 3), .int .i64 (A.g 4), .int .i64 (A.l 0), .int .i64 (A.l 1), .int .i64 (A.l 2), .int .i64 (A.l 3), .int .i64 (A.l 4), .int .i64 (A.l 5), .int .i64 (A.l 6), .int .i64 (A.l 7), .int .i64 (A.l 8), .int .i64 (A.l 9), .int .i64 (A.l 10), .int .i64 (A.l 11), .int .i64 (A.l 12)]) w3.drew) := Lib.hid HQn.out.drew
  refine wp_region_held_drew (S := fun w' => w' = w3.drew) (by kernel_rfl) rfl (fun _ => ?_)
  refine wpAnyH_take (i := 0) (v := v) rfl (by kernel_rfl) (by kernel_rfl) (by kernel_rfl) (fun _ _ _ h => h) (Or.inl ⟨by rfl, fun w' hS => ?_⟩) rfl ?_
  · subst hS
    go_simp
  try simp only [Act.put, List.getElem_toArray, List.getElem_cons_zero, List.getElem_cons_succ, List.setIfInBounds_toArray, List.set_cons_zero, List.set_cons_succ]
  refine wpAnyH_take (i := 1) (v := .agg ([.int .i64 2, .slice A.M.qv A.M.nv A.M.cv, .slice A.M.qu A.M.nu A.M.cu, .slice A.M.qt A.M.nt A.M.ct, .int .i64 0, .slice none 0 0, .int .i64 (A.g 0), .int .i64 (A.g 1), .int .i64 (A.g 2), .int .i64 (A.g 3), .int .i64 (A.g 4), .int .i64 (A.l 0), .int .i64 (A.l 1), .int .i64 (A.l 2), .int .i64 (A.l 3), .int .i64 (A.l 4), .int .i64 (A.l 5), .int .i64 (A.l 6), .int .i64 (A.l 7), .int .i64 (A.l 8), .int .i64 (A.l 9), .int .i64 (A.l 10), .int .i64 (A.l 11), .int .i64 (A.l 12)]).toArray) rfl (by kernel_rfl) (by kernel_rfl) (by kernel_rfl) (fun _ _ _ h => h) (yieldsIf_load_mid (by rfl) 37 _ rfl Q 0 rfl ([.int .i64 2, .slice A.M.qv A.M.nv A.M.cv, .slice A.M.qu A.M.nu A.M.cu, .slice A.M.qt A.M.nt A.M.ct, .int .i64 0, .slice none 0 0, .int .i64 (A.g 0), .int .i64 (A.g 1), .int .i64 (A.g 2), .int .i64 (A.g 3), .int .i64 (A.g 4), .int .i64 (A.l 0), .int .i64 (A.l 1), .int .i64 (A.l 2), .int .i64 (A.l 3), .int .i64 (A.l 4), .int .i64 (A.l 5), .int .i64 (A.l 6), .int .i64 (A.l 7), .int .i64 (A.l 8), .int .i64 (A.l 9), .int .i64 (A.l 10), .int .i64 (A.l 11), .int .i64 (A.l 12)]) _ (fun w h => by rw [h]; exact SQ.out.cell) Tryd.underlying37 rfl (by kernel_rfl)) rfl ?_
  try simp only [Act.put, List.getElem_toArray, List.getElem_cons_zero, List.getElem_cons_succ, List.setIfInBounds_toArray, List.set_cons_zero, List.set_cons_succ]
  refine wpAnyH_take (i := 2) (v := .int .i64 z) rfl (by kernel_rfl) (by kernel_rfl) (by kernel_rfl) (fun _ _ _ h => h) (Or.inl ⟨by rfl, fun w' hS => ?_⟩) rfl ?_
  · subst hS
    go_simp
  try simp only [Act.put, List.getElem_toArray, List.getElem_cons_zero, List.getElem_cons_succ, List.setIfInBounds_toArray, List.set_cons_zero, List.set_cons_succ]
  refine wpAnyH_take (i := 3) (v := v) rfl (by kernel_rfl) (by kernel_rfl) (by kernel_rfl) (fun _ _ _ h => h) (Or.inl ⟨by rfl, fun w' hS => ?_⟩) rfl ?_
  · subst hS
    go_simp
  try simp only [Act.put, List.getElem_toArray, List.getElem_cons_zero, List.getElem_cons_succ, List.setIfInBounds_toArray, List.set_cons_zero, List.set_cons_succ]
  refine wpAnyH_ready (rs := [4]) (by kernel_rfl) (by simp) ?_
  refine AllReadyH.cons rfl (fun K hK => ?_) AllReadyH.nil
  refine step_store_self (by simp [Region.wanted]) 37 _ _ rfl Q #[.int .i64 2, .slice A.M.qv A.M.nv A.M.cv, .slice A.M.qu A.M.nu A.M.cu, .slice A.M.qt A.M.nt A.M.ct, .int .i64 0, .slice none 0 0, .int .i64 (A.g 0), .int .i64 (A.g 1), .int .i64 (A.g 2), .int .i64 (A.g 3), .int .i64 (A.g 4), .int .i64 (A.l 0), .int .i64 (A.l 1), .int .i64 (A.l 2), .int .i64 (A.l 3), .int .i64 (A.l 4), .int .i64 (A.l 5), .int .i64 (A.l 6), .int .i64 (A.l 7), .int .i64 (A.l 8), .int .i64 (A.l 9), .int .i64 (A.l 10), .int .i64 (A.l 11), .int .i64 (A.l 12)] rfl rfl SQ.out (by kernel_rfl) (by simp [Value.oneCell']) ?_
  refine hK.out _ _ rfl (fun _ => ?_)
  clear hK K
  try simp only [Act.put, List.getElem_toArray, List.getElem_cons_zero, List.getElem_cons_succ, List.setIfInBounds_toArray, List.set_cons_zero, List.set_cons_succ]
  refine wpAnyH_take (i := 5) (v := .int .i64 z) rfl (by kernel_rfl) (by kernel_rfl) (by kernel_rfl) (fun _ _ _ h => h) (Or.inl ⟨by rfl, fun w' hS => ?_⟩) rfl ?_
  · subst hS
    go_simp
  try simp only [Act.put, List.getElem_toArray, List.getElem_cons_zero, List.getElem_cons_succ, List.setIfInBounds_toArray, List.set_cons_zero, List.set_cons_succ]
  refine wpAnyH_done (by kernel_rfl) ?_ _
  clear SQ
  have HQd := Lib.hid (HQn.out.drew); have hB3 := hB2.drew; have RRd := Lib.hid (RRn.out.later (Below.refl _ _).drew (Nat.le_refl _))
  clear HQn hB2 RRn
  generalize w3.drew = w4 at *
  go_wp2_with (fail)
  have hL := run_loadVar_mid (P := Tryd.prog) _ Q 0 37 ([.int .i64 2, .slice A.M.qv A.M.nv A.M.cv, .slice A.M.qu A.M.nu A.M.cu, .slice A.M.qt A.M.nt A.M.ct, .int .i64 0, .slice none 0 0, .int .i64 (A.g 0), .int .i64 (A.g 1), .int .i64 (A.g 2), .int .i64 (A.g 3), .int .i64 (A.g 4), .int .i64 (A.l 0), .int .i64 (A.l 1), .int .i64 (A.l 2), .int .i64 (A.l 3), .int .i64 (A.l 4), .int .i64 (A.l 5), .int .i64 (A.l 6), .int .i64 (A.l 7), .int .i64 (A.l 8), .int .i64 (A.l 9), .int .i64 (A.l 10), .int .i64 (A.l 11), .int .i64 (A.l 12)]) _ HQd.out.cell Tryd.underlying37 rfl (by kernel_rfl)
  exact bodyPost_ret (v := .tuple #[v, .agg ([.int .i64 2, .slice A.M.qv A.M.nv A.M.cv, .slice A.M.qu A.M.nu A.M.cu, .slice A.M.qt A.M.nt A.M.ct, .int .i64 0, .slice none 0 0, .int .i64 (A.g 0), .int .i64 (A.g 1), .int .i64 (A.g 2), .int .i64 (A.g 3), .int .i64 (A.g 4), .int .i64 (A.l 0), .int .i64 (A.l 1), .int .i64 (A.l 2), .int .i64 (A.l 3), .int .i64 (A.l 4), .int .i64 (A.l 5), .int .i64 (A.l 6), .int .i64 (A.l 7), .int .i64 (A.l 8), .int .i64 (A.l 9), .int .i64 (A.l 10), .int .i64 (A.l 11), .int .i64 (A.l 12)]).toArray, .int .i64 z]) (res_tct Tryd.results35 rfl rfl hL rfl) rfl ⟨⟨_, rfl, RRd.out⟩, hB3⟩
set_option maxHeartbeats 16000000 in
theorem encode_3 (A : Ast) (w : World) (hA : AstAt A w) : Calls Tryd.prog 35 #[(.agg #[.int .i64 3, .slice A.M.qv A.M.nv A.M.cv, .slice A.M.qu A.M.nu A.M.cu, .slice A.M.qt A.M.nt A.M.ct, .int .i64 A.X.S, .slice A.X.q A.X.n A.X.c, .int .i64 (A.g 0), .int .i64 (A.g 1), .int .i64 (A.g 2), .int .i64 (A.g 3), .int .i64 (A.g 4), .int .i64 (A.l 0), .int .i64 (A.l 1), .int .i64 (A.l 2), .int .i64 (A.l 3), .int .i64 (A.l 4), .int .i64 (A.l 5), .int .i64 (A.l 6), .int .i64 (A.l 7), .int .i64 (A.l 8), .int .i64 (A.l 9), .int .i64 (A.l 10), .int .i64 (A.l 11), .int .i64 (A.l 12)])] w fun e w' => (∃ v, e = .returned (.tuple #[v, (.agg #[.int .i64 3, .slice A.M.qv A.M.nv A.M.cv, .slice A.M.qu A.M.nu A.M.cu, .slice A.M.qt A.M.nt A.M.ct, .int .i64 A.X.S, .slice A.X.q A.X.n A.X.c, .int .i64 0, .int .i64 0, .int .i64 0, .int .i64 0, .int .i64 0, .int .i64 (A.l 0), .int .i64 (A.l 1), .int .i64 (A.l 2), .int .i64 (A.l 3), .int .i64 (A.l 4), .int .i64 (A.l 5), .int .i64 (A.l 6), .int .i64 (A.l 7), .int .i64 (A.l 8), .int .i64 (A.l 9), .int .i64 (A.l 10), .int .i64 (A.l 11), .int .i64 (A.l 12)]), .int .i64 (chkG A.g)]) ∧ RowR w' v (encL (chkG A.g) 9) (encG A.g)) ∧ Below w.heap.size w w' := by
  have AQ : Hid (∀ W, Below w.heap.size w W → AstAt A W) := Lib.hid (fun W hb => hA.later hb)
  have AA := Lib.hid hA
  obtain ⟨z, ez⟩ : ∃ z, chkG A.g = z := ⟨_, rfl⟩
  have CON := Lib.hid (encMat_any A.g)
  rw [ez] at CON ⊢
  clear hA ez
  go_enter Tryd.func35, Tryd.ntmps35
  go_upto_region 1 with fail
  obtain ⟨W0, hW⟩ : ∃ W0, W0 = ((w.alloc (.cells #[.int .i64 3, .slice A.M.qv A.M.nv A.M.cv, .slice A.M.qu A.M.nu A.M.cu, .slice A.M.qt A.M.nt A.M.ct, .int .i64 A.X.S, .slice A.X.q A.X.n A.X.c, .int .i64 (A.g 0), .int .i64 (A.g 1), .int .i64 (A.g 2), .int .i64 (A.g 3), .int .i64 (A.g 4), .int .i64 (A.l 0), .int .i64 (A.l 1), .int .i64 (A.l 2), .int .i64 (A.l 3), .int .i64 (A.l 4), .int .i64 (A.l 5), .int .i64 (A.l 6), .int .i64 (A.l 7), .int .i64 (A.l 8), .int .i64 (A.l 9), .int .i64 (A.l 10), .int .i64 (A.l 11), .int .i64 (A.l 12)] 37)).alloc (.cells #[.int .i64 0, .slice none 0 0, .slice none 0 0, .slice none 0 0, .int .i64 0, .slice none 0 0, .int .i64 0, .int .i64 0, .int .i64 0, .int .i64 0, .int .i64 0, .int .i64 0, .int .i64 0, .int .i64 0, .int .i64 0, .int .i64 0, .int .i64 0, .int .i64 0, .int .i64 0, .int .i64 0, .int .i64 0, .int .i64 0, .int .i64 0, .int .i64 0] 37)) := ⟨_, rfl⟩
  have hB0 : Below w.heap.size w W0 := hW ▸ (Below.al (Below.al (Below.refl _ _)))
  have HP : Hid (Own w.heap.size ([.int .i64 3, .slice A.M.qv A.M.nv A.M.cv, .slice A.M.qu A.M.nu A.M.cu, .slice A.M.qt A.M.nt A.M.ct, .int .i64 A.X.S, .slice A.X.q A.X.n A.X.c, .int .i64 (A.g 0), .int .i64 (A.g 1), .int .i64 (A.g 2), .int .i64 (A.g 3), .int .i64 (A.g 4), .int .i64 (A.l 0), .int .i64 (A.l 1), .int .i64 (A.l 2), .int .i64 (A.l 3), .int .i64 (A.l 4), .int .i64 (A.l 5), .int .i64 (A.l 6), .int .i64 (A.l 7), .int .i64 (A.l 8), .int .i64 (A.l 9), .int .i64 (A.l 10), .int .i64 (A.l 11), .int .i64 (A.l 12)]) W0) := Lib.hid (hW ▸ (show Own w.heap.size ([.int .i64 3, .slice A.M.qv A.M.nv A.M.cv, .slice A.M.qu A.M.nu A.M.cu, .slice A.M.qt A.M.nt A.M.ct, .int .i64 A.X.S, .slice A.X.q A.X.n A.X.c, .int .i64 (A.g 0), .int .i64 (A.g 1), .int .i64 (A.g 2), .int .i64 (A.g 3), .int .i64 (A.g 4), .int .i64 (A.l 0), .int .i64 (A.l 1), .int .i64 (A.l 2), .int .i64 (A.l 3), .int .i64 (A.l 4), .int .i64 (A.l 5), .int .i64 (A.l 6), .int .i64 (A.l 7), .int .i64 (A.l 8), .int .i64 (A.l 9), .int .i64 (A.l 10), .int .i64 (A.l 11), .int .i64 (A.l 12)]) (w.alloc (.cells #[.int .i64 3, .slice A.M.qv A.M.nv A.M.cv, .slice A.M.qu A.M.nu A.M.cu, .slice A.M.qt A.M.nt A.M.ct, .int .i64 A.X.S, .slice A.X.q A.X.n A.X.c, .int .i64 (A.g 0), .int .i64 (A.g 1), .int .i64 (A.g 2), .int .i64 (A.g 3), .int .i64 (A.g 4), .int .i64 (A.l 0), .int .i64 (A.l 1), .int .i64 (A.l 2), .int .i64 (A.l 3), .int .i64 (A.l 4), .int .i64 (A.l 5), .int .i64 (A.l 6), .int .i64 (A.l 7), .int .i64 (A.l 8), .int .i64 (A.l 9), .int .i64 (A.l 10), .int .i64 (A.l 11), .int .i64 (A.l 12)] 37)) from Own.newAt (by simp)).alloc)
  have HQ : Hid (Own (w.heap.size + 1) ([.int .i64 0, .slice none 0 0, .slice none 0 0, .slice none 0 0, .int .i64 0, .slice none 0 0, .int .i64 0, .int .i64 0, .int .i64 0, .int .i64 0, .int .i64 0, .int .i64 0, .int .i64 0, .int .i64 0, .int .i64 0, .int .i64 0, .int .i64 0, .int .i64 0, .int .i64 0, .int .i64 0, .int .i64 0, .int .i64 0, .int .i64 0, .int .i64 0]) W0) := Lib.hid (hW ▸ (show Own (w.heap.size + 1) ([.int .i64 0, .slice none 0 0, .slice none 0 0, .slice none 0 0, .int .i64 0, .slice none 0 0, .int .i64 0, .int .i64 0, .int .i64 0, .int .i64 0, .int .i64 0, .int .i64 0, .int .i64 0, .int .i64 0, .int .i64 0, .int .i64 0, .int .i64 0, .int .i64 0, .int .i64 0, .int .i64 0, .int .i64 0, .int .i64 0, .int .i64 0, .int .i64 0]) ((w.alloc (.cells #[.int .i64 3, .slice A.M.qv A.M.nv A.M.cv, .slice A.M.qu A.M.nu A.M.cu, .slice A.M.qt A.M.nt A.M.ct, .int .i64 A.X.S, .slice A.X.q A.X.n A.X.c, .int .i64 (A.g 0), .int .i64 (A.g 1), .int .i64 (A.g 2), .int .i64 (A.g 3), .int .i64 (A.g 4), .int .i64 (A.l 0), .int .i64 (A.l 1), .int .i64 (A.l 2), .int .i64 (A.l 3), .int .i64 (A.l 4), .int .i64 (A.l 5), .int .i64 (A.l 6), .int .i64 (A.l 7), .int .i64 (A.l 8), .int .i64 (A.l 9), .int .i64 (A.l 10), .int .i64 (A.l 11), .int .i64 (A.l 12)] 37)).alloc (.cells #[.int .i64 0, .slice none 0 0, .slice none 0 0, .slice none 0 0, .int .i64 0, .slice none 0 0, .int .i64 0, .int .i64 0, .int .i64 0, .int .i64 0, .int .i64 0, .int .i64 0, .int .i64 0, .int .i64 0, .int .i64 0, .int .i64 0, .int .i64 0, .int .i64 0, .int .i64 0, .int .i64 0, .int .i64 0, .int .i64 0, .int .i64 0, .int .i64 0] 37)) from Own.newAt (by simp)))
  rw [← hW]
  clear hW
  obtain ⟨Q, eQ⟩ : ∃ X, X = (w.heap.size + 1) := ⟨_, rfl⟩
  rw [← eQ] at HQ ⊢
  have Qw : w.heap.size ≤ Q := by omega
  obtain ⟨P, eP⟩ : ∃ X, X = w.heap.size := ⟨_, rfl⟩
  rw [← eP] at HP ⊢
  have Pw : w.heap.size ≤ P := by omega
  have nPQ : P ≠ Q := by omega
  have nQP : Q ≠ P := by omega
  clear eP eQ
  have AA_ := Lib.hid (AA.out.later hB0)
  clear AA
  have AA := AA_
  clear AA_
  refine wp_region_lit ?_
  refine wpList_load_mid rfl 37 _ rfl P 0 rfl ([.int .i64 3, .slice A.M.qv A.M.nv A.M.cv, .slice A.M.qu A.M.nu A.M.cu, .slice A.M.qt A.M.nt A.M.ct, .int .i64 A.X.S, .slice A.X.q A.X.n A.X.c, .int .i64 (A.g 0), .int .i64 (A.g 1), .int .i64 (A.g 2), .int .i64 (A.g 3), .int .i64 (A.g 4), .int .i64 (A.l 0), .int .i64 (A.l 1), .int .i64 (A.l 2), .int .i64 (A.l 3), .int .i64 (A.l 4), .int .i64 (A.l 5), .int .i64 (A.l 6), .int .i64 (A.l 7), .int .i64 (A.l 8), .int .i64 (A.l 9), .int .i64 (A.l 10), .int .i64 (A.l 11), .int .i64 (A.l 12)]) _ HP.out.cell Tryd.underlying37 rfl (by kernel_rfl) ?_
  refine wpList_store_mid rfl 37 _ _ rfl Q 0 ([.int .i64 3, .slice A.M.qv A.M.nv A.M.cv, .slice A.M.qu A.M.nu A.M.cu, .slice A.M.qt A.M.nt A.M.ct, .int .i64 A.X.S, .slice A.X.q A.X.n A.X.c, .int .i64 (A.g 0), .int .i64 (A.g 1), .int .i64 (A.g 2), .int .i64 (A.g 3), .int .i64 (A.g 4), .int .i64 (A.l 0), .int .i64 (A.l 1), .int .i64 (A.l 2), .int .i64 (A.l 3), .int .i64 (A.l 4), .int .i64 (A.l 5), .int .i64 (A.l 6), .int .i64 (A.l 7), .int .i64 (A.l 8), .int .i64 (A.l 9), .int .i64 (A.l 10), .int .i64 (A.l 11), .int .i64 (A.l 12)]).toArray rfl rfl HQ.out.free (by kernel_rfl) (by simp [Value.oneCell']) ?_
  change wpList _ _ _ [] _ (W0.setCells Q 0 ([.int .i64 3, .slice A.M.qv A.M.nv A.M.cv, .slice A.M.qu A.M.nu A.M.cu, .slice A.M.qt A.M.nt A.M.ct, .int .i64 A.X.S, .slice A.X.q A.X.n A.X.c, .int .i64 (A.g 0), .int .i64 (A.g 1), .int .i64 (A.g 2), .int .i64 (A.g 3), .int .i64 (A.g 4), .int .i64 (A.l 0), .int .i64 (A.l 1), .int .i64 (A.l 2), .int .i64 (A.l 3), .int .i64 (A.l 4), .int .i64 (A.l 5), .int .i64 (A.l 6), .int .i64 (A.l 7), .int .i64 (A.l 8), .int .i64 (A.l 9), .int .i64 (A.l 10), .int .i64 (A.l 11), .int .i64 (A.l 12)]))
  have HQn : Hid (Own Q ([.int .i64 3, .slice A.M.qv A.M.nv A.M.cv, .slice A.M.qu A.M.nu A.M.cu, .slice A.M.qt A.M.nt A.M.ct, .int .i64 A.X.S, .slice A.X.q A.X.n A.X.c, .int .i64 (A.g 0), .int .i64 (A.g 1), .int .i64 (A.g 2), .int .i64 (A.g 3), .int .i64 (A.g 4), .int .i64 (A.l 0), .int .i64 (A.l 1), .int .i64 (A.l 2), .int .i64 (A.l 3), .int .i64 (A.l 4), .int .i64 (A.l 5), .int .i64 (A.l 6), .int .i64 (A.l 7), .int .i64 (A.l 8), .int .i64 (A.l 9), .int .i64 (A.l 10), .int .i64 (A.l 11), .int .i64 (A.l 12)]) (W0.setCells Q 0 ([.int .i64 3, .slice A.M.qv A.M.nv A.M.cv, .slice A.M.qu A.M.nu A.M.cu, .slice A.M.qt A.M.nt A.M.ct, .int .i64 A.X.S, .slice A.X.q A.X.n A.X.c, .int .i64 (A.g 0), .int .i64 (A.g 1), .int .i64 (A.g 2), .int .i64 (A.g 3), .int .i64 (A.g 4), .int .i64 (A.l 0), .int .i64 (A.l 1), .int .i64 (A.l 2), .int .i64 (A.l 3), .int .i64 (A.l 4), .int .i64 (A.l 5), .int .i64 (A.l 6), .int .i64 (A.l 7), .int .i64 (A.l 8), .int .i64 (A.l 9), .int .i64 (A.l 10), .int .i64 (A.l 11), .int .i64 (A.l 12)]))) := Lib.hid (Own.store HQ.out rfl)
  have HPn : Hid (Own P ([.int .i64 3, .slice A.M.qv A.M.nv A.M.cv, .slice A.M.qu A.M.nu A.M.cu, .slice A.M.qt A.M.nt A.M.ct, .int .i64 A.X.S, .slice A.X.q A.X.n A.X.c, .int .i64 (A.g 0), .int .i64 (A.g 1), .int .i64 (A.g 2), .int .i64 (A.g 3), .int .i64 (A.g 4), .int .i64 (A.l 0), .int .i64 (A.l 1), .int .i64 (A.l 2), .int .i64 (A.l 3), .int .i64 (A.l 4), .int .i64 (A.l 5), .int .i64 (A.l 6), .int .i64 (A.l 7), .int .i64 (A.l 8), .int .i64 (A.l 9), .int .i64 (A.l 10), .int .i64 (A.l 11), .int .i64 (A.l 12)]) (W0.setCells Q 0 ([.int .i64 3, .slice A.M.qv A.M.nv A.M.cv, .slice A.M.qu A.M.nu A.M.cu, .slice A.M.qt A.M.nt A.M.ct, .int .i64 A.X.S, .slice A.X.q A.X.n A.X.c, .int .i64 (A.g 0), .int .i64 (A.g 1), .int .i64 (A.g 2), .int .i64 (A.g 3), .int .i64 (A.g 4), .int .i64 (A.l 0), .int .i64 (A.l 1), .int .i64 (A.l 2), .int .i64 (A.l 3), .int .i64 (A.l 4), .int .i64 (A.l 5), .int .i64 (A.l 6), .int .i64 (A.l 7), .int .i64 (A.l 8), .int .i64 (A.l 9), .int .i64 (A.l 10), .int .i64 (A.l 11), .int .i64 (A.l 12)]))) := Lib.hid (Own.far (o := 0) (vs := ([.int .i64 3, .slice A.M.qv A.M.nv A.M.cv, .slice A.M.qu A.M.nu A.M.cu, .slice A.M.qt A.M.nt A.M.ct, .int .i64 A.X.S, .slice A.X.q A.X.n A.X.c, .int .i64 (A.g 0), .int .i64 (A.g 1), .int .i64 (A.g 2), .int .i64 (A.g 3), .int .i64 (A.g 4), .int .i64 (A.l 0), .int .i64 (A.l 1), .int .i64 (A.l 2), .int .i64 (A.l 3), .int .i64 (A.l 4), .int .i64 (A.l 5), .int .i64 (A.l 6), .int .i64 (A.l 7), .int .i64 (A.l 8), .int .i64 (A.l 9), .int .i64 (A.l 10), .int .i64 (A.l 11), .int .i64 (A.l 12)])) HP.out nPQ)
  have hB0n : Below w.heap.size w (W0.setCells Q 0 ([.int .i64 3, .slice A.M.qv A.M.nv A.M.cv, .slice A.M.qu A.M.nu A.M.cu, .slice A.M.qt A.M.nt A.M.ct, .int .i64 A.X.S, .slice A.X.q A.X.n A.X.c, .int .i64 (A.g 0), .int .i64 (A.g 1), .int .i64 (A.g 2), .int .i64 (A.g 3), .int .i64 (A.g 4), .int .i64 (A.l 0), .int .i64 (A.l 1), .int .i64 (A.l 2), .int .i64 (A.l 3), .int .i64 (A.l 4), .int .i64 (A.l 5), .int .i64 (A.l 6), .int .i64 (A.l 7), .int .i64 (A.l 8), .int .i64 (A.l 9), .int .i64 (A.l 10), .int .i64 (A.l 11), .int .i64 (A.l 12)])) := Below.setCells hB0 Qw ([.int .i64 3, .slice A.M.qv A.M.nv A.M.cv, .slice A.M.qu A.M.nu A.M.cu, .slice A.M.qt A.M.nt A.M.ct, .int .i64 A.X.S, .slice A.X.q A.X.n A.X.c, .int .i64 (A.g 0), .int .i64 (A.g 1), .int .i64 (A.g 2), .int .i64 (A.g 3), .int .i64 (A.g 4), .int .i64 (A.l 0), .int .i64 (A.l 1), .int .i64 (A.l 2), .int .i64 (A.l 3), .int .i64 (A.l 4), .int .i64 (A.l 5), .int .i64 (A.l 6), .int .i64 (A.l 7), .int .i64 (A.l 8), .int .i64 (A.l 9), .int .i64 (A.l 10), .int .i64 (A.l 11), .int .i64 (A.l 12)]) 0
  clear HQ HP hB0
  generalize (W0.setCells Q 0 ([.int .i64 3, .slice A.M.qv A.M.nv A.M.cv, .slice A.M.qu A.M.nu A.M.cu, .slice A.M.qt A.M.nt A.M.ct, .int .i64 A.X.S, .slice A.X.q A.X.n A.X.c, .int .i64 (A.g 0), .int .i64 (A.g 1), .int .i64 (A.g 2), .int .i64 (A.g 3), .int .i64 (A.g 4), .int .i64 (A.l 0), .int .i64 (A.l 1), .int .i64 (A.l 2), .int .i64 (A.l 3), .int .i64 (A.l 4), .int .i64 (A.l 5), .int .i64 (A.l 6), .int .i64 (A.l 7), .int .i64 (A.l 8), .int .i64 (A.l 9), .int .i64 (A.l 10), .int .i64 (A.l 11), .int .i64 (A.l 12)])) = w1 at *
  have HQ := HQn
  clear HQn
  have HP := HPn
  clear HPn
  have hB0 := hB0n
  clear hB0n
  clear AA
  have AA := Lib.hid (AQ.out _ hB0)
  have oP := HP.out
  have P0 := oP.at 0 _ rfl
  have P1 := oP.at 1 _ rfl
  have P2 := oP.at 2 _ rfl
  have P3 := oP.at 3 _ rfl
  have P4 := oP.at 4 _ rfl
  have P5 := oP.at 5 _ rfl
  have P6 := oP.at 6 _ rfl
  have P7 := oP.at 7 _ rfl
  have P8 := oP.at 8 _ rfl
  have P9 := oP.at 9 _ rfl
  have P10 := oP.at 10 _ rfl
  have P11 := oP.at 11 _ rfl
  have P12 := oP.at 12 _ rfl
  have P13 := oP.at 13 _ rfl
  have P14 := oP.at 14 _ rfl
  have P15 := oP.at 15 _ rfl
  have P16 := oP.at 16 _ rfl
  have P17 := oP.at 17 _ rfl
  have P18 := oP.at 18 _ rfl
  have P19 := oP.at 19 _ rfl
  have P20 := oP.at 20 _ rfl
  have P21 := oP.at 21 _ rfl
  have P22 := oP.at 22 _ rfl
  have P23 := oP.at 23 _ rfl
  have Pl := oP.lt
  clear oP
  go_wp2_with (fail)
  clear P0 P1 P2 P3 P4 P5 P6 P7 P8 P9 P10 P11 P12 P13 P14 P15 P16 P17 P18 P19 P20 P21 P22 P23 Pl
  go_at_call 54
  refine (CON.out _).mono ?_
  rintro e w2 ⟨⟨v, rfl, hr⟩, hb⟩
  have RR := Lib.hid hr
  have hB1 := Below.go hB0 hb
  have HQ_ := Lib.hid (HQ.out.later hb)
  clear hr hb HP HQ AA AQ hB0 CON
  have HQ := HQ_
  clear HQ_
  have oQ := HQ.out
  have Q0 := oQ.at 0 _ rfl
  have Qf0 := oQ.ok 0 (by simp)
  have Q1 := oQ.at 1 _ rfl
  have Qf1 := oQ.ok 1 (by simp)
  have Q2 := oQ.at 2 _ rfl
  have Qf2 := oQ.ok 2 (by simp)
  have Q3 := oQ.at 3 _ rfl
  have Qf3 := oQ.ok 3 (by simp)
  have Q4 := oQ.at 4 _ rfl
  have Qf4 := oQ.ok 4 (by simp)
  have Q5 := oQ.at 5 _ rfl
  have Qf5 := oQ.ok 5 (by simp)
  have Q6 := oQ.at 6 _ rfl
  have Qf6 := oQ.ok 6 (by simp)
  have Q7 := oQ.at 7 _ rfl
  have Qf7 := oQ.ok 7 (by simp)
  have Q8 := oQ.at 8 _ rfl
  have Qf8 := oQ.ok 8 (by simp)
  have Q9 := oQ.at 9 _ rfl
  have Qf9 := oQ.ok 9 (by simp)
  have Q10 := oQ.at 10 _ rfl
  have Qf10 := oQ.ok 10 (by simp)
  have Q11 := oQ.at 11 _ rfl
  have Qf11 := oQ.ok 11 (by simp)
  have Q12 := oQ.at 12 _ rfl
  have Qf12 := oQ.ok 12 (by simp)
  have Q13 := oQ.at 13 _ rfl
  have Qf13 := oQ.ok 13 (by simp)
  have Q14 := oQ.at 14 _ rfl
  have Qf14 := oQ.ok 14 (by simp)
  have Q15 := oQ.at 15 _ rfl
  have Qf15 := oQ.ok 15 (by simp)
  have Q16 := oQ.at 16 _ rfl
  have Qf16 := oQ.ok 16 (by simp)
  have Q17 := oQ.at 17 _ rfl
  have Qf17 := oQ.ok 17 (by simp)
  have Q18 := oQ.at 18 _ rfl
  have Qf18 := oQ.ok 18 (by simp)
  have Q19 := oQ.at 19 _ rfl
  have Qf19 := oQ.ok 19 (by simp)
  have Q20 := oQ.at 20 _ rfl
  have Qf20 := oQ.ok 20 (by simp)
  have Q21 := oQ.at 21 _ rfl
  have Qf21 := oQ.ok 21 (by simp)
  have Q22 := oQ.at 22 _ rfl
  have Qf22 := oQ.ok 22 (by simp)
  have Q23 := oQ.at 23 _ rfl
  have Qf23 := oQ.ok 23 (by simp)
  have Ql := oQ.lt
  clear oQ
  go_upto_region 16 with fail
  rw [show (((((w2.setCell ⟨Q, 6, none⟩ (.int .i64 0)).setCell ⟨Q, 7, none⟩ (.int .i64 0)).setCell ⟨Q, 8, none⟩ (.int .i64 0)).setCell ⟨Q, 9, none⟩ (.int .i64 0)).setCell ⟨Q, 10, none⟩ (.int .i64 0)) = w2.setCells Q 6 [.int .i64 0, .int .i64 0, .int .i64 0, .int .i64 0, .int .i64 0] from rfl]
  have HQn : Hid (Own Q ([.int .i64 3, .slice A.M.qv A.M.nv A.M.cv, .slice A.M.qu A.M.nu A.M.cu, .slice A.M.qt A.M.nt A.M.ct, .int .i64 A.X.S, .slice A.X.q A.X.n A.X.c, .int .i64 0, .int .i64 0, .int .i64 0, .int .i64 0, .int .i64 0, .int .i64 (A.l 0), .int .i64 (A.l 1), .int .i64 (A.l 2), .int .i64 (A.l 3), .int .i64 (A.l 4), .int .i64 (A.l 5), .int .i64 (A.l 6), .int .i64 (A.l 7), .int .i64 (A.l 8), .int .i64 (A.l 9), .int .i64 (A.l 10), .int .i64 (A.l 11), .int .i64 (A.l 12)]) (w2.setCells Q 6 [.int .i64 0, .int .i64 0, .int .i64 0, .int .i64 0, .int .i64 0])) := Lib.hid (show Own Q (over _ 6 [.int .i64 0, .int .i64 0, .int .i64 0, .int .i64 0, .int .i64 0]) _ from Own.part HQ.out (by simp))
  have hB2 : Below w.heap.size w (w2.setCells Q 6 [.int .i64 0, .int .i64 0, .int .i64 0, .int .i64 0, .int .i64 0]) := Below.setCells hB1 Qw [.int .i64 0, .int .i64 0, .int .i64 0, .int .i64 0, .int .i64 0] 6
  have RRn : Hid (RowR (w2.setCells Q 6 [.int .i64 0, .int .i64 0, .int .i64 0, .int .i64 0, .int .i64 0]) v (encL (z) 9) (encG A.g)) := Lib.hid (RowR.kinds RR.out HQ.out rfl (by simp))
  clear HQ RR hB1 Q0 Qf0 Q1 Qf1 Q2 Qf2 Q3 Qf3 Q4 Qf4 Q5 Qf5 Q6 Qf6 Q7 Qf7 Q8 Qf8 Q9 Qf9 Q10 Qf10 Q11 Qf11 Q12 Qf12 Q13 Qf13 Q14 Qf14 Q15 Qf15 Q16 Qf16 Q17 Qf17 Q18 Qf18 Q19 Qf19 Q20 Qf20 Q21 Qf21 Q22 Qf22 Q23 Qf23 Ql
  generalize w2.setCells Q 6 [.int .i64 0, .int .i64 0, .int .i64 0, .int .i64 0, .int .i64 0] = w3 at *
  have SQ : Hid (Own Q ([.int .i64 3, .slice A.M.qv A.M.nv A.M.cv, .slice A.M.qu A.M.nu A.M.cu, .slice A.M.qt A.M.nt A.M.ct, .int .i64 A.X.S, .slice A.X.q A.X.n A.X.c, .int .i64 0, .int .i64 0, .int .i64 0, .int .i64 0, .int .i64 0, .int .i64 (A.l 0), .int .i64 (A.l 1), .int .i64 (A.l 2), .int .i64 (A.l 3), .int .i64 (A.l 4), .int .i64 (A.l 5), .int .i64 (A.l 6), .int .i64 (A.l 7), .int .i64 (A.l 8), .int .i64 (A.l 9), .int .i64 (A.l 10), .int .i64 (A.l 11), .int .i64 (A.l 12)]) w3.drew) := Lib.hid HQn.out.drew
  refine wp_region_held_drew (S := fun w' => w' = w3.drew) (by kernel_rfl) rfl (fun _ => ?_)
  refine wpAnyH_take (i := 0) (v := v) rfl (by kernel_rfl) (by kernel_rfl) (by kernel_rfl) (fun _ _ _ h => h) (Or.inl ⟨by rfl, fun w' hS => ?_⟩) rfl ?_
  · subst hS
    go_simp
  try simp only [Act.put, List.getElem_toArray, List.getElem_cons_zero, List.getElem_cons_succ, List.setIfInBounds_toArray, List.set_cons_zero, List.set_cons_succ]
  refine wpAnyH_take (i := 1) (v := .agg ([.int .i64 3, .slice A.M.qv A.M.nv A.M.cv, .slice A.M.qu A.M.nu A.M.cu, .slice A.M.qt A.M.nt A.M.ct, .int .i64 A.X.S, .slice A.X.q A.X.n A.X.c, .int .i64 0, .int .i64 0, .int .i64 0, .int .i64 0, .int .i64 0, .int .i64 (A.l 0), .int .i64 (A.l 1), .int .i64 (A.l 2), .int .i64 (A.l 3), .int .i64 (A.l 4), .int .i64 (A.l 5), .int .i64 (A.l 6), .int .i64 (A.l 7), .int .i64 (A.l 8), .int .i64 (A.l 9), .int .i64 (A.l 10), .int .i64 (A.l 11), .int .i64 (A.l 12)]).toArray) rfl (by kernel_rfl) (by kernel_rfl) (by kernel_rfl) (fun _ _ _ h => h) (yieldsIf_load_mid (by rfl) 37 _ rfl Q 0 rfl ([.int .i64 3, .slice A.M.qv A.M.nv A.M.cv, .slice A.M.qu A.M.nu A.M.cu, .slice A.M.qt A.M.nt A.M.ct, .int .i64 A.X.S, .slice A.X.q A.X.n A.X.c, .int .i64 0, .int .i64 0, .int .i64 0, .int .i64 0, .int .i64 0, .int .i64 (A.l 0), .int .i64 (A.l 1), .int .i64 (A.l 2), .int .i64 (A.l 3), .int .i64 (A.l 4), .int .i64 (A.l 5), .int .i64 (A.l 6), .int .i64 (A.l 7), .int .i64 (A.l 8), .int .i64 (A.l 9), .int .i64 (A.l 10), .int .i64 (A.l 11), .int .i64 (A.l 12)]) _ (fun w h => by rw [h]; exact SQ.out.cell) Tryd.underlying37 rfl (by kernel_rfl)) rfl ?_
  try simp only [Act.put, List.getElem_toArray, List.getElem_cons_zero, List.getElem_cons_succ, List.setIfInBounds_toArray, List.set_cons_zero, List.set_cons_succ]
  refine wpAnyH_take (i := 2) (v := .int .i64 z) rfl (by kernel_rfl) (by kernel_rfl) (by kernel_rfl) (fun _ _ _ h => h) (Or.inl ⟨by rfl, fun w' hS => ?_⟩) rfl ?_
  · subst hS
    go_simp
  try simp only [Act.put, List.getElem_toArray, List.getElem_cons_zero, List.getElem_cons_succ, List.setIfInBounds_toArray, List.set_cons_zero, List.set_cons_succ]
  refine wpAnyH_take (i := 3) (v := v) rfl (by kernel_rfl) (by kernel_rfl) (by kernel_rfl) (fun _ _ _ h => h) (Or.inl ⟨by rfl, fun w' hS => ?_⟩) rfl ?_
  · subst hS
    go_simp
  try simp only [Act.put, List.getElem_toArray, List.getElem_cons_zero, List.getElem_cons_succ, List.setIfInBounds_toArray, List.set_cons_zero, List.set_cons_succ]
  refine wpAnyH_ready (rs := [4]) (by kernel_rfl) (by simp) ?_
  refine AllReadyH.cons rfl (fun K hK => ?_) AllReadyH.nil
  refine step_store_self (by simp [Region.wanted]) 37 _ _ rfl Q #[.int .i64 3, .slice A.M.qv A.M.nv A.M.cv, .slice A.M.qu A.M.nu A.M.cu, .slice A.M.qt A.M.nt A.M.ct, .int .i64 A.X.S, .slice A.X.q A.X.n A.X.c, .int .i64 0, .int .i64 0, .int .i64 0, .int .i64 0, .int .i64 0, .int .i64 (A.l 0), .int .i64 (A.l 1), .int .i64 (A.l 2), .int .i64 (A.l 3), .int .i64 (A.l 4), .int .i64 (A.l 5), .int .i64 (A.l 6), .int .i64 (A.l 7), .int .i64 (A.l 8), .int .i64 (A.l 9), .int .i64 (A.l 10), .int .i64 (A.l 11), .int .i64 (A.l 12)] rfl rfl SQ.out (by kernel_rfl) (by simp [Value.oneCell']) ?_
  refine hK.out _ _ rfl (fun _ => ?_)
  clear hK K
  try simp only [Act.put, List.getElem_toArray, List.getElem_cons_zero, List.getElem_cons_succ, List.setIfInBounds_toArray, List.set_cons_zero, List.set_cons_succ]
  refine wpAnyH_take (i := 5) (v := .int .i64 z) rfl (by kernel_rfl) (by kernel_rfl) (by kernel_rfl) (fun _ _ _ h => h) (Or.inl ⟨by rfl, fun w' hS => ?_⟩) rfl ?_
  · subst hS
    go_simp
  try simp only [Act.put, List.getElem_toArray, List.getElem_cons_zero, List.getElem_cons_succ, List.setIfInBounds_toArray, List.set_cons_zero, List.set_cons_succ]
  refine wpAnyH_done (by kernel_rfl) ?_ _
  clear SQ
  have HQd := Lib.hid (HQn.out.drew); have hB3 := hB2.drew; have RRd := Lib.hid (RRn.out.later (Below.refl _ _).drew (Nat.le_refl _))
  clear HQn hB2 RRn
  generalize w3.drew = w4 at *
  go_wp2_with (fail)
  have hL := run_loadVar_mid (P := Tryd.prog) _ Q 0 37 ([.int .i64 3, .slice A.M.qv A.M.nv A.M.cv, .slice A.M.qu A.M.nu A.M.cu, .slice A.M.qt A.M.nt A.M.ct, .int .i64 A.X.S, .slice A.X.q A.X.n A.X.c, .int .i64 0, .int .i64 0, .int .i64 0, .int .i64 0, .int .i64 0, .int .i64 (A.l 0), .int .i64 (A.l 1), .int .i64 (A.l 2), .int .i64 (A.l 3), .int .i64 (A.l 4), .int .i64 (A.l 5), .int .i64 (A.l 6), .int .i64 (A.l 7), .int .i64 (A.l 8), .int .i64 (A.l 9), .int .i64 (A.l 10), .int .i64 (A.l 11), .int .i64 (A.l 12)]) _ HQd.out.cell Tryd.underlying37 rfl (by kernel_rfl)
  exact bodyPost_ret (v := .tuple #[v, .agg ([.int .i64 3, .slice A.M.qv A.M.nv A.M.cv, .slice A.M.qu A.M.nu A.M.cu, .slice A.M.qt A.M.nt A.M.ct, .int .i64 A.X.S, .slice A.X.q A.X.n A.X.c, .int .i64 0, .int .i64 0, .int .i64 0, .int .i64 0, .int .i64 0, .int .i64 (A.l 0), .int .i64 (A.l 1), .int .i64 (A.l 2), .int .i64 (A.l 3), .int .i64 (A.l 4), .int .i64 (A.l 5), .int .i64 (A.l 6), .int .i64 (A.l 7), .int .i64 (A.l 8), .int .i64 (A.l 9), .int .i64 (A.l 10), .int .i64 (A.l 11), .int .i64 (A.l 12)]).toArray, .int .i64 z]) (res_tct Tryd.results35 rfl rfl hL rfl) rfl ⟨⟨_, rfl, RRd.out⟩, hB3⟩
set_option maxHeartbeats 16000000 in
theorem encode_4 (A : Ast) (w : World) (hA : AstAt A w) : Calls Tryd.prog 35 #[(.agg #[.int .i64 4, .slice A.M.qv A.M.nv A.M.cv, .slice A.M.qu A.M.nu A.M.cu, .slice A.M.qt A.M.nt A.M.ct, .int .i64 A.X.S, .slice A.X.q A.X.n A.X.c, .int .i64 (A.g 0), .int .i64 (A.g 1), .int .i64 (A.g 2), .int .i64 (A.g 3), .int .i64 (A.g 4), .int .i64 (A.l 0), .int .i64 (A.l 1), .int .i64 (A.l 2), .int .i64 (A.l 3), .int .i64 (A.l 4), .int .i64 (A.l 5), .int .i64 (A.l 6), .int .i64 (A.l 7), .int .i64 (A.l 8), .int .i64 (A.l 9), .int .i64 (A.l 10), .int .i64 (A.l 11), .int .i64 (A.l 12)])] w fun e w' => (∃ v, e = .returned (.tuple #[v, (.agg #[.int .i64 4, .slice A.M.qv A.M.nv A.M.cv, .slice A.M.qu A.M.nu A.M.cu, .slice A.M.qt A.M.nt A.M.ct, .int .i64 A.X.S, .slice A.X.q A.X.n A.X.c, .int .i64 (A.g 0), .int .i64 (A.g 1), .int .i64 (A.g 2), .int .i64 (A.g 3), .int .i64 (A.g 4), .int .i64 0, .int .i64 0, .int .i64 0, .int .i64 0, .int .i64 0, .int .i64 0, .int .i64 0, .int .i64 0, .int .i64 0, .int .i64 0, .int .i64 0, .int .i64 0, .int .i64 0]), .int .i64 (chkLg A.l)]) ∧ RowR w' v (encL (chkLg A.l) 31) (encLg A.l)) ∧ Below w.heap.size w w' := by
  have AQ : Hid (∀ W, Below w.heap.size w W → AstAt A W) := Lib.hid (fun W hb => hA.later hb)
  have AA := Lib.hid hA
  obtain ⟨z, ez⟩ : ∃ z, chkLg A.l = z := ⟨_, rfl⟩
  have CON := Lib.hid (encLgt_any A.l)
  rw [ez] at CON ⊢
  clear hA ez
  go_enter Tryd.func35, Tryd.ntmps35
  go_upto_region 1 with fail
  obtain ⟨W0, hW⟩ : ∃ W0, W0 = ((w.alloc (.cells #[.int .i64 4, .slice A.M.qv A.M.nv A.M.cv, .slice A.M.qu A.M.nu A.M.cu, .slice A.M.qt A.M.nt A.M.ct, .int .i64 A.X.S, .slice A.X.q A.X.n A.X.c, .int .i64 (A.g 0), .int .i64 (A.g 1), .int .i64 (A.g 2), .int .i64 (A.g 3), .int .i64 (A.g 4), .int .i64 (A.l 0), .int .i64 (A.l 1), .int .i64 (A.l 2), .int .i64 (A.l 3), .int .i64 (A.l 4), .int .i64 (A.l 5), .int .i64 (A.l 6), .int .i64 (A.l 7), .int .i64 (A.l 8), .int .i64 (A.l 9), .int .i64 (A.l 10), .int .i64 (A.l 11), .int .i64 (A.l 12)] 37)).alloc (.cells #[.int .i64 0, .slice none 0 0, .slice none 0 0, .slice none 0 0, .int .i64 0, .slice none 0 0, .int .i64 0, .int .i64 0, .int .i64 0, .int .i64 0, .int .i64 0, .int .i64 0, .int .i64 0, .int .i64 0, .int .i64 0, .int .i64 0, .int .i64 0, .int .i64 0, .int .i64 0, .int .i64 0, .int .i64 0, .int .i64 0, .int .i64 0, .int .i64 0] 37)) := ⟨_, rfl⟩
  have hB0 : Below w.heap.size w W0 := hW ▸ (Below.al (Below.al (Below.refl _ _)))
  have HP : Hid (Own w.heap.size ([.int .i64 4, .slice A.M.qv A.M.nv A.M.cv, .slice A.M.qu A.M.nu A.M.cu, .slice A.M.qt A.M.nt A.M.ct, .int .i64 A.X.S, .slice A.X.q A.X.n A.X.c, .int .i64 (A.g 0), .int .i64 (A.g 1), .int .i64 (A.g 2), .int .i64 (A.g 3), .int .i64 (A.g 4), .int .i64 (A.l 0), .int .i64 (A.l 1), .int .i64 (A.l 2), .int .i64 (A.l 3), .int .i64 (A.l 4), .int .i64 (A.l 5), .int .i64 (A.l 6), .int .i64 (A.l 7), .int .i64 (A.l 8), .int .i64 (A.l 9), .int .i64 (A.l 10), .int .i64 (A.l 11), .int .i64 (A.l 12)]) W0) := Lib.hid (hW ▸ (show Own w.heap.size ([.int .i64 4, .slice A.M.qv A.M.nv A.M.cv, .slice A.M.qu A.M.nu A.M.cu, .slice A.M.qt A.M.nt A.M.ct, .int .i64 A.X.S, .slice A.X.q A.X.n A.X.c, .int .i64 (A.g 0), .int .i64 (A.g 1), .int .i64 (A.g 2), .int .i64 (A.g 3), .int .i64 (A.g 4), .int .i64 (A.l 0), .int .i64 (A.l 1), .int .i64 (A.l 2), .int .i64 (A.l 3), .int .i64 (A.l 4), .int .i64 (A.l 5), .int .i64 (A.l 6), .int .i64 (A.l 7), .int .i64 (A.l 8), .int .i64 (A.l 9), .int .i64 (A.l 10), .int .i64 (A.l 11), .int .i64 (A.l 12)]) (w.alloc (.cells #[.int .i64 4, .slice A.M.qv A.M.nv A.M.cv, .slice A.M.qu A.M.nu A.M.cu, .slice A.M.qt A.M.nt A.M.ct, .int .i64 A.X.S, .slice A.X.q A.X.n A.X.c, .int .i64 (A.g 0), .int .i64 (A.g 1), .int .i64 (A.g 2), .int .i64 (A.g 3), .int .i64 (A.g 4), .int .i64 (A.l 0), .int .i64 (A.l 1), .int .i64 (A.l 2), .int .i64 (A.l 3), .int .i64 (A.l 4), .int .i64 (A.l 5), .int .i64 (A.l 6), .int .i64 (A.l 7), .int .i64 (A.l 8), .int .i64 (A.l 9), .int .i64 (A.l 10), .int .i64 (A.l 11), .int .i64 (A.l 12)] 37)) from Own.newAt (by simp)).alloc)
  have HQ : Hid (Own (w.heap.size + 1) ([.int .i64 0, .slice none 0 0, .slice none 0 0, .slice none 0 0, .int .i64 0, .slice none 0 0, .int .i64 0, .int .i64 0, .int .i64 0, .int .i64 0, .int .i64 0, .int .i64 0, .int .i64 0, .int .i64 0, .int .i64 0, .int .i64 0, .int .i64 0, .int .i64 0, .int .i64 0, .int .i64 0, .int .i64 0, .int .i64 0, .int .i64 0, .int .i64 0]) W0) := Lib.hid (hW ▸ (show Own (w.heap.size + 1) ([.int .i64 0, .slice none 0 0, .slice none 0 0, .slice none 0 0, .int .i64 0, .slice none 0 0, .int .i64 0, .int .i64 0, .int .i64 0, .int .i64 0, .int .i64 0, .int .i64 0, .int .i64 0, .int .i64 0, .int .i64 0, .int .i64 0, .int .i64 0, .int .i64 0, .int .i64 0, .int .i64 0, .int .i64 0, .int .i64 0, .int .i64 0, .int .i64 0]) ((w.alloc (.cells #[.int .i64 4, .slice A.M.qv A.M.nv A.M.cv, .slice A.M.qu A.M.nu A.M.cu, .slice A.M.qt A.M.nt A.M.ct, .int .i64 A.X.S, .slice A.X.q A.X.n A.X.c, .int .i64 (A.g 0), .int .i64 (A.g 1), .int .i64 (A.g 2), .int .i64 (A.g 3), .int .i64 (A.g 4), .int .i64 (A.l 0), .int .i64 (A.l 1), .int .i64 (A.l 2), .int .i64 (A.l 3), .int .i64 (A.l 4), .int .i64 (A.l 5), .int .i64 (A.l 6), .int .i64 (A.l 7), .int .i64 (A.l 8), .int .i64 (A.l 9), .int .i64 (A.l 10), .int .i64 (A.l 11), .int .i64 (A.l 12)] 37)).alloc (.cells #[.int .i64 0, .slice none 0 0, .slice none 0 0, .slice none 0 0, .int .i64 0, .slice none 0 0, .int .i64 0, .int .i64 0, .int .i64 0, .int .i64 0, .int .i64 0, .int .i64 0, .int .i64 0, .int .i64 0, .int .i64 0, .int .i64 0, .int .i64 0, .int .i64 0, .int .i64 0, .int .i64 0, .int .i64 0, .int .i64 0, .int .i64 0, .int .i64 0] 37)) from Own.newAt (by simp)))
  rw [← hW]
  clear hW
  obtain ⟨Q, eQ⟩ : ∃ X, X = (w.heap.size + 1) := ⟨_, rfl⟩
  rw [← eQ] at HQ ⊢
  have Qw : w.heap.size ≤ Q := by omega
  obtain ⟨P, eP⟩ : ∃ X, X = w.heap.size := ⟨_, rfl⟩
  rw [← eP] at HP ⊢
  have Pw : w.heap.size ≤ P := by omega
  have nPQ : P ≠ Q := by omega
  have nQP : Q ≠ P := by omega
  clear eP eQ
  have AA_ := Lib.hid (AA.out.later hB0)
  clear AA
  have AA := AA_
  clear AA_
  refine wp_region_lit ?_
  refine wpList_load_mid rfl 37 _ rfl P 0 rfl ([.int .i64 4, .slice A.M.qv A.M.nv A.M.cv, .slice A.M.qu A.M.nu A.M.cu, .slice A.M.qt A.M.nt A.M.ct, .int .i64 A.X.S, .slice A.X.q A.X.n A.X.c, .int .i64 (A.g 0), .int .i64 (A.g 1), .int .i64 (A.g 2), .int .i64 (A.g 3), .int .i64 (A.g 4), .int .i64 (A.l 0), .int .i64 (A.l 1), .int .i64 (A.l 2), .int .i64 (A.l 3), .int .i64 (A.l 4), .int .i64 (A.l 5), .int .i64 (A.l 6), .int .i64 (A.l 7), .int .i64 (A.l 8), .int .i64 (A.l 9), .int .i64 (A.l 10), .int .i64 (A.l 11), .int .i64 (A.l 12)]) _ HP.out.cell Tryd.underlying37 rfl (by kernel_rfl) ?_
  refine wpList_store_mid rfl 37 _ _ rfl Q 0 ([.int .i64 4, .slice A.M.qv A.M.nv A.M.cv, .slice A.M.qu A.M.nu A.M.cu, .slice A.M.qt A.M.nt A.M.ct, .int .i64 A.X.S, .slice A.X.q A.X.n A.X.c, .int .i64 (A.g 0), .int .i64 (A.g 1), .int .i64 (A.g 2), .int .i64 (A.g 3), .int .i64 (A.g 4), .int .i64 (A.l 0), .int .i64 (A.l 1), .int .i64 (A.l 2), .int .i64 (A.l 3), .int .i64 (A.l 4), .int .i64 (A.l 5), .int .i64 (A.l 6), .int .i64 (A.l 7), .int .i64 (A.l 8), .int .i64 (A.l 9), .int .i64 (A.l 10), .int .i64 (A.l 11), .int .i64 (A.l 12)]).toArray rfl rfl HQ.out.free (by kernel_rfl) (by simp [Value.oneCell']) ?_
  change wpList _ _ _ [] _ (W0.setCells Q 0 ([.int .i64 4, .slice A.M.qv A.M.nv A.M.cv, .slice A.M.qu A.M.nu A.M.cu, .slice A.M.qt A.M.nt A.M.ct, .int .i64 A.X.S, .slice A.X.q A.X.n A.X.c, .int .i64 (A.g 0), .int .i64 (A.g 1), .int .i64 (A.g 2), .int .i64 (A.g 3), .int .i64 (A.g 4), .int .i64 (A.l 0), .int .i64 (A.l 1), .int .i64 (A.l 2), .int .i64 (A.l 3), .int .i64 (A.l 4), .int .i64 (A.l 5), .int .i64 (A.l 6), .int .i64 (A.l 7), .int .i64 (A.l 8), .int .i64 (A.l 9), .int .i64 (A.l 10), .int .i64 (A.l 11), .int .i64 (A.l 12)]))
  have HQn : Hid (Own Q ([.int .i64 4, .slice A.M.qv A.M.nv A.M.cv, .slice A.M.qu A.M.nu A.M.cu, .slice A.M.qt A.M.nt A.M.ct, .int .i64 A.X.S, .slice A.X.q A.X.n A.X.c, .int .i64 (A.g 0), .int .i64 (A.g 1), .int .i64 (A.g 2), .int .i64 (A.g 3), .int .i64 (A.g 4), .int .i64 (A.l 0), .int .i64 (A.l 1), .int .i64 (A.l 2), .int .i64 (A.l 3), .int .i64 (A.l 4), .int .i64 (A.l 5), .int .i64 (A.l 6), .int .i64 (A.l 7), .int .i64 (A.l 8), .int .i64 (A.l 9), .int .i64 (A.l 10), .int .i64 (A.l 11), .int .i64 (A.l 12)]) (W0.setCells Q 0 ([.int .i64 4, .slice A.M.qv A.M.nv A.M.cv, .slice A.M.qu A.M.nu A.M.cu, .slice A.M.qt A.M.nt A.M.ct, .int .i64 A.X.S, .slice A.X.q A.X.n A.X.c, .int .i64 (A.g 0), .int .i64 (A.g 1), .int .i64 (A.g 2), .int .i64 (A.g 3), .int .i64 (A.g 4), .int .i64 (A.l 0), .int .i64 (A.l 1), .int .i64 (A.l 2), .int .i64 (A.l 3), .int .i64 (A.l 4), .int .i64 (A.l 5), .int .i64 (A.l 6), .int .i64 (A.l 7), .int .i64 (A.l 8), .int .i64 (A.l 9), .int .i64 (A.l 10), .int .i64 (A.l 11), .int .i64 (A.l 12)]))) := Lib.hid (Own.store HQ.out rfl)
  have HPn : Hid (Own P ([.int .i64 4, .slice A.M.qv A.M.nv A.M.cv, .slice A.M.qu A.M.nu A.M.cu, .slice A.M.qt A.M.nt A.M.ct, .int .i64 A.X.S, .slice A.X.q A.X.n A.X.c, .int .i64 (A.g 0), .int .i64 (A.g 1), .int .i64 (A.g 2), .int .i64 (A.g 3), .int .i64 (A.g 4), .int .i64 (A.l 0), .int .i64 (A.l 1), .int .i64 (A.l 2), .int .i64 (A.l 3), .int .i64 (A.l 4), .int .i64 (A.l 5), .int .i64 (A.l 6), .int .i64 (A.l 7), .int .i64 (A.l 8), .int .i64 (A.l 9), .int .i64 (A.l 10), .int .i64 (A.l 11), .int .i64 (A.l 12)]) (W0.setCells Q 0 ([.int .i64 4, .slice A.M.qv A.M.nv A.M.cv, .slice A.M.qu A.M.nu A.M.cu, .slice A.M.qt A.M.nt A.M.ct, .int .i64 A.X.S, .slice A.X.q A.X.n A.X.c, .int .i64 (A.g 0), .int .i64 (A.g 1), .int .i64 (A.g 2), .int .i64 (A.g 3), .int .i64 (A.g 4), .int .i64 (A.l 0), .int .i64 (A.l 1), .int .i64 (A.l 2), .int .i64 (A.l 3), .int .i64 (A.l 4), .int .i64 (A.l 5), .int .i64 (A.l 6), .int .i64 (A.l 7), .int .i64 (A.l 8), .int .i64 (A.l 9), .int .i64 (A.l 10), .int .i64 (A.l 11), .int .i64 (A.l 12)]))) := Lib.hid (Own.far (o := 0) (vs := ([.int .i64 4, .slice A.M.qv A.M.nv A.M.cv, .slice A.M.qu A.M.nu A.M.cu, .slice A.M.qt A.M.nt A.M.ct, .int .i64 A.X.S, .slice A.X.q A.X.n A.X.c, .int .i64 (A.g 0), .int .i64 (A.g 1), .int .i64 (A.g 2), .int .i64 (A.g 3), .int .i64 (A.g 4), .int .i64 (A.l 0), .int .i64 (A.l 1), .int .i64 (A.l 2), .int .i64 (A.l 3), .int .i64 (A.l 4), .int .i64 (A.l 5), .int .i64 (A.l 6), .int .i64 (A.l 7), .int .i64 (A.l 8), .int .i64 (A.l 9), .int .i64 (A.l 10), .int .i64 (A.l 11), .int .i64 (A.l 12)])) HP.out nPQ)
  have hB0n : Below w.heap.size w (W0.setCells Q 0 ([.int .i64 4, .slice A.M.qv A.M.nv A.M.cv, .slice A.M.qu A.M.nu A.M.cu, .slice A.M.qt A.M.nt A.M.ct, .int .i64 A.X.S, .slice A.X.q A.X.n A.X.c, .int .i64 (A.g 0), .int .i64 (A.g 1), .int .i64 (A.g 2), .int .i64 (A.g 3), .int .i64 (A.g 4), .int .i64 (A.l 0), .int .i64 (A.l 1), .int .i64 (A.l 2), .int .i64 (A.l 3), .int .i64 (A.l 4), .int .i64 (A.l 5), .int .i64 (A.l 6), .int .i64 (A.l 7), .int .i64 (A.l 8), .int .i64 (A.l 9), .int .i64 (A.l 10), .int .i64 (A.l 11), .int .i64 (A.l 12)])) := Below.setCells hB0 Qw ([.int .i64 4, .slice A.M.qv A.M.nv A.M.cv, .slice A.M.qu A.M.nu A.M.cu, .slice A.M.qt A.M.nt A.M.ct, .int .i64 A.X.S, .slice A.X.q A.X.n A.X.c, .int .i64 (A.g 0), .int .i64 (A.g 1), .int .i64 (A.g 2), .int .i64 (A.g 3), .int .i64 (A.g 4), .int .i64 (A.l 0), .int .i64 (A.l 1), .int .i64 (A.l 2), .int .i64 (A.l 3), .int .i64 (A.l 4), .int .i64 (A.l 5), .int .i64 (A.l 6), .int .i64 (A.l 7), .int .i64 (A.l 8), .int .i64 (A.l 9), .int .i64 (A.l 10), .int .i64 (A.l 11), .int .i64 (A.l 12)]) 0
  clear HQ HP hB0
  generalize (W0.setCells Q 0 ([.int .i64 4, .slice A.M.qv A.M.nv A.M.cv, .slice A.M.qu A.M.nu A.M.cu, .slice A.M.qt A.M.nt A.M.ct, .int .i64 A.X.S, .slice A.X.q A.X.n A.X.c, .int .i64 (A.g 0), .int .i64 (A.g 1), .int .i64 (A.g 2), .int .i64 (A.g 3), .int .i64 (A.g 4), .int .i64 (A.l 0), .int .i64 (A.l 1), .int .i64 (A.l 2), .int .i64 (A.l 3), .int .i64 (A.l 4), .int .i64 (A.l 5), .int .i64 (A.l 6), .int .i64 (A.l 7), .int .i64 (A.l 8), .int .i64 (A.l 9), .int .i64 (A.l 10), .int .i64 (A.l 11), .int .i64 (A.l 12)])) = w1 at *
  have HQ := HQn
  clear HQn
  have HP := HPn
  clear HPn
  have hB0 := hB0n
  clear hB0n
  clear AA
  have AA := Lib.hid (AQ.out _ hB0)
  have oP := HP.out
  have P0 := oP.at 0 _ rfl
  have P1 := oP.at 1 _ rfl
  have P2 := oP.at 2 _ rfl
  have P3 := oP.at 3 _ rfl
  have P4 := oP.at 4 _ rfl
  have P5 := oP.at 5 _ rfl
  have P6 := oP.at 6 _ rfl
  have P7 := oP.at 7 _ rfl
  have P8 := oP.at 8 _ rfl
  have P9 := oP.at 9 _ rfl
  have P10 := oP.at 10 _ rfl
  have P11 := oP.at 11 _ rfl
  have P12 := oP.at 12 _ rfl
  have P13 := oP.at 13 _ rfl
  have P14 := oP.at 14 _ rfl
  have P15 := oP.at 15 _ rfl
  have P16 := oP.at 16 _ rfl
  have P17 := oP.at 17 _ rfl
  have P18 := oP.at 18 _ rfl
  have P19 := oP.at 19 _ rfl
  have P20 := oP.at 20 _ rfl
  have P21 := oP.at 21 _ rfl
  have P22 := oP.at 22 _ rfl
  have P23 := oP.at 23 _ rfl
  have Pl := oP.lt
  clear oP
  go_wp2_with (fail)
  clear P0 P1 P2 P3 P4 P5 P6 P7 P8 P9 P10 P11 P12 P13 P14 P15 P16 P17 P18 P19 P20 P21 P22 P23 Pl
  go_at_call 55
  refine (CON.out _).mono ?_
  rintro e w2 ⟨⟨v, rfl, hr⟩, hb⟩
  have RR := Lib.hid hr
  have hB1 := Below.go hB0 hb
  have HQ_ := Lib.hid (HQ.out.later hb)
  clear hr hb HP HQ AA AQ hB0 CON
  have HQ := HQ_
  clear HQ_
  have oQ := HQ.out
  have Q0 := oQ.at 0 _ rfl
  have Qf0 := oQ.ok 0 (by simp)
  have Q1 := oQ.at 1 _ rfl
  have Qf1 := oQ.ok 1 (by simp)
  have Q2 := oQ.at 2 _ rfl
  have Qf2 := oQ.ok 2 (by simp)
  have Q3 := oQ.at 3 _ rfl
  have Qf3 := oQ.ok 3 (by simp)
  have Q4 := oQ.at 4 _ rfl
  have Qf4 := oQ.ok 4 (by simp)
  have Q5 := oQ.at 5 _ rfl
  have Qf5 := oQ.ok 5 (by simp)
  have Q6 := oQ.at 6 _ rfl
  have Qf6 := oQ.ok 6 (by simp)
  have Q7 := oQ.at 7 _ rfl
  have Qf7 := oQ.ok 7 (by simp)
  have Q8 := oQ.at 8 _ rfl
  have Qf8 := oQ.ok 8 (by simp)
  have Q9 := oQ.at 9 _ rfl
  have Qf9 := oQ.ok 9 (by simp)
  have Q10 := oQ.at 10 _ rfl
  have Qf10 := oQ.ok 10 (by simp)
  have Q11 := oQ.at 11 _ rfl
  have Qf11 := oQ.ok 11 (by simp)
  have Q12 := oQ.at 12 _ rfl
  have Qf12 := oQ.ok 12 (by simp)
  have Q13 := oQ.at 13 _ rfl
  have Qf13 := oQ.ok 13 (by simp)
  have Q14 := oQ.at 14 _ rfl
  have Qf14 := oQ.ok 14 (by simp)
  have Q15 := oQ.at 15 _ rfl
  have Qf15 := oQ.ok 15 (by simp)
  have Q16 := oQ.at 16 _ rfl
  have Qf16 := oQ.ok 16 (by simp)
  have Q17 := oQ.at 17 _ rfl
  have Qf17 := oQ.ok 17 (by simp)
  have Q18 := oQ.at 18 _ rfl
  have Qf18 := oQ.ok 18 (by simp)
  have Q19 := oQ.at 19 _ rfl
  have Qf19 := oQ.ok 19 (by simp)
  have Q20 := oQ.at 20 _ rfl
  have Qf20 := oQ.ok 20 (by simp)
  have Q21 := oQ.at 21 _ rfl
  have Qf21 := oQ.ok 21 (by simp)
  have Q22 := oQ.at 22 _ rfl
  have Qf22 := oQ.ok 22 (by simp)
  have Q23 := oQ.at 23 _ rfl
  have Qf23 := oQ.ok 23 (by simp)
  have Ql := oQ.lt
  clear oQ
  go_upto_region 16 with fail
  rw [show (((((((((((((w2.setCell ⟨Q, 11, none⟩ (.int .i64 0)).setCell ⟨Q, 12, none⟩ (.int .i64 0)).setCell ⟨Q, 13, none⟩ (.int .i64 0)).setCell ⟨Q, 14, none⟩ (.int .i64 0)).setCell ⟨Q, 15, none⟩ (.int .i64 0)).setCell ⟨Q, 16, none⟩ (.int .i64 0)).setCell ⟨Q, 17, none⟩ (.int .i64 0)).setCell ⟨Q, 18, none⟩ (.int .i64 0)).setCell ⟨Q, 19, none⟩ (.int .i64 0)).setCell ⟨Q, 20, none⟩ (.int .i64 0)).setCell ⟨Q, 21, none⟩ (.int .i64 0)).setCell ⟨Q, 22, none⟩ (.int .i64 0)).setCell ⟨Q, 23, none⟩ (.int .i64 0)) = w2.setCells Q 11 [.int .i64 0, .int .i64 0, .int .i64 0, .int .i64 0, .int .i64 0, .int .i64 0, .int .i64 0, .int .i64 0, .int .i64 0, .int .i64 0, .int .i64 0, .int .i64 0, .int .i64 0] from rfl]
  have HQn : Hid (Own Q ([.int .i64 4, .slice A.M.qv A.M.nv A.M.cv, .slice A.M.qu A.M.nu A.M.cu, .slice A.M.qt A.M.nt A.M.ct, .int .i64 A.X.S, .slice A.X.q A.X.n A.X.c, .int .i64 (A.g 0), .int .i64 (A.g 1), .int .i64 (A.g 2), .int .i64 (A.g 3), .int .i64 (A.g 4), .int .i64 0, .int .i64 0, .int .i64 0, .int .i64 0, .int .i64 0, .int .i64 0, .int .i64 0, .int .i64 0, .int .i64 0, .int .i64 0, .int .i64 0, .int .i64 0, .int .i64 0]) (w2.setCells Q 11 [.int .i64 0, .int .i64 0, .int .i64 0, .int .i64 0, .int .i64 0, .int .i64 0, .int .i64 0, .int .i64 0, .int .i64 0, .int .i64 0, .int .i64 0, .int .i64 0, .int .i64 0])) := Lib.hid (show Own Q (over _ 11 [.int .i64 0, .int .i64 0, .int .i64 0, .int .i64 0, .int .i64 0, .int .i64 0, .int .i64 0, .int .i64 0, .int .i64 0, .int .i64 0, .int .i64 0, .int .i64 0, .int .i64 0]) _ from Own.part HQ.out (by simp))
  have hB2 : Below w.heap.size w (w2.setCells Q 11 [.int .i64 0, .int .i64 0, .int .i64 0, .int .i64 0, .int .i64 0, .int .i64 0, .int .i64 0, .int .i64 0, .int .i64 0, .int .i64 0, .int .i64 0, .int .i64 0, .int .i64 0]) := Below.setCells hB1 Qw [.int .i64 0, .int .i64 0, .int .i64 0, .int .i64 0, .int .i64 0, .int .i64 0, .int .i64 0, .int .i64 0, .int .i64 0, .int .i64 0, .int .i64 0, .int .i64 0, .int .i64 0] 11
  have RRn : Hid (RowR (w2.setCells Q 11 [.int .i64 0, .int .i64 0, .int .i64 0, .int .i64 0, .int .i64 0, .int .i64 0, .int .i64 0, .int .i64 0, .int .i64 0, .int .i64 0, .int .i64 0, .int .i64 0, .int .i64 0]) v (encL (z) 31) (encLg A.l)) := Lib.hid (RowR.kinds RR.out HQ.out rfl (by simp))
  clear HQ RR hB1 Q0 Qf0 Q1 Qf1 Q2 Qf2 Q3 Qf3 Q4 Qf4 Q5 Qf5 Q6 Qf6 Q7 Qf7 Q8 Qf8 Q9 Qf9 Q10 Qf10 Q11 Qf11 Q12 Qf12 Q13 Qf13 Q14 Qf14 Q15 Qf15 Q16 Qf16 Q17 Qf17 Q18 Qf18 Q19 Qf19 Q20 Qf20 Q21 Qf21 Q22 Qf22 Q23 Qf23 Ql
  generalize w2.setCells Q 11 [.int .i64 0, .int .i64 0, .int .i64 0, .int .i64 0, .int .i64 0, .int .i64 0, .int .i64 0, .int .i64 0, .int .i64 0, .int .i64 0, .int .i64 0, .int .i64 0, .int .i64 0] = w3 at *
  have SQ : Hid (Own Q ([.int .i64 4, .slice A.M.qv A.M.nv A.M.cv, .slice A.M.qu A.M.nu A.M.cu, .slice A.M.qt A.M.nt A.M.ct, .int .i64 A.X.S, .slice A.X.q A.X.n A.X.c, .int .i64 (A.g 0), .int .i64 (A.g 1), .int .i64 (A.g 2), .int .i64 (A.g 3), .int .i64 (A.g 4), .int .i64 0, .int .i64 0, .int .i64 0, .int .i64 0, .int .i64 0, .int .i64 0, .int .i64 0, .int .i64 0, .int .i64 0, .int .i64 0, .int .i64 0, .int .i64 0, .int .i64 0]) w3.drew) := Lib.hid HQn.out.drew
  refine wp_region_held_drew (S := fun w' => w' = w3.drew) (by kernel_rfl) rfl (fun _ => ?_)
  refine wpAnyH_take (i := 0) (v := v) rfl (by kernel_rfl) (by kernel_rfl) (by kernel_rfl) (fun _ _ _ h => h) (Or.inl ⟨by rfl, fun w' hS => ?_⟩) rfl ?_
  · subst hS
    go_simp
  try simp only [Act.put, List.getElem_toArray, List.getElem_cons_zero, List.getElem_cons_succ, List.setIfInBounds_toArray, List.set_cons_zero, List.set_cons_succ]
  refine wpAnyH_take (i := 1) (v := .agg ([.int .i64 4, .slice A.M.qv A.M.nv A.M.cv, .slice A.M.qu A.M.nu A.M.cu, .slice A.M.qt A.M.nt A.M.ct, .int .i64 A.X.S, .slice A.X.q A.X.n A.X.c, .int .i64 (A.g 0), .int .i64 (A.g 1), .int .i64 (A.g 2), .int .i64 (A.g 3), .int .i64 (A.g 4), .int .i64 0, .int .i64 0, .int .i64 0, .int .i64 0, .int .i64 0, .int .i64 0, .int .i64 0, .int .i64 0, .int .i64 0, .int .i64 0, .int .i64 0, .int .i64 0, .int .i64 0]).toArray) rfl (by kernel_rfl) (by kernel_rfl) (by kernel_rfl) (fun _ _ _ h => h) (yieldsIf_load_mid (by rfl) 37 _ rfl Q 0 rfl ([.int .i64 4, .slice A.M.qv A.M.nv A.M.cv, .slice A.M.qu A.M.nu A.M.cu, .slice A.M.qt A.M.nt A.M.ct, .int .i64 A.X.S, .slice A.X.q A.X.n A.X.c, .int .i64 (A.g 0), .int .i64 (A.g 1), .int .i64 (A.g 2), .int .i64 (A.g 3), .int .i64 (A.g 4), .int .i64 0, .int .i64 0, .int .i64 0, .int .i64 0, .int .i64 0, .int .i64 0, .int .i64 0, .int .i64 0, .int .i64 0, .int .i64 0, .int .i64 0, .int .i64 0, .int .i64 0]) _ (fun w h => by rw [h]; exact SQ.out.cell) Tryd.underlying37 rfl (by kernel_rfl)) rfl ?_
  try simp only [Act.put, List.getElem_toArray, List.getElem_cons_zero, List.getElem_cons_succ, List.setIfInBounds_toArray, List.set_cons_zero, List.set_cons_succ]
  refine wpAnyH_take (i := 2) (v := .int .i64 z) rfl (by kernel_rfl) (by kernel_rfl) (by kernel_rfl) (fun _ _ _ h => h) (Or.inl ⟨by rfl, fun w' hS => ?_⟩) rfl ?_
  · subst hS
    go_simp
  try simp only [Act.put, List.getElem_toArray, List.getElem_cons_zero, List.getElem_cons_succ, List.setIfInBounds_toArray, List.set_cons_zero, List.set_cons_succ]
  refine wpAnyH_take (i := 3) (v := v) rfl (by kernel_rfl) (by kernel_rfl) (by kernel_rfl) (fun _ _ _ h => h) (Or.inl ⟨by rfl, fun w' hS => ?_⟩) rfl ?_
  · subst hS
    go_simp
  try simp only [Act.put, List.getElem_toArray, List.getElem_cons_zero, List.getElem_cons_succ, List.setIfInBounds_toArray, List.set_cons_zero, List.set_cons_succ]
  refine wpAnyH_ready (rs := [4]) (by kernel_rfl) (by simp) ?_
  refine AllReadyH.cons rfl (fun K hK => ?_) AllReadyH.nil
  refine step_store_self (by simp [Region.wanted]) 37 _ _ rfl Q #[.int .i64 4, .slice A.M.qv A.M.nv A.M.cv, .slice A.M.qu A.M.nu A.M.cu, .slice A.M.qt A.M.nt A.M.ct, .int .i64 A.X.S, .slice A.X.q A.X.n A.X.c, .int .i64 (A.g 0), .int .i64 (A.g 1), .int .i64 (A.g 2), .int .i64 (A.g 3), .int .i64 (A.g 4), .int .i64 0, .int .i64 0, .int .i64 0, .int .i64 0, .int .i64 0, .int .i64 0, .int .i64 0, .int .i64 0, .int .i64 0, .int .i64 0, .int .i64 0, .int .i64 0, .int .i64 0] rfl rfl SQ.out (by kernel_rfl) (by simp [Value.oneCell']) ?_
  refine hK.out _ _ rfl (fun _ => ?_)
  clear hK K
  try simp only [Act.put, List.getElem_toArray, List.getElem_cons_zero, List.getElem_cons_succ, List.setIfInBounds_toArray, List.set_cons_zero, List.set_cons_succ]
  refine wpAnyH_take (i := 5) (v := .int .i64 z) rfl (by kernel_rfl) (by kernel_rfl) (by kernel_rfl) (fun _ _ _ h => h) (Or.inl ⟨by rfl, fun w' hS => ?_⟩) rfl ?_
  · subst hS
    go_simp
  try simp only [Act.put, List.getElem_toArray, List.getElem_cons_zero, List.getElem_cons_succ, List.setIfInBounds_toArray, List.set_cons_zero, List.set_cons_succ]
  refine wpAnyH_done (by kernel_rfl) ?_ _
  clear SQ
  have HQd := Lib.hid (HQn.out.drew); have hB3 := hB2.drew; have RRd := Lib.hid (RRn.out.later (Below.refl _ _).drew (Nat.le_refl _))
  clear HQn hB2 RRn
  generalize w3.drew = w4 at *
  go_wp2_with (fail)
  have hL := run_loadVar_mid (P := Tryd.prog) _ Q 0 37 ([.int .i64 4, .slice A.M.qv A.M.nv A.M.cv, .slice A.M.qu A.M.nu A.M.cu, .slice A.M.qt A.M.nt A.M.ct, .int .i64 A.X.S, .slice A.X.q A.X.n A.X.c, .int .i64 (A.g 0), .int .i64 (A.g 1), .int .i64 (A.g 2), .int .i64 (A.g 3), .int .i64 (A.g 4), .int .i64 0, .int .i64 0, .int .i64 0, .int .i64 0, .int .i64 0, .int .i64 0, .int .i64 0, .int .i64 0, .int .i64 0, .int .i64 0, .int .i64 0, .int .i64 0, .int .i64 0]) _ HQd.out.cell Tryd.underlying37 rfl (by kernel_rfl)
  exact bodyPost_ret (v := .tuple #[v, .agg ([.int .i64 4, .slice A.M.qv A.M.nv A.M.cv, .slice A.M.qu A.M.nu A.M.cu, .slice A.M.qt A.M.nt A.M.ct, .int .i64 A.X.S, .slice A.X.q A.X.n A.X.c, .int .i64 (A.g 0), .int .i64 (A.g 1), .int .i64 (A.g 2), .int .i64 (A.g 3), .int .i64 (A.g 4), .int .i64 0, .int .i64 0, .int .i64 0, .int .i64 0, .int .i64 0, .int .i64 0, .int .i64 0, .int .i64 0, .int .i64 0, .int .i64 0, .int .i64 0, .int .i64 0, .int .i64 0]).toArray, .int .i64 z]) (res_tct Tryd.results35 rfl rfl hL rfl) rfl ⟨⟨_, rfl, RRd.out⟩, hB3⟩
end Go.Proofs.YtokfhhngnpbdkaaDoor
