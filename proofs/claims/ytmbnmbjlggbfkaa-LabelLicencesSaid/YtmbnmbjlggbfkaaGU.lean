/- A manifest among the arguments, opened. -/
import Derived.Test.YtmbnmbjlggbfkaaPC
import Derived.Test.YtmbnmbjlggbfkaaPJ
import Derived.Test.YtmbnmbjlggbfkaaGA
import Derived.WalkKit
import Derived.ProofKit
import Derived.OpenShut
import Derived.ChangeSame
namespace Go.Proofs.Ytmbnmbjlggbfkaa
set_option linter.unusedVariables false
set_option maxRecDepth 2000
set_option linter.unusedSimpArgs false
open Go.ChangeShapes Go.WideShapes Go.ChangeAt Go.RowKit Go.Joins Go.Deep
/-- what the fields of a manifest hold -/
structure InM (mi mk ml : Int) (mg : Nat → Int) (mf mt ms mc : Int) : Prop where
  hi : 0 ≤ mi ∧ mi < 18446744073709551616
  hk : -9223372036854775808 ≤ mk ∧ mk ≤ 9223372036854775807
  hl : 0 ≤ ml ∧ ml < 4294967296
  hg : ∀ j, j < 8 → inB (mg j)
  hf : 0 ≤ mf ∧ mf < 4294967296
  ht : 0 ≤ mt ∧ mt < 4294967296
  hs : -9223372036854775808 ≤ ms ∧ ms ≤ 9223372036854775807
  hc : -9223372036854775808 ≤ mc ∧ mc ≤ 9223372036854775807
theorem split15 (l : List Value) (h : l.length = 15) : l = (l.drop 0).take 1 ++ ((l.drop 1).take 1 ++ ((l.drop 2).take 1 ++ ((l.drop 3).take 8 ++ ((l.drop 11).take 1 ++ ((l.drop 12).take 1 ++ ((l.drop 13).take 1 ++ (l.drop 14).take 1)))))) := by
  apply List.ext_getElem?
  intro j
  simp only [List.getElem?_append, List.getElem?_take, List.getElem?_drop, List.length_take, List.length_drop, h]
  repeat' split
  all_goals first | rfl | (congr 1; omega) | (exfalso; omega) | (rw [List.getElem?_eq_none (by omega)])
set_option maxHeartbeats 1000000 in
theorem cs_man {H : Type} {enc : TypeId × Value → H} {w : World} {base : Nat} {spare : Nat → Bool} {held : Bool} {fuel : Nat} {cs : List Value} {x : DataW H × List MemPlace}
    (h : DataW.trod enc Try.prog w base spare held fuel 37 cs = some x) : ∃ mi mk ml mg mf mt ms mc, cs = [.int .u64 mi, .int .i64 mk, .int .u32 ml, .int .u8 (mg 0), .int .u8 (mg 1), .int .u8 (mg 2), .int .u8 (mg 3), .int .u8 (mg 4), .int .u8 (mg 5), .int .u8 (mg 6), .int .u8 (mg 7), .int .u32 mf, .int .u32 mt, .int .i64 ms, .int .i64 mc] ∧ InM mi mk ml mg mf mt ms mc := by
  obtain ⟨xs, n, _, rfl, hl, hlen, hf⟩ := DataW.trod_struct Try.underlying37 h
  have cS : Try.prog.cellsOf 37 = 15 := by kernel_rfl
  have c8 : Try.prog.cellsOf 29 = 8 := by kernel_rfl
  have cI : Try.prog.cellsOf 3 = 1 := by kernel_rfl
  have cQ : Try.prog.cellsOf 35 = 1 := by kernel_rfl
  have cU : Try.prog.cellsOf 23 = 1 := by kernel_rfl
  have c1 : Try.prog.cellsOf 5 = 1 := by kernel_rfl
  rw [cS] at hl
  match xs, hlen with
  | [y0, y1, y2, y3, y4, y5, y6, y7], _ =>
    have h0 : DataW.trod enc Try.prog w base spare held n 35 ((cs.drop 0).take (Try.prog.cellsOf 35)) = some y0 := hf 0 _ rfl
    rw [cQ] at h0
    have h1 : DataW.trod enc Try.prog w base spare held n 3 ((cs.drop 1).take (Try.prog.cellsOf 3)) = some y1 := hf 1 _ rfl
    rw [cI] at h1
    have h2 : DataW.trod enc Try.prog w base spare held n 23 ((cs.drop 2).take (Try.prog.cellsOf 23)) = some y2 := hf 2 _ rfl
    rw [cU] at h2
    have h3 : DataW.trod enc Try.prog w base spare held n 29 ((cs.drop 3).take (Try.prog.cellsOf 29)) = some y3 := hf 3 _ rfl
    rw [c8] at h3
    have h4 : DataW.trod enc Try.prog w base spare held n 23 ((cs.drop 11).take (Try.prog.cellsOf 23)) = some y4 := hf 4 _ rfl
    rw [cU] at h4
    have h5 : DataW.trod enc Try.prog w base spare held n 23 ((cs.drop 12).take (Try.prog.cellsOf 23)) = some y5 := hf 5 _ rfl
    rw [cU] at h5
    have h6 : DataW.trod enc Try.prog w base spare held n 3 ((cs.drop 13).take (Try.prog.cellsOf 3)) = some y6 := hf 6 _ rfl
    rw [cI] at h6
    have h7 : DataW.trod enc Try.prog w base spare held n 3 ((cs.drop 14).take (Try.prog.cellsOf 3)) = some y7 := hf 7 _ rfl
    rw [cI] at h7
    obtain ⟨mi, e0, _, w0⟩ := DataW.trod_int Try.underlying35 h0
    obtain ⟨mk, e1, _, w1⟩ := DataW.trod_int Try.underlying3 h1
    obtain ⟨ml, e2, _, w2⟩ := DataW.trod_int Try.underlying23 h2
    obtain ⟨zs, l3, e3, w3⟩ := trod_arr Try.underlying29 Try.underlying5 c1 c8 h3
    obtain ⟨mf, e4, _, w4⟩ := DataW.trod_int Try.underlying23 h4
    obtain ⟨mt, e5, _, w5⟩ := DataW.trod_int Try.underlying23 h5
    obtain ⟨ms, e6, _, w6⟩ := DataW.trod_int Try.underlying3 h6
    obtain ⟨mc, e7, _, w7⟩ := DataW.trod_int Try.underlying3 h7
    refine ⟨mi, mk, ml, fun j => zs.getD j 0, mf, mt, ms, mc, ?_, ⟨u64_wf w0, i64_wfc w1, u32_wf w2, fun j hj => ?_, u32_wf w4, u32_wf w5, i64_wfc w6, i64_wfc w7⟩⟩
    · have e := split15 cs hl
      rw [map_nums, l3] at e3
      rw [e0, e1, e2, e3, e4, e5, e6, e7] at e
      rw [e]
      rfl
    · have hk : j < zs.length := by omega
      exact u8_wf (w3 (zs.getD j 0) (by simp [hk]))
theorem open_man {H : Type} {enc : TypeId × Value → H} {w : World} {base : Nat} {spare : Nat → Bool} {held : Bool} {r : Reach} {b0 : Nat} {v : Value} {d : DataW H} {p : List MemPlace}
    (hv : Value.okWide Try.prog w r b0 37 v) (h : DataW.Trod enc Try.prog w base spare held 37 v d p) : ∃ mi mk ml mg mf mt ms mc, v = .agg #[.int .u64 mi, .int .i64 mk, .int .u32 ml, .int .u8 (mg 0), .int .u8 (mg 1), .int .u8 (mg 2), .int .u8 (mg 3), .int .u8 (mg 4), .int .u8 (mg 5), .int .u8 (mg 6), .int .u8 (mg 7), .int .u32 mf, .int .u32 mt, .int .i64 ms, .int .i64 mc] ∧ InM mi mk ml mg mf mt ms mc := by
  obtain ⟨cs, rfl, hsz⟩ := okWide_struct Try.underlying37 hv
  obtain ⟨fuel, hf⟩ := h
  obtain ⟨mi, mk, ml, mg, mf, mt, ms, mc, e, ha⟩ := cs_man hf
  refine ⟨mi, mk, ml, mg, mf, mt, ms, mc, ?_, ha⟩
  simp only [Value.cells] at e
  rw [show cs = cs.toList.toArray from by simp, e]
end Go.Proofs.Ytmbnmbjlggbfkaa
