/- aead: the numbers of the chapter's example. -/
import Derived.Test.YtjkeaiihjbcfgaaDoorYEF
import Derived.Test.YtjkeaiihjbcfgaaDoorYEJ
import Derived.Lib.Hide
namespace Go.Proofs.YtjkeaiihjbcfgaaDoor
set_option linter.unusedVariables false
set_option maxRecDepth 2000
set_option linter.unusedSimpArgs false
open Go.RowKit
theorem qAt_congr {s s' : Nat → Int} {a b c d : Nat} (h : ∀ i, i < 16 → s i = s' i) (ha : a < 16) (hb : b < 16) (hc : c < 16) (hd : d < 16) (i : Nat) (hi : i < 16) : qAt s a b c d i = qAt s' a b c d i := by
  unfold qAt at1
  rw [h a ha, h b hb, h c hc, h d hd, h i hi]
theorem partR_congr {s s' : Nat → Int} (h : ∀ i, i < 16 → s i = s' i) : ∀ t i, i < 16 → partR s t i = partR s' t i
  | 0, i, hi => h i hi
  | t + 1, i, hi => qAt_congr (partR_congr h t) (grp_lt 0 t (by omega)) (grp_lt 1 t (by omega)) (grp_lt 2 t (by omega)) (grp_lt 3 t (by omega)) i hi
def tabI (l : List Int) (i : Nat) : Int := l.getD i 0
theorem tab_next {s : Nat → Int} {l l' : List Int} {t : Nat} (h : ∀ i, i < 16 → iterR s t i = tabI l i) (hd : (List.range 16).all (fun i => roundF (tabI l) i == tabI l' i) = true) : ∀ i, i < 16 → iterR s (t + 1) i = tabI l' i := fun i hi => by
  have h1 : iterR s (t + 1) i = roundF (tabI l) i := partR_congr h 8 i hi
  have h2 := List.all_eq_true.1 hd i (List.mem_range.2 hi)
  rw [h1]
  simpa using h2
def ta0 : List Int := [1634760805, 857760878, 2036477234, 1797285236, 0, 0, 0, 0, 0, 0, 0, 0, 0, 1, 0, 0]
def ta1 : List Int := [50854619, 716710054, 3809118439, 2523179534, 717479496, 1302825787, 241396106, 4221081878, 1939789326, 172058113, 3095701457, 2308460889, 1800375096, 3811647190, 3097258041, 3345495034]
def ta2 : List Int := [1814817754, 3868949051, 1656193978, 3155223636, 23747501, 1962755149, 1869177195, 3613465023, 2053854891, 2845566799, 4277294651, 514281585, 2290537615, 1105996781, 1016468166, 164716420]
def ta3 : List Int := [1141297122, 2949100571, 3483998408, 524637327, 3704094186, 2404375743, 3134989886, 2385225476, 3131680288, 4187461657, 2149101878, 624494959, 4286328309, 2031583835, 3678337109, 1719773133]
def ta4 : List Int := [1055478711, 683647989, 4181501367, 1514572820, 1625304719, 276235267, 901250507, 3893799325, 739219523, 4070437691, 1375003043, 2143492282, 2214031256, 646206470, 593500504, 3447543045]
def ta5 : List Int := [1134997866, 1864905852, 2211177293, 1143995688, 305983128, 339963045, 243528175, 265610088, 4045414292, 1058368955, 1863357890, 2805861930, 259394733, 702171515, 2537012257, 3663343050]
def ta6 : List Int := [2061697895, 4079821987, 1058985970, 2060750644, 90652847, 2971865728, 3693052479, 413574859, 3556270986, 3167519708, 1260340717, 2883248292, 230394402, 1741437299, 318180837, 2909496479]
def ta7 : List Int := [4138854434, 3868404064, 1221101370, 474704475, 508959248, 3375264552, 2401903690, 2633789148, 3327969251, 3062374376, 2300933991, 1410648206, 4234144529, 3014730837, 2334996092, 781636098]
def ta8 : List Int := [1603064652, 783308456, 3499808689, 3934281776, 2620092459, 423253744, 3988382739, 2036939900, 2683661904, 3257316045, 190450016, 35165534, 885456966, 3487275095, 1212054350, 3802327721]
def ta9 : List Int := [249097879, 2778241118, 111292799, 95170030, 3804884946, 1548785891, 1181564232, 197266326, 3477057549, 1900667867, 797595986, 2517165690, 1168117473, 4235596366, 377768443, 1280860016]
def ta10 : List Int := [3635231704, 4111036210, 2895165739, 1781235058, 1546908, 3386196841, 2279833782, 979950651, 2554730840, 2425788569, 399344066, 2941870537, 3115680262, 1636451842, 3475505909, 1512792585]
theorem sa0 : (List.range 16).all (fun i => roundF (tabI ta0) i == tabI ta1 i) = true := by decide +kernel
theorem sa1 : (List.range 16).all (fun i => roundF (tabI ta1) i == tabI ta2 i) = true := by decide +kernel
theorem sa2 : (List.range 16).all (fun i => roundF (tabI ta2) i == tabI ta3 i) = true := by decide +kernel
theorem sa3 : (List.range 16).all (fun i => roundF (tabI ta3) i == tabI ta4 i) = true := by decide +kernel
theorem sa4 : (List.range 16).all (fun i => roundF (tabI ta4) i == tabI ta5 i) = true := by decide +kernel
theorem sa5 : (List.range 16).all (fun i => roundF (tabI ta5) i == tabI ta6 i) = true := by decide +kernel
theorem sa6 : (List.range 16).all (fun i => roundF (tabI ta6) i == tabI ta7 i) = true := by decide +kernel
theorem sa7 : (List.range 16).all (fun i => roundF (tabI ta7) i == tabI ta8 i) = true := by decide +kernel
theorem sa8 : (List.range 16).all (fun i => roundF (tabI ta8) i == tabI ta9 i) = true := by decide +kernel
theorem sa9 : (List.range 16).all (fun i => roundF (tabI ta9) i == tabI ta10 i) = true := by decide +kernel
def tb0 : List Int := [1634760805, 857760878, 2036477234, 1797285236, 0, 0, 0, 0, 0, 0, 0, 0, 1, 1, 0, 0]
def tb1 : List Int := [4094163675, 719855785, 3541010647, 2122070415, 3225457537, 3317633467, 435120746, 4185948444, 2006836782, 36497425, 3096745700, 1233602905, 726565944, 3861982950, 2827971017, 3346543373]
def tb2 : List Int := [2844619758, 1951094877, 2256593541, 350471821, 1469274326, 976318499, 3995238985, 1173776364, 2450168165, 3808558029, 2143807803, 1761724121, 351685926, 1220701289, 1083775612, 1479690896]
def tb3 : List Int := [4010211501, 2876020094, 1980403973, 1444779896, 2712861527, 3879752322, 2712132480, 618033755, 1194886617, 1878488881, 294520134, 312608635, 1602175290, 828059378, 740753467, 2373349263]
def tb4 : List Int := [430327122, 996045937, 3057240859, 3077547677, 3794101233, 2151551468, 1182224490, 2947992947, 3511205301, 829844710, 153990637, 3677177153, 2428992469, 620629153, 2928947489, 1206825589]
def tb5 : List Int := [3868460126, 3635776524, 3041625659, 3147486262, 2814185537, 3720948842, 3959510330, 1173228151, 3290000965, 2101105424, 1756660585, 3710114563, 2756408068, 2793854501, 3841319402, 3465997871]
def tb6 : List Int := [415792443, 4258043525, 3105224874, 3425747473, 968183353, 3269269935, 3742220934, 1526223570, 1990007645, 3388253430, 1546078586, 184867864, 1697137526, 3528035479, 1715707116, 2170852030]
def tb7 : List Int := [1673074341, 3414851716, 2926995902, 1610593, 1356563538, 1201796701, 2429496581, 2505147429, 4266640059, 2066179164, 3691190810, 2136575342, 2794661397, 715321662, 35032640, 1149419022]
def tb8 : List Int := [1008601280, 2550919656, 1081818545, 4219797593, 1318376109, 3366413391, 2443569692, 2161615704, 3466868213, 1820461452, 2935245613, 925732119, 3406278145, 2344990279, 2074745935, 3215719351]
def tb9 : List Int := [135087527, 3660927588, 2847286559, 3966890986, 796683444, 1509055394, 3768664083, 1616534491, 2156304712, 3789915494, 2781187795, 315800646, 194529321, 3488527700, 1696111259, 2917660299]
def tb10 : List Int := [2391177185, 3198660992, 3496569727, 2641938021, 1498517607, 600247364, 29388177, 278406696, 1712836153, 2957125034, 2159915869, 1212330394, 3787414940, 2574466598, 843807587, 2861200915]
theorem sb0 : (List.range 16).all (fun i => roundF (tabI tb0) i == tabI tb1 i) = true := by decide +kernel
theorem sb1 : (List.range 16).all (fun i => roundF (tabI tb1) i == tabI tb2 i) = true := by decide +kernel
theorem sb2 : (List.range 16).all (fun i => roundF (tabI tb2) i == tabI tb3 i) = true := by decide +kernel
theorem sb3 : (List.range 16).all (fun i => roundF (tabI tb3) i == tabI tb4 i) = true := by decide +kernel
theorem sb4 : (List.range 16).all (fun i => roundF (tabI tb4) i == tabI tb5 i) = true := by decide +kernel
theorem sb5 : (List.range 16).all (fun i => roundF (tabI tb5) i == tabI tb6 i) = true := by decide +kernel
theorem sb6 : (List.range 16).all (fun i => roundF (tabI tb6) i == tabI tb7 i) = true := by decide +kernel
theorem sb7 : (List.range 16).all (fun i => roundF (tabI tb7) i == tabI tb8 i) = true := by decide +kernel
theorem sb8 : (List.range 16).all (fun i => roundF (tabI tb8) i == tabI tb9 i) = true := by decide +kernel
theorem sb9 : (List.range 16).all (fun i => roundF (tabI tb9) i == tabI tb10 i) = true := by decide +kernel
def wz (_ : Nat) : Int := 0
def wn (i : Nat) : Int := if i = 0 then 1 else 0
def wa (_ : Nat) : Int := 97
def ptL : List Int := [112, 108, 97, 105, 110]
def keyL : List Int := [61, 180, 29, 58, 160, 211, 41, 40, 93, 230, 242, 37, 230, 226, 75, 213, 156, 154, 23, 0, 105, 67, 213, 201, 182, 128, 227, 135, 59, 220, 104, 58]
def strL : List Int := [70, 240, 246, 239, 238]
def sealL : List Int := [54, 156, 151, 134, 128, 56, 142, 19, 235, 41, 62, 125, 52, 79, 226, 52, 31, 213, 188, 66, 58]
def badL : List Int := [54, 156, 151, 130, 128, 56, 142, 19, 235, 41, 62, 125, 52, 79, 226, 52, 31, 213, 188, 66, 58]
def tagL1 : List Int := [56, 142, 19, 235, 41, 62, 125, 52, 79, 226, 52, 31, 213, 188, 66, 58]
def tagL2 : List Int := [28, 168, 226, 101, 231, 188, 64, 39, 109, 72, 99, 20, 37, 143, 6, 243]
theorem ia0 : (List.range 16).all (fun i => stF wz 0 wn i == tabI ta0 i) = true := by decide +kernel
theorem ja0 : ∀ i, i < 16 → iterR (stF wz 0 wn) 0 i = tabI ta0 i := fun i hi => by
  have h2 := List.all_eq_true.1 ia0 i (List.mem_range.2 hi)
  simpa [iterR] using h2
theorem ja1 : ∀ i, i < 16 → iterR (stF wz 0 wn) 1 i = tabI ta1 i := tab_next ja0 sa0
theorem ja2 : ∀ i, i < 16 → iterR (stF wz 0 wn) 2 i = tabI ta2 i := tab_next ja1 sa1
theorem ja3 : ∀ i, i < 16 → iterR (stF wz 0 wn) 3 i = tabI ta3 i := tab_next ja2 sa2
theorem ja4 : ∀ i, i < 16 → iterR (stF wz 0 wn) 4 i = tabI ta4 i := tab_next ja3 sa3
theorem ja5 : ∀ i, i < 16 → iterR (stF wz 0 wn) 5 i = tabI ta5 i := tab_next ja4 sa4
theorem ja6 : ∀ i, i < 16 → iterR (stF wz 0 wn) 6 i = tabI ta6 i := tab_next ja5 sa5
theorem ja7 : ∀ i, i < 16 → iterR (stF wz 0 wn) 7 i = tabI ta7 i := tab_next ja6 sa6
theorem ja8 : ∀ i, i < 16 → iterR (stF wz 0 wn) 8 i = tabI ta8 i := tab_next ja7 sa7
theorem ja9 : ∀ i, i < 16 → iterR (stF wz 0 wn) 9 i = tabI ta9 i := tab_next ja8 sa8
theorem ja10 : ∀ i, i < 16 → iterR (stF wz 0 wn) 10 i = tabI ta10 i := tab_next ja9 sa9
theorem ba (i : Nat) (hi : i < 64) : blkF wz 0 wn i = (tabI ta10 (i / 4) + tabI ta0 (i / 4)) % 4294967296 / 2 ^ (8 * (i % 4)) % 256 := by
  have h0 : stF wz 0 wn (i / 4) = tabI ta0 (i / 4) := ja0 (i / 4) (by omega)
  unfold blkF
  rw [ja10 (i / 4) (by omega), h0]
theorem ib0 : (List.range 16).all (fun i => stF wz 1 wn i == tabI tb0 i) = true := by decide +kernel
theorem jb0 : ∀ i, i < 16 → iterR (stF wz 1 wn) 0 i = tabI tb0 i := fun i hi => by
  have h2 := List.all_eq_true.1 ib0 i (List.mem_range.2 hi)
  simpa [iterR] using h2
theorem jb1 : ∀ i, i < 16 → iterR (stF wz 1 wn) 1 i = tabI tb1 i := tab_next jb0 sb0
theorem jb2 : ∀ i, i < 16 → iterR (stF wz 1 wn) 2 i = tabI tb2 i := tab_next jb1 sb1
theorem jb3 : ∀ i, i < 16 → iterR (stF wz 1 wn) 3 i = tabI tb3 i := tab_next jb2 sb2
theorem jb4 : ∀ i, i < 16 → iterR (stF wz 1 wn) 4 i = tabI tb4 i := tab_next jb3 sb3
theorem jb5 : ∀ i, i < 16 → iterR (stF wz 1 wn) 5 i = tabI tb5 i := tab_next jb4 sb4
theorem jb6 : ∀ i, i < 16 → iterR (stF wz 1 wn) 6 i = tabI tb6 i := tab_next jb5 sb5
theorem jb7 : ∀ i, i < 16 → iterR (stF wz 1 wn) 7 i = tabI tb7 i := tab_next jb6 sb6
theorem jb8 : ∀ i, i < 16 → iterR (stF wz 1 wn) 8 i = tabI tb8 i := tab_next jb7 sb7
theorem jb9 : ∀ i, i < 16 → iterR (stF wz 1 wn) 9 i = tabI tb9 i := tab_next jb8 sb8
theorem jb10 : ∀ i, i < 16 → iterR (stF wz 1 wn) 10 i = tabI tb10 i := tab_next jb9 sb9
theorem bb (i : Nat) (hi : i < 64) : blkF wz 1 wn i = (tabI tb10 (i / 4) + tabI tb0 (i / 4)) % 4294967296 / 2 ^ (8 * (i % 4)) % 256 := by
  have h0 : stF wz 1 wn (i / 4) = tabI tb0 (i / 4) := jb0 (i / 4) (by omega)
  unfold blkF
  rw [jb10 (i / 4) (by omega), h0]
theorem k_all : (List.range 32).all (fun i => (tabI ta10 (i / 4) + tabI ta0 (i / 4)) % 4294967296 / 2 ^ (8 * (i % 4)) % 256 == tabI keyL i) = true := by decide +kernel
theorem s_all : (List.range 5).all (fun i => (tabI tb10 (i / 4) + tabI tb0 (i / 4)) % 4294967296 / 2 ^ (8 * (i % 4)) % 256 == tabI strL i) = true := by decide +kernel
theorem key_at (i : Nat) (hi : i < 32) : blkF wz 0 wn i = tabI keyL i := by
  rw [ba i (by omega)]
  simpa using List.all_eq_true.1 k_all i (List.mem_range.2 hi)
theorem str_at (i : Nat) (hi : i < 5) : strF wz 1 wn i = tabI strL i := by
  unfold strF
  rw [show i / 64 = 0 by omega, show i % 64 = i by omega]
  rw [show ((1 : Int) + ((0 : Nat) : Int)) % 4294967296 = 1 from rfl, bb i (by omega)]
  simpa using List.all_eq_true.1 s_all i (List.mem_range.2 hi)
theorem tagN_key {k k' f : Nat → Int} (n : Nat) (h : ∀ i, i < 32 → k i = k' i) : tagN k f n = tagN k' f n := by
  have h1 : facN k = facN k' := numB_congr (fun i hi => by unfold clampF; rw [h i (by omega)])
  have h2 : numB (fun i => k (16 + i)) 16 = numB (fun i => k' (16 + i)) 16 := numB_congr (fun i hi => h _ (by omega))
  unfold tagN
  rw [h1, h2]
theorem fillF_congr {g g' : Nat → Int} {m : Nat} (h : ∀ j, j < m → g j = g' j) : fillF g m = fillF g' m := funext fun j => by
  unfold fillF
  split
  · rename_i hj; exact h j hj
  · rfl
/-- a tag hangs on the bytes that there are -/
theorem macF_congr {kf nf f f' g g' : Nat → Int} {n m : Nat} (hf : ∀ j, j < n → f j = f' j) (hg : ∀ j, j < m → g j = g' j) : macF kf nf f n g m = macF kf nf f' n g' m := by
  unfold macF macN
  have e : layF f n g m = layF f' n g' m := funext fun j => by
    unfold layF
    rw [fillF_congr hf, fillF_congr hg]
  rw [e]
theorem m1_all : (List.range 16).all (fun i => byt (tagN (tabI keyL) (layF wa 1 (tabI sealL) 5) (layL 1 5)) i == tabI tagL1 i) = true := by decide +kernel
theorem m2_all : (List.range 16).all (fun i => byt (tagN (tabI keyL) (layF wa 1 (tabI badL) 5) (layL 1 5)) i == tabI tagL2 i) = true := by decide +kernel
theorem mac1 (i : Nat) (hi : i < 16) : macF wz wn wa 1 (tabI sealL) 5 i = tabI tagL1 i := by
  unfold macF macN
  rw [tagN_key _ key_at]
  simpa using List.all_eq_true.1 m1_all i (List.mem_range.2 hi)
theorem mac2 (i : Nat) (hi : i < 16) : macF wz wn wa 1 (tabI badL) 5 i = tabI tagL2 i := by
  unfold macF macN
  rw [tagN_key _ key_at]
  simpa using List.all_eq_true.1 m2_all i (List.mem_range.2 hi)
theorem e1_all : (List.range 5).all (fun i => xorB (tabI ptL i) (tabI strL i) == tabI sealL i) = true := by decide +kernel
theorem e2_all : (List.range 5).all (fun i => xorB (tabI sealL i) (tabI strL i) == tabI ptL i) = true := by decide +kernel
theorem enc1 (i : Nat) (hi : i < 5) : encF wz wn (tabI ptL) i = tabI sealL i := by
  unfold encF
  rw [str_at i hi]
  simpa using List.all_eq_true.1 e1_all i (List.mem_range.2 hi)
theorem enc2 (i : Nat) (hi : i < 5) : encF wz wn (tabI sealL) i = tabI ptL i := by
  unfold encF
  rw [str_at i hi]
  simpa using List.all_eq_true.1 e2_all i (List.mem_range.2 hi)
theorem t_all : (List.range 16).all (fun i => tabI sealL (5 + i) == tabI tagL1 i) = true := by decide +kernel
theorem seal_at (i : Nat) (hi : i < 21) : sealF wz wn wa 1 (tabI ptL) 5 i = tabI sealL i := by
  unfold sealF
  split
  · exact enc1 i (by assumption)
  · rename_i h
    rw [macF_congr (g' := tabI sealL) (fun _ _ => rfl) enc1, mac1 (i - 5) (by omega)]
    have := List.all_eq_true.1 t_all (i - 5) (List.mem_range.2 (by omega))
    rw [show 5 + (i - 5) = i by omega] at this
    exact (by simpa using this : tabI sealL i = tabI tagL1 (i - 5)).symm
theorem z1 : eqB (fun j => tabI sealL (5 + j)) (macF wz wn wa 1 (tabI sealL) 5) 16 = true := eqB_congr fun i hi => by
  rw [mac1 i hi]
  simpa using List.all_eq_true.1 t_all i (List.mem_range.2 hi)
theorem z2 : eqB (fun j => tabI badL (5 + j)) (macF wz wn wa 1 (tabI badL) 5) 16 = false := by
  cases h : eqB (fun j => tabI badL (5 + j)) (macF wz wn wa 1 (tabI badL) 5) 16 with
  | false => rfl
  | true =>
    have h1 : tabI badL (5 + 0) = macF wz wn wa 1 (tabI badL) 5 0 := of_decide_eq_true h 0 (by decide)
    rw [mac2 0 (by decide)] at h1
    exact absurd h1 (by decide +kernel)
theorem bad_at (z : Int) (hz : z = 130) (i : Nat) (hi : i < 21) : at1 (tabI sealL) 3 z i = tabI badL i := by
  subst hz
  have h : (List.range 21).all (fun i => at1 (tabI sealL) 3 130 i == tabI badL i) = true := by decide +kernel
  simpa using List.all_eq_true.1 h i (List.mem_range.2 hi)
end Go.Proofs.YtjkeaiihjbcfgaaDoor
