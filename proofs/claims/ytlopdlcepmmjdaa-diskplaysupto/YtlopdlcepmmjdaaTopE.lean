import Derived.Test.YtlopdlcepmmjdaaRowz
import Derived.Deep.RegionHeld3
import Derived.Test.YtlopdlcepmmjdaaTopD
/-
  Laws for drawn regions, by genreg.py. No program.
-/
namespace Go.Proofs.Ytlopdlcepmmjdaa
open Go Go.RowKit Go.BigFrame
set_option linter.unusedVariables false
set_option linter.unusedSimpArgs false
section
variable {P : Program} {Q : Exit → Act → World → Prop}
theorem wp_lk31 {id : Nat} {o0 o1 o2 o3 o4 o5 o6 o7 o8 o9 o10 o11 o12 o13 o14 o15 o16 o17 o18 o19 o20 o21 o22 o23 o24 o25 o26 o27 o28 o29 o30 : Oper} {a : Act} {w : World} (hm : P.follows .mixedOrders = true) (hs : Region.noSelect #[o0, o1, o2, o3, o4, o5, o6, o7, o8, o9, o10, o11, o12, o13, o14, o15, o16, o17, o18, o19, o20, o21, o22, o23, o24, o25, o26, o27, o28, o29, o30] = true)
    (f0 : Region.free .any #[o0, o1, o2, o3, o4, o5, o6, o7, o8, o9, o10, o11, o12, o13, o14, o15, o16, o17, o18, o19, o20, o21, o22, o23, o24, o25, o26, o27, o28, o29, o30] #[false, false, false, false, false, false, false, false, false, false, false, false, false, false, false, false, false, false, false, false, false, false, false, false, false, false, false, false, false, false, false] 0 = true) (r0 : (Region.ready .any #[o0, o1, o2, o3, o4, o5, o6, o7, o8, o9, o10, o11, o12, o13, o14, o15, o16, o17, o18, o19, o20, o21, o22, o23, o24, o25, o26, o27, o28, o29, o30] #[false, false, false, false, false, false, false, false, false, false, false, false, false, false, false, false, false, false, false, false, false, false, false, false, false, false, false, false, false, false, false]).contains 0 = true)
    (f2 : Region.free .any #[o0, o1, o2, o3, o4, o5, o6, o7, o8, o9, o10, o11, o12, o13, o14, o15, o16, o17, o18, o19, o20, o21, o22, o23, o24, o25, o26, o27, o28, o29, o30] #[true, false, false, false, false, false, false, false, false, false, false, false, false, false, false, false, false, false, false, false, false, false, false, false, false, false, false, false, false, false, false] 2 = true) (r2 : (Region.ready .any #[o0, o1, o2, o3, o4, o5, o6, o7, o8, o9, o10, o11, o12, o13, o14, o15, o16, o17, o18, o19, o20, o21, o22, o23, o24, o25, o26, o27, o28, o29, o30] #[true, false, false, false, false, false, false, false, false, false, false, false, false, false, false, false, false, false, false, false, false, false, false, false, false, false, false, false, false, false, false]).contains 2 = true)
    (q_ : Region.ready .any #[o0, o1, o2, o3, o4, o5, o6, o7, o8, o9, o10, o11, o12, o13, o14, o15, o16, o17, o18, o19, o20, o21, o22, o23, o24, o25, o26, o27, o28, o29, o30] #[true, false, true, false, false, false, false, false, false, false, false, false, false, false, false, false, false, false, false, false, false, false, false, false, false, false, false, false, false, false, false] = [1])
    (q1_ : Region.ready .any #[o0, o1, o2, o3, o4, o5, o6, o7, o8, o9, o10, o11, o12, o13, o14, o15, o16, o17, o18, o19, o20, o21, o22, o23, o24, o25, o26, o27, o28, o29, o30] #[true, true, true, false, false, false, false, false, false, false, false, false, false, false, false, false, false, false, false, false, false, false, false, false, false, false, false, false, false, false, false] = [3])
    (q1_3_ : Region.ready .any #[o0, o1, o2, o3, o4, o5, o6, o7, o8, o9, o10, o11, o12, o13, o14, o15, o16, o17, o18, o19, o20, o21, o22, o23, o24, o25, o26, o27, o28, o29, o30] #[true, true, true, true, false, false, false, false, false, false, false, false, false, false, false, false, false, false, false, false, false, false, false, false, false, false, false, false, false, false, false] = [4])
    (f1_3_4_5 : Region.free .any #[o0, o1, o2, o3, o4, o5, o6, o7, o8, o9, o10, o11, o12, o13, o14, o15, o16, o17, o18, o19, o20, o21, o22, o23, o24, o25, o26, o27, o28, o29, o30] #[true, true, true, true, true, false, false, false, false, false, false, false, false, false, false, false, false, false, false, false, false, false, false, false, false, false, false, false, false, false, false] 5 = true) (r1_3_4_5 : (Region.ready .any #[o0, o1, o2, o3, o4, o5, o6, o7, o8, o9, o10, o11, o12, o13, o14, o15, o16, o17, o18, o19, o20, o21, o22, o23, o24, o25, o26, o27, o28, o29, o30] #[true, true, true, true, true, false, false, false, false, false, false, false, false, false, false, false, false, false, false, false, false, false, false, false, false, false, false, false, false, false, false]).contains 5 = true)
    (f1_3_4_6 : Region.free .any #[o0, o1, o2, o3, o4, o5, o6, o7, o8, o9, o10, o11, o12, o13, o14, o15, o16, o17, o18, o19, o20, o21, o22, o23, o24, o25, o26, o27, o28, o29, o30] #[true, true, true, true, true, true, false, false, false, false, false, false, false, false, false, false, false, false, false, false, false, false, false, false, false, false, false, false, false, false, false] 6 = true) (r1_3_4_6 : (Region.ready .any #[o0, o1, o2, o3, o4, o5, o6, o7, o8, o9, o10, o11, o12, o13, o14, o15, o16, o17, o18, o19, o20, o21, o22, o23, o24, o25, o26, o27, o28, o29, o30] #[true, true, true, true, true, true, false, false, false, false, false, false, false, false, false, false, false, false, false, false, false, false, false, false, false, false, false, false, false, false, false]).contains 6 = true)
    (f1_3_4_8 : Region.free .any #[o0, o1, o2, o3, o4, o5, o6, o7, o8, o9, o10, o11, o12, o13, o14, o15, o16, o17, o18, o19, o20, o21, o22, o23, o24, o25, o26, o27, o28, o29, o30] #[true, true, true, true, true, true, true, false, false, false, false, false, false, false, false, false, false, false, false, false, false, false, false, false, false, false, false, false, false, false, false] 8 = true) (r1_3_4_8 : (Region.ready .any #[o0, o1, o2, o3, o4, o5, o6, o7, o8, o9, o10, o11, o12, o13, o14, o15, o16, o17, o18, o19, o20, o21, o22, o23, o24, o25, o26, o27, o28, o29, o30] #[true, true, true, true, true, true, true, false, false, false, false, false, false, false, false, false, false, false, false, false, false, false, false, false, false, false, false, false, false, false, false]).contains 8 = true)
    (q1_3_4_ : Region.ready .any #[o0, o1, o2, o3, o4, o5, o6, o7, o8, o9, o10, o11, o12, o13, o14, o15, o16, o17, o18, o19, o20, o21, o22, o23, o24, o25, o26, o27, o28, o29, o30] #[true, true, true, true, true, true, true, false, true, false, false, false, false, false, false, false, false, false, false, false, false, false, false, false, false, false, false, false, false, false, false] = [7])
    (q1_3_4_7_ : Region.ready .any #[o0, o1, o2, o3, o4, o5, o6, o7, o8, o9, o10, o11, o12, o13, o14, o15, o16, o17, o18, o19, o20, o21, o22, o23, o24, o25, o26, o27, o28, o29, o30] #[true, true, true, true, true, true, true, true, true, false, false, false, false, false, false, false, false, false, false, false, false, false, false, false, false, false, false, false, false, false, false] = [9])
    (q1_3_4_7_9_ : Region.ready .any #[o0, o1, o2, o3, o4, o5, o6, o7, o8, o9, o10, o11, o12, o13, o14, o15, o16, o17, o18, o19, o20, o21, o22, o23, o24, o25, o26, o27, o28, o29, o30] #[true, true, true, true, true, true, true, true, true, true, false, false, false, false, false, false, false, false, false, false, false, false, false, false, false, false, false, false, false, false, false] = [10])
    (f1_3_4_7_9_10_11 : Region.free .any #[o0, o1, o2, o3, o4, o5, o6, o7, o8, o9, o10, o11, o12, o13, o14, o15, o16, o17, o18, o19, o20, o21, o22, o23, o24, o25, o26, o27, o28, o29, o30] #[true, true, true, true, true, true, true, true, true, true, true, false, false, false, false, false, false, false, false, false, false, false, false, false, false, false, false, false, false, false, false] 11 = true) (r1_3_4_7_9_10_11 : (Region.ready .any #[o0, o1, o2, o3, o4, o5, o6, o7, o8, o9, o10, o11, o12, o13, o14, o15, o16, o17, o18, o19, o20, o21, o22, o23, o24, o25, o26, o27, o28, o29, o30] #[true, true, true, true, true, true, true, true, true, true, true, false, false, false, false, false, false, false, false, false, false, false, false, false, false, false, false, false, false, false, false]).contains 11 = true)
    (f1_3_4_7_9_10_12 : Region.free .any #[o0, o1, o2, o3, o4, o5, o6, o7, o8, o9, o10, o11, o12, o13, o14, o15, o16, o17, o18, o19, o20, o21, o22, o23, o24, o25, o26, o27, o28, o29, o30] #[true, true, true, true, true, true, true, true, true, true, true, true, false, false, false, false, false, false, false, false, false, false, false, false, false, false, false, false, false, false, false] 12 = true) (r1_3_4_7_9_10_12 : (Region.ready .any #[o0, o1, o2, o3, o4, o5, o6, o7, o8, o9, o10, o11, o12, o13, o14, o15, o16, o17, o18, o19, o20, o21, o22, o23, o24, o25, o26, o27, o28, o29, o30] #[true, true, true, true, true, true, true, true, true, true, true, true, false, false, false, false, false, false, false, false, false, false, false, false, false, false, false, false, false, false, false]).contains 12 = true)
    (f1_3_4_7_9_10_13 : Region.free .any #[o0, o1, o2, o3, o4, o5, o6, o7, o8, o9, o10, o11, o12, o13, o14, o15, o16, o17, o18, o19, o20, o21, o22, o23, o24, o25, o26, o27, o28, o29, o30] #[true, true, true, true, true, true, true, true, true, true, true, true, true, false, false, false, false, false, false, false, false, false, false, false, false, false, false, false, false, false, false] 13 = true) (r1_3_4_7_9_10_13 : (Region.ready .any #[o0, o1, o2, o3, o4, o5, o6, o7, o8, o9, o10, o11, o12, o13, o14, o15, o16, o17, o18, o19, o20, o21, o22, o23, o24, o25, o26, o27, o28, o29, o30] #[true, true, true, true, true, true, true, true, true, true, true, true, true, false, false, false, false, false, false, false, false, false, false, false, false, false, false, false, false, false, false]).contains 13 = true)
    (f1_3_4_7_9_10_15 : Region.free .any #[o0, o1, o2, o3, o4, o5, o6, o7, o8, o9, o10, o11, o12, o13, o14, o15, o16, o17, o18, o19, o20, o21, o22, o23, o24, o25, o26, o27, o28, o29, o30] #[true, true, true, true, true, true, true, true, true, true, true, true, true, true, false, false, false, false, false, false, false, false, false, false, false, false, false, false, false, false, false] 15 = true) (r1_3_4_7_9_10_15 : (Region.ready .any #[o0, o1, o2, o3, o4, o5, o6, o7, o8, o9, o10, o11, o12, o13, o14, o15, o16, o17, o18, o19, o20, o21, o22, o23, o24, o25, o26, o27, o28, o29, o30] #[true, true, true, true, true, true, true, true, true, true, true, true, true, true, false, false, false, false, false, false, false, false, false, false, false, false, false, false, false, false, false]).contains 15 = true)
    (f1_3_4_7_9_10_16 : Region.free .any #[o0, o1, o2, o3, o4, o5, o6, o7, o8, o9, o10, o11, o12, o13, o14, o15, o16, o17, o18, o19, o20, o21, o22, o23, o24, o25, o26, o27, o28, o29, o30] #[true, true, true, true, true, true, true, true, true, true, true, true, true, true, false, true, false, false, false, false, false, false, false, false, false, false, false, false, false, false, false] 16 = true) (r1_3_4_7_9_10_16 : (Region.ready .any #[o0, o1, o2, o3, o4, o5, o6, o7, o8, o9, o10, o11, o12, o13, o14, o15, o16, o17, o18, o19, o20, o21, o22, o23, o24, o25, o26, o27, o28, o29, o30] #[true, true, true, true, true, true, true, true, true, true, true, true, true, true, false, true, false, false, false, false, false, false, false, false, false, false, false, false, false, false, false]).contains 16 = true)
    (f1_3_4_7_9_10_17 : Region.free .any #[o0, o1, o2, o3, o4, o5, o6, o7, o8, o9, o10, o11, o12, o13, o14, o15, o16, o17, o18, o19, o20, o21, o22, o23, o24, o25, o26, o27, o28, o29, o30] #[true, true, true, true, true, true, true, true, true, true, true, true, true, true, false, true, true, false, false, false, false, false, false, false, false, false, false, false, false, false, false] 17 = true) (r1_3_4_7_9_10_17 : (Region.ready .any #[o0, o1, o2, o3, o4, o5, o6, o7, o8, o9, o10, o11, o12, o13, o14, o15, o16, o17, o18, o19, o20, o21, o22, o23, o24, o25, o26, o27, o28, o29, o30] #[true, true, true, true, true, true, true, true, true, true, true, true, true, true, false, true, true, false, false, false, false, false, false, false, false, false, false, false, false, false, false]).contains 17 = true)
    (f1_3_4_7_9_10_18 : Region.free .any #[o0, o1, o2, o3, o4, o5, o6, o7, o8, o9, o10, o11, o12, o13, o14, o15, o16, o17, o18, o19, o20, o21, o22, o23, o24, o25, o26, o27, o28, o29, o30] #[true, true, true, true, true, true, true, true, true, true, true, true, true, true, false, true, true, true, false, false, false, false, false, false, false, false, false, false, false, false, false] 18 = true) (r1_3_4_7_9_10_18 : (Region.ready .any #[o0, o1, o2, o3, o4, o5, o6, o7, o8, o9, o10, o11, o12, o13, o14, o15, o16, o17, o18, o19, o20, o21, o22, o23, o24, o25, o26, o27, o28, o29, o30] #[true, true, true, true, true, true, true, true, true, true, true, true, true, true, false, true, true, true, false, false, false, false, false, false, false, false, false, false, false, false, false]).contains 18 = true)
    (q1_3_4_7_9_10_ : Region.ready .any #[o0, o1, o2, o3, o4, o5, o6, o7, o8, o9, o10, o11, o12, o13, o14, o15, o16, o17, o18, o19, o20, o21, o22, o23, o24, o25, o26, o27, o28, o29, o30] #[true, true, true, true, true, true, true, true, true, true, true, true, true, true, false, true, true, true, true, false, false, false, false, false, false, false, false, false, false, false, false] = [14])
    (f1_3_4_7_9_10_14_19 : Region.free .any #[o0, o1, o2, o3, o4, o5, o6, o7, o8, o9, o10, o11, o12, o13, o14, o15, o16, o17, o18, o19, o20, o21, o22, o23, o24, o25, o26, o27, o28, o29, o30] #[true, true, true, true, true, true, true, true, true, true, true, true, true, true, true, true, true, true, true, false, false, false, false, false, false, false, false, false, false, false, false] 19 = true) (r1_3_4_7_9_10_14_19 : (Region.ready .any #[o0, o1, o2, o3, o4, o5, o6, o7, o8, o9, o10, o11, o12, o13, o14, o15, o16, o17, o18, o19, o20, o21, o22, o23, o24, o25, o26, o27, o28, o29, o30] #[true, true, true, true, true, true, true, true, true, true, true, true, true, true, true, true, true, true, true, false, false, false, false, false, false, false, false, false, false, false, false]).contains 19 = true)
    (f1_3_4_7_9_10_14_20 : Region.free .any #[o0, o1, o2, o3, o4, o5, o6, o7, o8, o9, o10, o11, o12, o13, o14, o15, o16, o17, o18, o19, o20, o21, o22, o23, o24, o25, o26, o27, o28, o29, o30] #[true, true, true, true, true, true, true, true, true, true, true, true, true, true, true, true, true, true, true, true, false, false, false, false, false, false, false, false, false, false, false] 20 = true) (r1_3_4_7_9_10_14_20 : (Region.ready .any #[o0, o1, o2, o3, o4, o5, o6, o7, o8, o9, o10, o11, o12, o13, o14, o15, o16, o17, o18, o19, o20, o21, o22, o23, o24, o25, o26, o27, o28, o29, o30] #[true, true, true, true, true, true, true, true, true, true, true, true, true, true, true, true, true, true, true, true, false, false, false, false, false, false, false, false, false, false, false]).contains 20 = true)
    (f1_3_4_7_9_10_14_21 : Region.free .any #[o0, o1, o2, o3, o4, o5, o6, o7, o8, o9, o10, o11, o12, o13, o14, o15, o16, o17, o18, o19, o20, o21, o22, o23, o24, o25, o26, o27, o28, o29, o30] #[true, true, true, true, true, true, true, true, true, true, true, true, true, true, true, true, true, true, true, true, true, false, false, false, false, false, false, false, false, false, false] 21 = true) (r1_3_4_7_9_10_14_21 : (Region.ready .any #[o0, o1, o2, o3, o4, o5, o6, o7, o8, o9, o10, o11, o12, o13, o14, o15, o16, o17, o18, o19, o20, o21, o22, o23, o24, o25, o26, o27, o28, o29, o30] #[true, true, true, true, true, true, true, true, true, true, true, true, true, true, true, true, true, true, true, true, true, false, false, false, false, false, false, false, false, false, false]).contains 21 = true)
    (f1_3_4_7_9_10_14_22 : Region.free .any #[o0, o1, o2, o3, o4, o5, o6, o7, o8, o9, o10, o11, o12, o13, o14, o15, o16, o17, o18, o19, o20, o21, o22, o23, o24, o25, o26, o27, o28, o29, o30] #[true, true, true, true, true, true, true, true, true, true, true, true, true, true, true, true, true, true, true, true, true, true, false, false, false, false, false, false, false, false, false] 22 = true) (r1_3_4_7_9_10_14_22 : (Region.ready .any #[o0, o1, o2, o3, o4, o5, o6, o7, o8, o9, o10, o11, o12, o13, o14, o15, o16, o17, o18, o19, o20, o21, o22, o23, o24, o25, o26, o27, o28, o29, o30] #[true, true, true, true, true, true, true, true, true, true, true, true, true, true, true, true, true, true, true, true, true, true, false, false, false, false, false, false, false, false, false]).contains 22 = true)
    (f1_3_4_7_9_10_14_24 : Region.free .any #[o0, o1, o2, o3, o4, o5, o6, o7, o8, o9, o10, o11, o12, o13, o14, o15, o16, o17, o18, o19, o20, o21, o22, o23, o24, o25, o26, o27, o28, o29, o30] #[true, true, true, true, true, true, true, true, true, true, true, true, true, true, true, true, true, true, true, true, true, true, true, false, false, false, false, false, false, false, false] 24 = true) (r1_3_4_7_9_10_14_24 : (Region.ready .any #[o0, o1, o2, o3, o4, o5, o6, o7, o8, o9, o10, o11, o12, o13, o14, o15, o16, o17, o18, o19, o20, o21, o22, o23, o24, o25, o26, o27, o28, o29, o30] #[true, true, true, true, true, true, true, true, true, true, true, true, true, true, true, true, true, true, true, true, true, true, true, false, false, false, false, false, false, false, false]).contains 24 = true)
    (f1_3_4_7_9_10_14_25 : Region.free .any #[o0, o1, o2, o3, o4, o5, o6, o7, o8, o9, o10, o11, o12, o13, o14, o15, o16, o17, o18, o19, o20, o21, o22, o23, o24, o25, o26, o27, o28, o29, o30] #[true, true, true, true, true, true, true, true, true, true, true, true, true, true, true, true, true, true, true, true, true, true, true, false, true, false, false, false, false, false, false] 25 = true) (r1_3_4_7_9_10_14_25 : (Region.ready .any #[o0, o1, o2, o3, o4, o5, o6, o7, o8, o9, o10, o11, o12, o13, o14, o15, o16, o17, o18, o19, o20, o21, o22, o23, o24, o25, o26, o27, o28, o29, o30] #[true, true, true, true, true, true, true, true, true, true, true, true, true, true, true, true, true, true, true, true, true, true, true, false, true, false, false, false, false, false, false]).contains 25 = true)
    (f1_3_4_7_9_10_14_26 : Region.free .any #[o0, o1, o2, o3, o4, o5, o6, o7, o8, o9, o10, o11, o12, o13, o14, o15, o16, o17, o18, o19, o20, o21, o22, o23, o24, o25, o26, o27, o28, o29, o30] #[true, true, true, true, true, true, true, true, true, true, true, true, true, true, true, true, true, true, true, true, true, true, true, false, true, true, false, false, false, false, false] 26 = true) (r1_3_4_7_9_10_14_26 : (Region.ready .any #[o0, o1, o2, o3, o4, o5, o6, o7, o8, o9, o10, o11, o12, o13, o14, o15, o16, o17, o18, o19, o20, o21, o22, o23, o24, o25, o26, o27, o28, o29, o30] #[true, true, true, true, true, true, true, true, true, true, true, true, true, true, true, true, true, true, true, true, true, true, true, false, true, true, false, false, false, false, false]).contains 26 = true)
    (f1_3_4_7_9_10_14_27 : Region.free .any #[o0, o1, o2, o3, o4, o5, o6, o7, o8, o9, o10, o11, o12, o13, o14, o15, o16, o17, o18, o19, o20, o21, o22, o23, o24, o25, o26, o27, o28, o29, o30] #[true, true, true, true, true, true, true, true, true, true, true, true, true, true, true, true, true, true, true, true, true, true, true, false, true, true, true, false, false, false, false] 27 = true) (r1_3_4_7_9_10_14_27 : (Region.ready .any #[o0, o1, o2, o3, o4, o5, o6, o7, o8, o9, o10, o11, o12, o13, o14, o15, o16, o17, o18, o19, o20, o21, o22, o23, o24, o25, o26, o27, o28, o29, o30] #[true, true, true, true, true, true, true, true, true, true, true, true, true, true, true, true, true, true, true, true, true, true, true, false, true, true, true, false, false, false, false]).contains 27 = true)
    (q1_3_4_7_9_10_14_ : Region.ready .any #[o0, o1, o2, o3, o4, o5, o6, o7, o8, o9, o10, o11, o12, o13, o14, o15, o16, o17, o18, o19, o20, o21, o22, o23, o24, o25, o26, o27, o28, o29, o30] #[true, true, true, true, true, true, true, true, true, true, true, true, true, true, true, true, true, true, true, true, true, true, true, false, true, true, true, true, false, false, false] = [23])
    (f1_3_4_7_9_10_14_23_28 : Region.free .any #[o0, o1, o2, o3, o4, o5, o6, o7, o8, o9, o10, o11, o12, o13, o14, o15, o16, o17, o18, o19, o20, o21, o22, o23, o24, o25, o26, o27, o28, o29, o30] #[true, true, true, true, true, true, true, true, true, true, true, true, true, true, true, true, true, true, true, true, true, true, true, true, true, true, true, true, false, false, false] 28 = true) (r1_3_4_7_9_10_14_23_28 : (Region.ready .any #[o0, o1, o2, o3, o4, o5, o6, o7, o8, o9, o10, o11, o12, o13, o14, o15, o16, o17, o18, o19, o20, o21, o22, o23, o24, o25, o26, o27, o28, o29, o30] #[true, true, true, true, true, true, true, true, true, true, true, true, true, true, true, true, true, true, true, true, true, true, true, true, true, true, true, true, false, false, false]).contains 28 = true)
    (f1_3_4_7_9_10_14_23_29 : Region.free .any #[o0, o1, o2, o3, o4, o5, o6, o7, o8, o9, o10, o11, o12, o13, o14, o15, o16, o17, o18, o19, o20, o21, o22, o23, o24, o25, o26, o27, o28, o29, o30] #[true, true, true, true, true, true, true, true, true, true, true, true, true, true, true, true, true, true, true, true, true, true, true, true, true, true, true, true, true, false, false] 29 = true) (r1_3_4_7_9_10_14_23_29 : (Region.ready .any #[o0, o1, o2, o3, o4, o5, o6, o7, o8, o9, o10, o11, o12, o13, o14, o15, o16, o17, o18, o19, o20, o21, o22, o23, o24, o25, o26, o27, o28, o29, o30] #[true, true, true, true, true, true, true, true, true, true, true, true, true, true, true, true, true, true, true, true, true, true, true, true, true, true, true, true, true, false, false]).contains 29 = true)
    (f1_3_4_7_9_10_14_23_30 : Region.free .any #[o0, o1, o2, o3, o4, o5, o6, o7, o8, o9, o10, o11, o12, o13, o14, o15, o16, o17, o18, o19, o20, o21, o22, o23, o24, o25, o26, o27, o28, o29, o30] #[true, true, true, true, true, true, true, true, true, true, true, true, true, true, true, true, true, true, true, true, true, true, true, true, true, true, true, true, true, true, false] 30 = true) (r1_3_4_7_9_10_14_23_30 : (Region.ready .any #[o0, o1, o2, o3, o4, o5, o6, o7, o8, o9, o10, o11, o12, o13, o14, o15, o16, o17, o18, o19, o20, o21, o22, o23, o24, o25, o26, o27, o28, o29, o30] #[true, true, true, true, true, true, true, true, true, true, true, true, true, true, true, true, true, true, true, true, true, true, true, true, true, true, true, true, true, true, false]).contains 30 = true)
    (q1_3_4_7_9_10_14_23_ : Region.ready .any #[o0, o1, o2, o3, o4, o5, o6, o7, o8, o9, o10, o11, o12, o13, o14, o15, o16, o17, o18, o19, o20, o21, o22, o23, o24, o25, o26, o27, o28, o29, o30] #[true, true, true, true, true, true, true, true, true, true, true, true, true, true, true, true, true, true, true, true, true, true, true, true, true, true, true, true, true, true, true] = [])
    (g1 : o1.guard = none)    (g3 : o3.guard = none)    (g4 : o4.guard = none)
    (ne8_7 : ∀ d, o8.dst = some d → o7.dst ≠ some d)
    (ne18_14 : ∀ d, o18.dst = some d → o14.dst ≠ some d)
    (ne17_14 : ∀ d, o17.dst = some d → o14.dst ≠ some d)
    (ne16_14 : ∀ d, o16.dst = some d → o14.dst ≠ some d)
    (ne15_14 : ∀ d, o15.dst = some d → o14.dst ≠ some d)
    (ne27_23 : ∀ d, o27.dst = some d → o23.dst ≠ some d)
    (ne26_23 : ∀ d, o26.dst = some d → o23.dst ≠ some d)
    (ne25_23 : ∀ d, o25.dst = some d → o23.dst ≠ some d)
    (ne24_23 : ∀ d, o24.dst = some d → o23.dst ≠ some d)
    (v0 v2 : Value) (A0 A1 : Act)
    (S : World → Prop)
    (I_ : World → Prop)
    (I1_ : Value → World → Prop)
    (I1_3_ : Value → Value → World → Prop)
    (I1_3_4_ : Value → Value → Value → World → Prop)
    (I1_3_4_7_ : Value → Value → Value → Value → World → Prop)
    (I1_3_4_7_9_ : Value → Value → Value → Value → Value → World → Prop)
    (I1_3_4_7_9_10_ : Value → Value → Value → Value → Value → Value → World → Prop)
    (I1_3_4_7_9_10_14_ : Value → Value → Value → Value → Value → Value → Value → World → Prop)
    (I1_3_4_7_9_10_14_23_ : Value → Value → Value → Value → Value → Value → Value → Value → World → Prop)
    (v5 : Value → Value)
    (v6 : Value → Value)
    (v8 : Value → Value)
    (v11 : Value → Value)
    (v12 : Value → Value)
    (v13 : Value → Value)
    (v15 : Value → Value)
    (v16 : Value → Value)
    (v17 : Value → Value)
    (v18 : Value → Value)
    (v19 : Value → Value)
    (v20 : Value → Value)
    (v21 : Value → Value)
    (v22 : Value → Value)
    (v24 : Value → Value)
    (v25 : Value → Value)
    (v26 : Value → Value)
    (v27 : Value → Value)
    (v28 : Value → Value)
    (v29 : Value → Value)
    (v30 : Value → Value)
    (p0 : a.put o0.dst v0 = A0) (hy0 : YieldsIf P #[o0, o1, o2, o3, o4, o5, o6, o7, o8, o9, o10, o11, o12, o13, o14, o15, o16, o17, o18, o19, o20, o21, o22, o23, o24, o25, o26, o27, o28, o29, o30] S o0 v0 a)
    (p2 : A0.put o2.dst v2 = A1) (hy2 : YieldsIf P #[o0, o1, o2, o3, o4, o5, o6, o7, o8, o9, o10, o11, o12, o13, o14, o15, o16, o17, o18, o19, o20, o21, o22, o23, o24, o25, o26, o27, o28, o29, o30] S o2 v2 A0)
    (i0 : I_ w.drew)
    (hIS : (∀ w', I_  w' → S w') ∧ (∀ (u1 : Value) w', I1_ u1 w' → S w') ∧ (∀ (u1 u3 : Value) w', I1_3_ u1 u3 w' → S w') ∧ (∀ (u1 u3 u4 : Value) w', I1_3_4_ u1 u3 u4 w' → S w') ∧ (∀ (u1 u3 u4 u7 : Value) w', I1_3_4_7_ u1 u3 u4 u7 w' → S w') ∧ (∀ (u1 u3 u4 u7 u9 : Value) w', I1_3_4_7_9_ u1 u3 u4 u7 u9 w' → S w') ∧ (∀ (u1 u3 u4 u7 u9 u10 : Value) w', I1_3_4_7_9_10_ u1 u3 u4 u7 u9 u10 w' → S w') ∧ (∀ (u1 u3 u4 u7 u9 u10 u14 : Value) w', I1_3_4_7_9_10_14_ u1 u3 u4 u7 u9 u10 u14 w' → S w') ∧ (∀ (u1 u3 u4 u7 u9 u10 u14 u23 : Value) w', I1_3_4_7_9_10_14_23_ u1 u3 u4 u7 u9 u10 u14 u23 w' → S w'))
    (wg1_3_4_7 : ∀ (u1 u3 u4 : Value), Region.wanted o7 (yielded #[o0, o1, o2, o3, o4, o5, o6, o7, o8, o9, o10, o11, o12, o13, o14, o15, o16, o17, o18, o19, o20, o21, o22, o23, o24, o25, o26, o27, o28, o29, o30] ((((((A1.put o1.dst u1).put o3.dst u3).put o4.dst u4).put o5.dst (v5 u4)).put o6.dst (v6 u4)).put o8.dst (v8 u4)).tmps) = true)
    (wg1_3_4_7_9 : ∀ (u1 u3 u4 u7 : Value), Region.wanted o9 (yielded #[o0, o1, o2, o3, o4, o5, o6, o7, o8, o9, o10, o11, o12, o13, o14, o15, o16, o17, o18, o19, o20, o21, o22, o23, o24, o25, o26, o27, o28, o29, o30] (((((((A1.put o1.dst u1).put o3.dst u3).put o4.dst u4).put o5.dst (v5 u4)).put o6.dst (v6 u4)).put o7.dst u7).put o8.dst (v8 u4)).tmps) = true)
    (wg1_3_4_7_9_10 : ∀ (u1 u3 u4 u7 u9 : Value), Region.wanted o10 (yielded #[o0, o1, o2, o3, o4, o5, o6, o7, o8, o9, o10, o11, o12, o13, o14, o15, o16, o17, o18, o19, o20, o21, o22, o23, o24, o25, o26, o27, o28, o29, o30] ((((((((A1.put o1.dst u1).put o3.dst u3).put o4.dst u4).put o5.dst (v5 u4)).put o6.dst (v6 u4)).put o7.dst u7).put o8.dst (v8 u4)).put o9.dst u9).tmps) = true)
    (wg1_3_4_7_9_10_14 : ∀ (u1 u3 u4 u7 u9 u10 : Value), Region.wanted o14 (yielded #[o0, o1, o2, o3, o4, o5, o6, o7, o8, o9, o10, o11, o12, o13, o14, o15, o16, o17, o18, o19, o20, o21, o22, o23, o24, o25, o26, o27, o28, o29, o30] ((((((((((((((((A1.put o1.dst u1).put o3.dst u3).put o4.dst u4).put o5.dst (v5 u4)).put o6.dst (v6 u4)).put o7.dst u7).put o8.dst (v8 u4)).put o9.dst u9).put o10.dst u10).put o11.dst (v11 u10)).put o12.dst (v12 u10)).put o13.dst (v13 u10)).put o15.dst (v15 u10)).put o16.dst (v16 u10)).put o17.dst (v17 u10)).put o18.dst (v18 u10)).tmps) = true)
    (wg1_3_4_7_9_10_14_23 : ∀ (u1 u3 u4 u7 u9 u10 u14 : Value), Region.wanted o23 (yielded #[o0, o1, o2, o3, o4, o5, o6, o7, o8, o9, o10, o11, o12, o13, o14, o15, o16, o17, o18, o19, o20, o21, o22, o23, o24, o25, o26, o27, o28, o29, o30] (((((((((((((((((((((((((A1.put o1.dst u1).put o3.dst u3).put o4.dst u4).put o5.dst (v5 u4)).put o6.dst (v6 u4)).put o7.dst u7).put o8.dst (v8 u4)).put o9.dst u9).put o10.dst u10).put o11.dst (v11 u10)).put o12.dst (v12 u10)).put o13.dst (v13 u10)).put o14.dst u14).put o15.dst (v15 u10)).put o16.dst (v16 u10)).put o17.dst (v17 u10)).put o18.dst (v18 u10)).put o19.dst (v19 u14)).put o20.dst (v20 u14)).put o21.dst (v21 u14)).put o22.dst (v22 u14)).put o24.dst (v24 u14)).put o25.dst (v25 u14)).put o26.dst (v26 u14)).put o27.dst (v27 u14)).tmps) = true)
    (s_1 : ∀ w', I_  w' → ∀ K : Act → World → Prop, (∀ (u1 : Value) w2, I1_ u1 w2 → K (A1.put o1.dst u1) w2) → o1.wp P A1 w' K (NoPanic Q))
    (s1_3 : ∀ (u1 : Value) w', I1_ u1 w' → ∀ K : Act → World → Prop, (∀ (u3 : Value) w2, I1_3_ u1 u3 w2 → K ((A1.put o1.dst u1).put o3.dst u3) w2) → o3.wp P (A1.put o1.dst u1) w' K (NoPanic Q))
    (s1_3_4 : ∀ (u1 u3 : Value) w', I1_3_ u1 u3 w' → ∀ K : Act → World → Prop, (∀ (u4 : Value) w2, I1_3_4_ u1 u3 u4 w2 → K (((A1.put o1.dst u1).put o3.dst u3).put o4.dst u4) w2) → o4.wp P ((A1.put o1.dst u1).put o3.dst u3) w' K (NoPanic Q))
    (s1_3_4_7 : ∀ (u1 u3 u4 : Value) w', I1_3_4_ u1 u3 u4 w' → ∀ K : Act → World → Prop, (∀ (u7 : Value) w2, I1_3_4_7_ u1 u3 u4 u7 w2 → K (((((((A1.put o1.dst u1).put o3.dst u3).put o4.dst u4).put o5.dst (v5 u4)).put o6.dst (v6 u4)).put o8.dst (v8 u4)).put o7.dst u7) w2) → o7.wp P ((((((A1.put o1.dst u1).put o3.dst u3).put o4.dst u4).put o5.dst (v5 u4)).put o6.dst (v6 u4)).put o8.dst (v8 u4)) w' K (NoPanic Q))
    (s1_3_4_7_9 : ∀ (u1 u3 u4 u7 : Value) w', I1_3_4_7_ u1 u3 u4 u7 w' → ∀ K : Act → World → Prop, (∀ (u9 : Value) w2, I1_3_4_7_9_ u1 u3 u4 u7 u9 w2 → K ((((((((A1.put o1.dst u1).put o3.dst u3).put o4.dst u4).put o5.dst (v5 u4)).put o6.dst (v6 u4)).put o7.dst u7).put o8.dst (v8 u4)).put o9.dst u9) w2) → o9.wp P (((((((A1.put o1.dst u1).put o3.dst u3).put o4.dst u4).put o5.dst (v5 u4)).put o6.dst (v6 u4)).put o7.dst u7).put o8.dst (v8 u4)) w' K (NoPanic Q))
    (s1_3_4_7_9_10 : ∀ (u1 u3 u4 u7 u9 : Value) w', I1_3_4_7_9_ u1 u3 u4 u7 u9 w' → ∀ K : Act → World → Prop, (∀ (u10 : Value) w2, I1_3_4_7_9_10_ u1 u3 u4 u7 u9 u10 w2 → K (((((((((A1.put o1.dst u1).put o3.dst u3).put o4.dst u4).put o5.dst (v5 u4)).put o6.dst (v6 u4)).put o7.dst u7).put o8.dst (v8 u4)).put o9.dst u9).put o10.dst u10) w2) → o10.wp P ((((((((A1.put o1.dst u1).put o3.dst u3).put o4.dst u4).put o5.dst (v5 u4)).put o6.dst (v6 u4)).put o7.dst u7).put o8.dst (v8 u4)).put o9.dst u9) w' K (NoPanic Q))
    (s1_3_4_7_9_10_14 : ∀ (u1 u3 u4 u7 u9 u10 : Value) w', I1_3_4_7_9_10_ u1 u3 u4 u7 u9 u10 w' → ∀ K : Act → World → Prop, (∀ (u14 : Value) w2, I1_3_4_7_9_10_14_ u1 u3 u4 u7 u9 u10 u14 w2 → K (((((((((((((((((A1.put o1.dst u1).put o3.dst u3).put o4.dst u4).put o5.dst (v5 u4)).put o6.dst (v6 u4)).put o7.dst u7).put o8.dst (v8 u4)).put o9.dst u9).put o10.dst u10).put o11.dst (v11 u10)).put o12.dst (v12 u10)).put o13.dst (v13 u10)).put o15.dst (v15 u10)).put o16.dst (v16 u10)).put o17.dst (v17 u10)).put o18.dst (v18 u10)).put o14.dst u14) w2) → o14.wp P ((((((((((((((((A1.put o1.dst u1).put o3.dst u3).put o4.dst u4).put o5.dst (v5 u4)).put o6.dst (v6 u4)).put o7.dst u7).put o8.dst (v8 u4)).put o9.dst u9).put o10.dst u10).put o11.dst (v11 u10)).put o12.dst (v12 u10)).put o13.dst (v13 u10)).put o15.dst (v15 u10)).put o16.dst (v16 u10)).put o17.dst (v17 u10)).put o18.dst (v18 u10)) w' K (NoPanic Q))
    (s1_3_4_7_9_10_14_23 : ∀ (u1 u3 u4 u7 u9 u10 u14 : Value) w', I1_3_4_7_9_10_14_ u1 u3 u4 u7 u9 u10 u14 w' → ∀ K : Act → World → Prop, (∀ (u23 : Value) w2, I1_3_4_7_9_10_14_23_ u1 u3 u4 u7 u9 u10 u14 u23 w2 → K ((((((((((((((((((((((((((A1.put o1.dst u1).put o3.dst u3).put o4.dst u4).put o5.dst (v5 u4)).put o6.dst (v6 u4)).put o7.dst u7).put o8.dst (v8 u4)).put o9.dst u9).put o10.dst u10).put o11.dst (v11 u10)).put o12.dst (v12 u10)).put o13.dst (v13 u10)).put o14.dst u14).put o15.dst (v15 u10)).put o16.dst (v16 u10)).put o17.dst (v17 u10)).put o18.dst (v18 u10)).put o19.dst (v19 u14)).put o20.dst (v20 u14)).put o21.dst (v21 u14)).put o22.dst (v22 u14)).put o24.dst (v24 u14)).put o25.dst (v25 u14)).put o26.dst (v26 u14)).put o27.dst (v27 u14)).put o23.dst u23) w2) → o23.wp P (((((((((((((((((((((((((A1.put o1.dst u1).put o3.dst u3).put o4.dst u4).put o5.dst (v5 u4)).put o6.dst (v6 u4)).put o7.dst u7).put o8.dst (v8 u4)).put o9.dst u9).put o10.dst u10).put o11.dst (v11 u10)).put o12.dst (v12 u10)).put o13.dst (v13 u10)).put o14.dst u14).put o15.dst (v15 u10)).put o16.dst (v16 u10)).put o17.dst (v17 u10)).put o18.dst (v18 u10)).put o19.dst (v19 u14)).put o20.dst (v20 u14)).put o21.dst (v21 u14)).put o22.dst (v22 u14)).put o24.dst (v24 u14)).put o25.dst (v25 u14)).put o26.dst (v26 u14)).put o27.dst (v27 u14)) w' K (NoPanic Q))
    (y1_3_4_5 : ∀ (u1 u3 u4 : Value) w', I1_3_4_ u1 u3 u4 w' → YieldsIf P #[o0, o1, o2, o3, o4, o5, o6, o7, o8, o9, o10, o11, o12, o13, o14, o15, o16, o17, o18, o19, o20, o21, o22, o23, o24, o25, o26, o27, o28, o29, o30] S o5 (v5 u4) (((A1.put o1.dst u1).put o3.dst u3).put o4.dst u4))
    (y1_3_4_6 : ∀ (u1 u3 u4 : Value) w', I1_3_4_ u1 u3 u4 w' → YieldsIf P #[o0, o1, o2, o3, o4, o5, o6, o7, o8, o9, o10, o11, o12, o13, o14, o15, o16, o17, o18, o19, o20, o21, o22, o23, o24, o25, o26, o27, o28, o29, o30] S o6 (v6 u4) ((((A1.put o1.dst u1).put o3.dst u3).put o4.dst u4).put o5.dst (v5 u4)))
    (y1_3_4_8 : ∀ (u1 u3 u4 : Value) w', I1_3_4_ u1 u3 u4 w' → YieldsIf P #[o0, o1, o2, o3, o4, o5, o6, o7, o8, o9, o10, o11, o12, o13, o14, o15, o16, o17, o18, o19, o20, o21, o22, o23, o24, o25, o26, o27, o28, o29, o30] S o8 (v8 u4) (((((A1.put o1.dst u1).put o3.dst u3).put o4.dst u4).put o5.dst (v5 u4)).put o6.dst (v6 u4)))
    (y1_3_4_7_9_10_11 : ∀ (u1 u3 u4 u7 u9 u10 : Value) w', I1_3_4_7_9_10_ u1 u3 u4 u7 u9 u10 w' → YieldsIf P #[o0, o1, o2, o3, o4, o5, o6, o7, o8, o9, o10, o11, o12, o13, o14, o15, o16, o17, o18, o19, o20, o21, o22, o23, o24, o25, o26, o27, o28, o29, o30] S o11 (v11 u10) (((((((((A1.put o1.dst u1).put o3.dst u3).put o4.dst u4).put o5.dst (v5 u4)).put o6.dst (v6 u4)).put o7.dst u7).put o8.dst (v8 u4)).put o9.dst u9).put o10.dst u10))
    (y1_3_4_7_9_10_12 : ∀ (u1 u3 u4 u7 u9 u10 : Value) w', I1_3_4_7_9_10_ u1 u3 u4 u7 u9 u10 w' → YieldsIf P #[o0, o1, o2, o3, o4, o5, o6, o7, o8, o9, o10, o11, o12, o13, o14, o15, o16, o17, o18, o19, o20, o21, o22, o23, o24, o25, o26, o27, o28, o29, o30] S o12 (v12 u10) ((((((((((A1.put o1.dst u1).put o3.dst u3).put o4.dst u4).put o5.dst (v5 u4)).put o6.dst (v6 u4)).put o7.dst u7).put o8.dst (v8 u4)).put o9.dst u9).put o10.dst u10).put o11.dst (v11 u10)))
    (y1_3_4_7_9_10_13 : ∀ (u1 u3 u4 u7 u9 u10 : Value) w', I1_3_4_7_9_10_ u1 u3 u4 u7 u9 u10 w' → YieldsIf P #[o0, o1, o2, o3, o4, o5, o6, o7, o8, o9, o10, o11, o12, o13, o14, o15, o16, o17, o18, o19, o20, o21, o22, o23, o24, o25, o26, o27, o28, o29, o30] S o13 (v13 u10) (((((((((((A1.put o1.dst u1).put o3.dst u3).put o4.dst u4).put o5.dst (v5 u4)).put o6.dst (v6 u4)).put o7.dst u7).put o8.dst (v8 u4)).put o9.dst u9).put o10.dst u10).put o11.dst (v11 u10)).put o12.dst (v12 u10)))
    (y1_3_4_7_9_10_15 : ∀ (u1 u3 u4 u7 u9 u10 : Value) w', I1_3_4_7_9_10_ u1 u3 u4 u7 u9 u10 w' → YieldsIf P #[o0, o1, o2, o3, o4, o5, o6, o7, o8, o9, o10, o11, o12, o13, o14, o15, o16, o17, o18, o19, o20, o21, o22, o23, o24, o25, o26, o27, o28, o29, o30] S o15 (v15 u10) ((((((((((((A1.put o1.dst u1).put o3.dst u3).put o4.dst u4).put o5.dst (v5 u4)).put o6.dst (v6 u4)).put o7.dst u7).put o8.dst (v8 u4)).put o9.dst u9).put o10.dst u10).put o11.dst (v11 u10)).put o12.dst (v12 u10)).put o13.dst (v13 u10)))
    (y1_3_4_7_9_10_16 : ∀ (u1 u3 u4 u7 u9 u10 : Value) w', I1_3_4_7_9_10_ u1 u3 u4 u7 u9 u10 w' → YieldsIf P #[o0, o1, o2, o3, o4, o5, o6, o7, o8, o9, o10, o11, o12, o13, o14, o15, o16, o17, o18, o19, o20, o21, o22, o23, o24, o25, o26, o27, o28, o29, o30] S o16 (v16 u10) (((((((((((((A1.put o1.dst u1).put o3.dst u3).put o4.dst u4).put o5.dst (v5 u4)).put o6.dst (v6 u4)).put o7.dst u7).put o8.dst (v8 u4)).put o9.dst u9).put o10.dst u10).put o11.dst (v11 u10)).put o12.dst (v12 u10)).put o13.dst (v13 u10)).put o15.dst (v15 u10)))
    (y1_3_4_7_9_10_17 : ∀ (u1 u3 u4 u7 u9 u10 : Value) w', I1_3_4_7_9_10_ u1 u3 u4 u7 u9 u10 w' → YieldsIf P #[o0, o1, o2, o3, o4, o5, o6, o7, o8, o9, o10, o11, o12, o13, o14, o15, o16, o17, o18, o19, o20, o21, o22, o23, o24, o25, o26, o27, o28, o29, o30] S o17 (v17 u10) ((((((((((((((A1.put o1.dst u1).put o3.dst u3).put o4.dst u4).put o5.dst (v5 u4)).put o6.dst (v6 u4)).put o7.dst u7).put o8.dst (v8 u4)).put o9.dst u9).put o10.dst u10).put o11.dst (v11 u10)).put o12.dst (v12 u10)).put o13.dst (v13 u10)).put o15.dst (v15 u10)).put o16.dst (v16 u10)))
    (y1_3_4_7_9_10_18 : ∀ (u1 u3 u4 u7 u9 u10 : Value) w', I1_3_4_7_9_10_ u1 u3 u4 u7 u9 u10 w' → YieldsIf P #[o0, o1, o2, o3, o4, o5, o6, o7, o8, o9, o10, o11, o12, o13, o14, o15, o16, o17, o18, o19, o20, o21, o22, o23, o24, o25, o26, o27, o28, o29, o30] S o18 (v18 u10) (((((((((((((((A1.put o1.dst u1).put o3.dst u3).put o4.dst u4).put o5.dst (v5 u4)).put o6.dst (v6 u4)).put o7.dst u7).put o8.dst (v8 u4)).put o9.dst u9).put o10.dst u10).put o11.dst (v11 u10)).put o12.dst (v12 u10)).put o13.dst (v13 u10)).put o15.dst (v15 u10)).put o16.dst (v16 u10)).put o17.dst (v17 u10)))
    (y1_3_4_7_9_10_14_19 : ∀ (u1 u3 u4 u7 u9 u10 u14 : Value) w', I1_3_4_7_9_10_14_ u1 u3 u4 u7 u9 u10 u14 w' → YieldsIf P #[o0, o1, o2, o3, o4, o5, o6, o7, o8, o9, o10, o11, o12, o13, o14, o15, o16, o17, o18, o19, o20, o21, o22, o23, o24, o25, o26, o27, o28, o29, o30] S o19 (v19 u14) (((((((((((((((((A1.put o1.dst u1).put o3.dst u3).put o4.dst u4).put o5.dst (v5 u4)).put o6.dst (v6 u4)).put o7.dst u7).put o8.dst (v8 u4)).put o9.dst u9).put o10.dst u10).put o11.dst (v11 u10)).put o12.dst (v12 u10)).put o13.dst (v13 u10)).put o14.dst u14).put o15.dst (v15 u10)).put o16.dst (v16 u10)).put o17.dst (v17 u10)).put o18.dst (v18 u10)))
    (y1_3_4_7_9_10_14_20 : ∀ (u1 u3 u4 u7 u9 u10 u14 : Value) w', I1_3_4_7_9_10_14_ u1 u3 u4 u7 u9 u10 u14 w' → YieldsIf P #[o0, o1, o2, o3, o4, o5, o6, o7, o8, o9, o10, o11, o12, o13, o14, o15, o16, o17, o18, o19, o20, o21, o22, o23, o24, o25, o26, o27, o28, o29, o30] S o20 (v20 u14) ((((((((((((((((((A1.put o1.dst u1).put o3.dst u3).put o4.dst u4).put o5.dst (v5 u4)).put o6.dst (v6 u4)).put o7.dst u7).put o8.dst (v8 u4)).put o9.dst u9).put o10.dst u10).put o11.dst (v11 u10)).put o12.dst (v12 u10)).put o13.dst (v13 u10)).put o14.dst u14).put o15.dst (v15 u10)).put o16.dst (v16 u10)).put o17.dst (v17 u10)).put o18.dst (v18 u10)).put o19.dst (v19 u14)))
    (y1_3_4_7_9_10_14_21 : ∀ (u1 u3 u4 u7 u9 u10 u14 : Value) w', I1_3_4_7_9_10_14_ u1 u3 u4 u7 u9 u10 u14 w' → YieldsIf P #[o0, o1, o2, o3, o4, o5, o6, o7, o8, o9, o10, o11, o12, o13, o14, o15, o16, o17, o18, o19, o20, o21, o22, o23, o24, o25, o26, o27, o28, o29, o30] S o21 (v21 u14) (((((((((((((((((((A1.put o1.dst u1).put o3.dst u3).put o4.dst u4).put o5.dst (v5 u4)).put o6.dst (v6 u4)).put o7.dst u7).put o8.dst (v8 u4)).put o9.dst u9).put o10.dst u10).put o11.dst (v11 u10)).put o12.dst (v12 u10)).put o13.dst (v13 u10)).put o14.dst u14).put o15.dst (v15 u10)).put o16.dst (v16 u10)).put o17.dst (v17 u10)).put o18.dst (v18 u10)).put o19.dst (v19 u14)).put o20.dst (v20 u14)))
    (y1_3_4_7_9_10_14_22 : ∀ (u1 u3 u4 u7 u9 u10 u14 : Value) w', I1_3_4_7_9_10_14_ u1 u3 u4 u7 u9 u10 u14 w' → YieldsIf P #[o0, o1, o2, o3, o4, o5, o6, o7, o8, o9, o10, o11, o12, o13, o14, o15, o16, o17, o18, o19, o20, o21, o22, o23, o24, o25, o26, o27, o28, o29, o30] S o22 (v22 u14) ((((((((((((((((((((A1.put o1.dst u1).put o3.dst u3).put o4.dst u4).put o5.dst (v5 u4)).put o6.dst (v6 u4)).put o7.dst u7).put o8.dst (v8 u4)).put o9.dst u9).put o10.dst u10).put o11.dst (v11 u10)).put o12.dst (v12 u10)).put o13.dst (v13 u10)).put o14.dst u14).put o15.dst (v15 u10)).put o16.dst (v16 u10)).put o17.dst (v17 u10)).put o18.dst (v18 u10)).put o19.dst (v19 u14)).put o20.dst (v20 u14)).put o21.dst (v21 u14)))
    (y1_3_4_7_9_10_14_24 : ∀ (u1 u3 u4 u7 u9 u10 u14 : Value) w', I1_3_4_7_9_10_14_ u1 u3 u4 u7 u9 u10 u14 w' → YieldsIf P #[o0, o1, o2, o3, o4, o5, o6, o7, o8, o9, o10, o11, o12, o13, o14, o15, o16, o17, o18, o19, o20, o21, o22, o23, o24, o25, o26, o27, o28, o29, o30] S o24 (v24 u14) (((((((((((((((((((((A1.put o1.dst u1).put o3.dst u3).put o4.dst u4).put o5.dst (v5 u4)).put o6.dst (v6 u4)).put o7.dst u7).put o8.dst (v8 u4)).put o9.dst u9).put o10.dst u10).put o11.dst (v11 u10)).put o12.dst (v12 u10)).put o13.dst (v13 u10)).put o14.dst u14).put o15.dst (v15 u10)).put o16.dst (v16 u10)).put o17.dst (v17 u10)).put o18.dst (v18 u10)).put o19.dst (v19 u14)).put o20.dst (v20 u14)).put o21.dst (v21 u14)).put o22.dst (v22 u14)))
    (y1_3_4_7_9_10_14_25 : ∀ (u1 u3 u4 u7 u9 u10 u14 : Value) w', I1_3_4_7_9_10_14_ u1 u3 u4 u7 u9 u10 u14 w' → YieldsIf P #[o0, o1, o2, o3, o4, o5, o6, o7, o8, o9, o10, o11, o12, o13, o14, o15, o16, o17, o18, o19, o20, o21, o22, o23, o24, o25, o26, o27, o28, o29, o30] S o25 (v25 u14) ((((((((((((((((((((((A1.put o1.dst u1).put o3.dst u3).put o4.dst u4).put o5.dst (v5 u4)).put o6.dst (v6 u4)).put o7.dst u7).put o8.dst (v8 u4)).put o9.dst u9).put o10.dst u10).put o11.dst (v11 u10)).put o12.dst (v12 u10)).put o13.dst (v13 u10)).put o14.dst u14).put o15.dst (v15 u10)).put o16.dst (v16 u10)).put o17.dst (v17 u10)).put o18.dst (v18 u10)).put o19.dst (v19 u14)).put o20.dst (v20 u14)).put o21.dst (v21 u14)).put o22.dst (v22 u14)).put o24.dst (v24 u14)))
    (y1_3_4_7_9_10_14_26 : ∀ (u1 u3 u4 u7 u9 u10 u14 : Value) w', I1_3_4_7_9_10_14_ u1 u3 u4 u7 u9 u10 u14 w' → YieldsIf P #[o0, o1, o2, o3, o4, o5, o6, o7, o8, o9, o10, o11, o12, o13, o14, o15, o16, o17, o18, o19, o20, o21, o22, o23, o24, o25, o26, o27, o28, o29, o30] S o26 (v26 u14) (((((((((((((((((((((((A1.put o1.dst u1).put o3.dst u3).put o4.dst u4).put o5.dst (v5 u4)).put o6.dst (v6 u4)).put o7.dst u7).put o8.dst (v8 u4)).put o9.dst u9).put o10.dst u10).put o11.dst (v11 u10)).put o12.dst (v12 u10)).put o13.dst (v13 u10)).put o14.dst u14).put o15.dst (v15 u10)).put o16.dst (v16 u10)).put o17.dst (v17 u10)).put o18.dst (v18 u10)).put o19.dst (v19 u14)).put o20.dst (v20 u14)).put o21.dst (v21 u14)).put o22.dst (v22 u14)).put o24.dst (v24 u14)).put o25.dst (v25 u14)))
    (y1_3_4_7_9_10_14_27 : ∀ (u1 u3 u4 u7 u9 u10 u14 : Value) w', I1_3_4_7_9_10_14_ u1 u3 u4 u7 u9 u10 u14 w' → YieldsIf P #[o0, o1, o2, o3, o4, o5, o6, o7, o8, o9, o10, o11, o12, o13, o14, o15, o16, o17, o18, o19, o20, o21, o22, o23, o24, o25, o26, o27, o28, o29, o30] S o27 (v27 u14) ((((((((((((((((((((((((A1.put o1.dst u1).put o3.dst u3).put o4.dst u4).put o5.dst (v5 u4)).put o6.dst (v6 u4)).put o7.dst u7).put o8.dst (v8 u4)).put o9.dst u9).put o10.dst u10).put o11.dst (v11 u10)).put o12.dst (v12 u10)).put o13.dst (v13 u10)).put o14.dst u14).put o15.dst (v15 u10)).put o16.dst (v16 u10)).put o17.dst (v17 u10)).put o18.dst (v18 u10)).put o19.dst (v19 u14)).put o20.dst (v20 u14)).put o21.dst (v21 u14)).put o22.dst (v22 u14)).put o24.dst (v24 u14)).put o25.dst (v25 u14)).put o26.dst (v26 u14)))
    (y1_3_4_7_9_10_14_23_28 : ∀ (u1 u3 u4 u7 u9 u10 u14 u23 : Value) w', I1_3_4_7_9_10_14_23_ u1 u3 u4 u7 u9 u10 u14 u23 w' → YieldsIf P #[o0, o1, o2, o3, o4, o5, o6, o7, o8, o9, o10, o11, o12, o13, o14, o15, o16, o17, o18, o19, o20, o21, o22, o23, o24, o25, o26, o27, o28, o29, o30] S o28 (v28 u23) ((((((((((((((((((((((((((A1.put o1.dst u1).put o3.dst u3).put o4.dst u4).put o5.dst (v5 u4)).put o6.dst (v6 u4)).put o7.dst u7).put o8.dst (v8 u4)).put o9.dst u9).put o10.dst u10).put o11.dst (v11 u10)).put o12.dst (v12 u10)).put o13.dst (v13 u10)).put o14.dst u14).put o15.dst (v15 u10)).put o16.dst (v16 u10)).put o17.dst (v17 u10)).put o18.dst (v18 u10)).put o19.dst (v19 u14)).put o20.dst (v20 u14)).put o21.dst (v21 u14)).put o22.dst (v22 u14)).put o23.dst u23).put o24.dst (v24 u14)).put o25.dst (v25 u14)).put o26.dst (v26 u14)).put o27.dst (v27 u14)))
    (y1_3_4_7_9_10_14_23_29 : ∀ (u1 u3 u4 u7 u9 u10 u14 u23 : Value) w', I1_3_4_7_9_10_14_23_ u1 u3 u4 u7 u9 u10 u14 u23 w' → YieldsIf P #[o0, o1, o2, o3, o4, o5, o6, o7, o8, o9, o10, o11, o12, o13, o14, o15, o16, o17, o18, o19, o20, o21, o22, o23, o24, o25, o26, o27, o28, o29, o30] S o29 (v29 u23) (((((((((((((((((((((((((((A1.put o1.dst u1).put o3.dst u3).put o4.dst u4).put o5.dst (v5 u4)).put o6.dst (v6 u4)).put o7.dst u7).put o8.dst (v8 u4)).put o9.dst u9).put o10.dst u10).put o11.dst (v11 u10)).put o12.dst (v12 u10)).put o13.dst (v13 u10)).put o14.dst u14).put o15.dst (v15 u10)).put o16.dst (v16 u10)).put o17.dst (v17 u10)).put o18.dst (v18 u10)).put o19.dst (v19 u14)).put o20.dst (v20 u14)).put o21.dst (v21 u14)).put o22.dst (v22 u14)).put o23.dst u23).put o24.dst (v24 u14)).put o25.dst (v25 u14)).put o26.dst (v26 u14)).put o27.dst (v27 u14)).put o28.dst (v28 u23)))
    (y1_3_4_7_9_10_14_23_30 : ∀ (u1 u3 u4 u7 u9 u10 u14 u23 : Value) w', I1_3_4_7_9_10_14_23_ u1 u3 u4 u7 u9 u10 u14 u23 w' → YieldsIf P #[o0, o1, o2, o3, o4, o5, o6, o7, o8, o9, o10, o11, o12, o13, o14, o15, o16, o17, o18, o19, o20, o21, o22, o23, o24, o25, o26, o27, o28, o29, o30] S o30 (v30 u23) ((((((((((((((((((((((((((((A1.put o1.dst u1).put o3.dst u3).put o4.dst u4).put o5.dst (v5 u4)).put o6.dst (v6 u4)).put o7.dst u7).put o8.dst (v8 u4)).put o9.dst u9).put o10.dst u10).put o11.dst (v11 u10)).put o12.dst (v12 u10)).put o13.dst (v13 u10)).put o14.dst u14).put o15.dst (v15 u10)).put o16.dst (v16 u10)).put o17.dst (v17 u10)).put o18.dst (v18 u10)).put o19.dst (v19 u14)).put o20.dst (v20 u14)).put o21.dst (v21 u14)).put o22.dst (v22 u14)).put o23.dst u23).put o24.dst (v24 u14)).put o25.dst (v25 u14)).put o26.dst (v26 u14)).put o27.dst (v27 u14)).put o28.dst (v28 u23)).put o29.dst (v29 u23)))
    (h : ∀ (u1 u3 u4 u7 u9 u10 u14 u23 : Value) w', I1_3_4_7_9_10_14_23_ u1 u3 u4 u7 u9 u10 u14 u23 w' → Q .normal (((((((((((((((((((((((((((((A1.put o1.dst u1).put o3.dst u3).put o4.dst u4).put o5.dst (v5 u4)).put o6.dst (v6 u4)).put o7.dst u7).put o8.dst (v8 u4)).put o9.dst u9).put o10.dst u10).put o11.dst (v11 u10)).put o12.dst (v12 u10)).put o13.dst (v13 u10)).put o14.dst u14).put o15.dst (v15 u10)).put o16.dst (v16 u10)).put o17.dst (v17 u10)).put o18.dst (v18 u10)).put o19.dst (v19 u14)).put o20.dst (v20 u14)).put o21.dst (v21 u14)).put o22.dst (v22 u14)).put o23.dst u23).put o24.dst (v24 u14)).put o25.dst (v25 u14)).put o26.dst (v26 u14)).put o27.dst (v27 u14)).put o28.dst (v28 u23)).put o29.dst (v29 u23)).put o30.dst (v30 u23)) w') :
    (Code.region id #[o0, o1, o2, o3, o4, o5, o6, o7, o8, o9, o10, o11, o12, o13, o14, o15, o16, o17, o18, o19, o20, o21, o22, o23, o24, o25, o26, o27, o28, o29, o30] true).wp P Q a w := by
  subst p0 p2
  obtain ⟨z_, z1_, z1_3_, z1_3_4_, z1_3_4_7_, z1_3_4_7_9_, z1_3_4_7_9_10_, z1_3_4_7_9_10_14_, z1_3_4_7_9_10_14_23_⟩ := hIS
  refine wp_region_noPanic ?_
  refine wp_region_held_drew (S := S) hm (z_ _ i0) (fun hH => ?_)
  show wpAnyH P .any #[o0, o1, o2, o3, o4, o5, o6, o7, o8, o9, o10, o11, o12, o13, o14, o15, o16, o17, o18, o19, o20, o21, o22, o23, o24, o25, o26, o27, o28, o29, o30] (NoPanic Q) S 31 #[false, false, false, false, false, false, false, false, false, false, false, false, false, false, false, false, false, false, false, false, false, false, false, false, false, false, false, false, false, false, false] a w.drew
  refine wpAnyH_take (i := 0) (oi := o0) rfl hs f0 r0 (fun _ _ _ h => h) hy0 hH ?_
  refine wpAnyH_take (i := 2) (oi := o2) rfl hs f2 r2 (fun _ _ _ h => h) hy2 hH ?_
  generalize ((a.put o0.dst v0).put o2.dst v2) = B at *
  have wa1 : ∀ y, Region.wanted o1 y = true := fun y => by unfold Region.wanted; rw [g1]
  have wa3 : ∀ y, Region.wanted o3 y = true := fun y => by unfold Region.wanted; rw [g3]
  have wa4 : ∀ y, Region.wanted o4 y = true := fun y => by unfold Region.wanted; rw [g4]
  have t1_3_4_7_9_10_14_23_ : ∀ (u1 u3 u4 u7 u9 u10 u14 u23 : Value) w', I1_3_4_7_9_10_14_23_ u1 u3 u4 u7 u9 u10 u14 u23 w' → wpAnyH P .any #[o0, o1, o2, o3, o4, o5, o6, o7, o8, o9, o10, o11, o12, o13, o14, o15, o16, o17, o18, o19, o20, o21, o22, o23, o24, o25, o26, o27, o28, o29, o30] (NoPanic Q) S 0 #[true, true, true, true, true, true, true, true, true, true, true, true, true, true, true, true, true, true, true, true, true, true, true, true, true, true, true, true, true, true, true] (((((((((((((((((((((((((((((B.put o1.dst u1).put o3.dst u3).put o4.dst u4).put o5.dst (v5 u4)).put o6.dst (v6 u4)).put o7.dst u7).put o8.dst (v8 u4)).put o9.dst u9).put o10.dst u10).put o11.dst (v11 u10)).put o12.dst (v12 u10)).put o13.dst (v13 u10)).put o14.dst u14).put o15.dst (v15 u10)).put o16.dst (v16 u10)).put o17.dst (v17 u10)).put o18.dst (v18 u10)).put o19.dst (v19 u14)).put o20.dst (v20 u14)).put o21.dst (v21 u14)).put o22.dst (v22 u14)).put o23.dst u23).put o24.dst (v24 u14)).put o25.dst (v25 u14)).put o26.dst (v26 u14)).put o27.dst (v27 u14)).put o28.dst (v28 u23)).put o29.dst (v29 u23)).put o30.dst (v30 u23)) w' := by
    intro u1 u3 u4 u7 u9 u10 u14 u23 w0 i0
    exact ⟨q1_3_4_7_9_10_14_23_, NoPanic.normal (h u1 u3 u4 u7 u9 u10 u14 u23 w0 i0)⟩
  have t1_3_4_7_9_10_14_ : ∀ (u1 u3 u4 u7 u9 u10 u14 : Value) w', I1_3_4_7_9_10_14_ u1 u3 u4 u7 u9 u10 u14 w' → wpAnyH P .any #[o0, o1, o2, o3, o4, o5, o6, o7, o8, o9, o10, o11, o12, o13, o14, o15, o16, o17, o18, o19, o20, o21, o22, o23, o24, o25, o26, o27, o28, o29, o30] (NoPanic Q) S 4 #[true, true, true, true, true, true, true, true, true, true, true, true, true, true, true, true, true, true, true, true, true, true, true, false, true, true, true, true, false, false, false] (((((((((((((((((((((((((B.put o1.dst u1).put o3.dst u3).put o4.dst u4).put o5.dst (v5 u4)).put o6.dst (v6 u4)).put o7.dst u7).put o8.dst (v8 u4)).put o9.dst u9).put o10.dst u10).put o11.dst (v11 u10)).put o12.dst (v12 u10)).put o13.dst (v13 u10)).put o14.dst u14).put o15.dst (v15 u10)).put o16.dst (v16 u10)).put o17.dst (v17 u10)).put o18.dst (v18 u10)).put o19.dst (v19 u14)).put o20.dst (v20 u14)).put o21.dst (v21 u14)).put o22.dst (v22 u14)).put o24.dst (v24 u14)).put o25.dst (v25 u14)).put o26.dst (v26 u14)).put o27.dst (v27 u14)) w' := by
    intro u1 u3 u4 u7 u9 u10 u14 w0 i0
    refine wpAnyH_ready (rs := [23]) q1_3_4_7_9_10_14_ (by simp) (AllReadyH.cons (o := o23) rfl (fun K hK => ?_) AllReadyH.nil)
    · rw [if_pos (wg1_3_4_7_9_10_14_23 u1 u3 u4 u7 u9 u10 u14)]
      refine s1_3_4_7_9_10_14_23 u1 u3 u4 u7 u9 u10 u14 w0 i0 K (fun u23 w1 i1 => hK.out _ _ (z1_3_4_7_9_10_14_23_ u1 u3 u4 u7 u9 u10 u14 u23 w1 i1) (fun _ => ?_))
      clear hK
      rw [Act.put_comm _ _ _ ne27_23]
      rw [Act.put_comm _ _ _ ne26_23]
      rw [Act.put_comm _ _ _ ne25_23]
      rw [Act.put_comm _ _ _ ne24_23]
      refine wpAnyH_take (i := 28) (oi := o28) rfl hs f1_3_4_7_9_10_14_23_28 r1_3_4_7_9_10_14_23_28 (fun _ _ _ h => h) (y1_3_4_7_9_10_14_23_28 u1 u3 u4 u7 u9 u10 u14 u23 w1 i1) (z1_3_4_7_9_10_14_23_ u1 u3 u4 u7 u9 u10 u14 u23 w1 i1) ?_
      refine wpAnyH_take (i := 29) (oi := o29) rfl hs f1_3_4_7_9_10_14_23_29 r1_3_4_7_9_10_14_23_29 (fun _ _ _ h => h) (y1_3_4_7_9_10_14_23_29 u1 u3 u4 u7 u9 u10 u14 u23 w1 i1) (z1_3_4_7_9_10_14_23_ u1 u3 u4 u7 u9 u10 u14 u23 w1 i1) ?_
      refine wpAnyH_take (i := 30) (oi := o30) rfl hs f1_3_4_7_9_10_14_23_30 r1_3_4_7_9_10_14_23_30 (fun _ _ _ h => h) (y1_3_4_7_9_10_14_23_30 u1 u3 u4 u7 u9 u10 u14 u23 w1 i1) (z1_3_4_7_9_10_14_23_ u1 u3 u4 u7 u9 u10 u14 u23 w1 i1) ?_
      exact t1_3_4_7_9_10_14_23_ u1 u3 u4 u7 u9 u10 u14 u23 w1 i1
  have t1_3_4_7_9_10_ : ∀ (u1 u3 u4 u7 u9 u10 : Value) w', I1_3_4_7_9_10_ u1 u3 u4 u7 u9 u10 w' → wpAnyH P .any #[o0, o1, o2, o3, o4, o5, o6, o7, o8, o9, o10, o11, o12, o13, o14, o15, o16, o17, o18, o19, o20, o21, o22, o23, o24, o25, o26, o27, o28, o29, o30] (NoPanic Q) S 13 #[true, true, true, true, true, true, true, true, true, true, true, true, true, true, false, true, true, true, true, false, false, false, false, false, false, false, false, false, false, false, false] ((((((((((((((((B.put o1.dst u1).put o3.dst u3).put o4.dst u4).put o5.dst (v5 u4)).put o6.dst (v6 u4)).put o7.dst u7).put o8.dst (v8 u4)).put o9.dst u9).put o10.dst u10).put o11.dst (v11 u10)).put o12.dst (v12 u10)).put o13.dst (v13 u10)).put o15.dst (v15 u10)).put o16.dst (v16 u10)).put o17.dst (v17 u10)).put o18.dst (v18 u10)) w' := by
    intro u1 u3 u4 u7 u9 u10 w0 i0
    refine wpAnyH_ready (rs := [14]) q1_3_4_7_9_10_ (by simp) (AllReadyH.cons (o := o14) rfl (fun K hK => ?_) AllReadyH.nil)
    · rw [if_pos (wg1_3_4_7_9_10_14 u1 u3 u4 u7 u9 u10)]
      refine s1_3_4_7_9_10_14 u1 u3 u4 u7 u9 u10 w0 i0 K (fun u14 w1 i1 => hK.out _ _ (z1_3_4_7_9_10_14_ u1 u3 u4 u7 u9 u10 u14 w1 i1) (fun _ => ?_))
      clear hK
      rw [Act.put_comm _ _ _ ne18_14]
      rw [Act.put_comm _ _ _ ne17_14]
      rw [Act.put_comm _ _ _ ne16_14]
      rw [Act.put_comm _ _ _ ne15_14]
      refine wpAnyH_take (i := 19) (oi := o19) rfl hs f1_3_4_7_9_10_14_19 r1_3_4_7_9_10_14_19 (fun _ _ _ h => h) (y1_3_4_7_9_10_14_19 u1 u3 u4 u7 u9 u10 u14 w1 i1) (z1_3_4_7_9_10_14_ u1 u3 u4 u7 u9 u10 u14 w1 i1) ?_
      refine wpAnyH_take (i := 20) (oi := o20) rfl hs f1_3_4_7_9_10_14_20 r1_3_4_7_9_10_14_20 (fun _ _ _ h => h) (y1_3_4_7_9_10_14_20 u1 u3 u4 u7 u9 u10 u14 w1 i1) (z1_3_4_7_9_10_14_ u1 u3 u4 u7 u9 u10 u14 w1 i1) ?_
      refine wpAnyH_take (i := 21) (oi := o21) rfl hs f1_3_4_7_9_10_14_21 r1_3_4_7_9_10_14_21 (fun _ _ _ h => h) (y1_3_4_7_9_10_14_21 u1 u3 u4 u7 u9 u10 u14 w1 i1) (z1_3_4_7_9_10_14_ u1 u3 u4 u7 u9 u10 u14 w1 i1) ?_
      refine wpAnyH_take (i := 22) (oi := o22) rfl hs f1_3_4_7_9_10_14_22 r1_3_4_7_9_10_14_22 (fun _ _ _ h => h) (y1_3_4_7_9_10_14_22 u1 u3 u4 u7 u9 u10 u14 w1 i1) (z1_3_4_7_9_10_14_ u1 u3 u4 u7 u9 u10 u14 w1 i1) ?_
      refine wpAnyH_take (i := 24) (oi := o24) rfl hs f1_3_4_7_9_10_14_24 r1_3_4_7_9_10_14_24 (fun _ _ _ h => h) (y1_3_4_7_9_10_14_24 u1 u3 u4 u7 u9 u10 u14 w1 i1) (z1_3_4_7_9_10_14_ u1 u3 u4 u7 u9 u10 u14 w1 i1) ?_
      refine wpAnyH_take (i := 25) (oi := o25) rfl hs f1_3_4_7_9_10_14_25 r1_3_4_7_9_10_14_25 (fun _ _ _ h => h) (y1_3_4_7_9_10_14_25 u1 u3 u4 u7 u9 u10 u14 w1 i1) (z1_3_4_7_9_10_14_ u1 u3 u4 u7 u9 u10 u14 w1 i1) ?_
      refine wpAnyH_take (i := 26) (oi := o26) rfl hs f1_3_4_7_9_10_14_26 r1_3_4_7_9_10_14_26 (fun _ _ _ h => h) (y1_3_4_7_9_10_14_26 u1 u3 u4 u7 u9 u10 u14 w1 i1) (z1_3_4_7_9_10_14_ u1 u3 u4 u7 u9 u10 u14 w1 i1) ?_
      refine wpAnyH_take (i := 27) (oi := o27) rfl hs f1_3_4_7_9_10_14_27 r1_3_4_7_9_10_14_27 (fun _ _ _ h => h) (y1_3_4_7_9_10_14_27 u1 u3 u4 u7 u9 u10 u14 w1 i1) (z1_3_4_7_9_10_14_ u1 u3 u4 u7 u9 u10 u14 w1 i1) ?_
      exact t1_3_4_7_9_10_14_ u1 u3 u4 u7 u9 u10 u14 w1 i1
  have t1_3_4_7_9_ : ∀ (u1 u3 u4 u7 u9 : Value) w', I1_3_4_7_9_ u1 u3 u4 u7 u9 w' → wpAnyH P .any #[o0, o1, o2, o3, o4, o5, o6, o7, o8, o9, o10, o11, o12, o13, o14, o15, o16, o17, o18, o19, o20, o21, o22, o23, o24, o25, o26, o27, o28, o29, o30] (NoPanic Q) S 21 #[true, true, true, true, true, true, true, true, true, true, false, false, false, false, false, false, false, false, false, false, false, false, false, false, false, false, false, false, false, false, false] ((((((((B.put o1.dst u1).put o3.dst u3).put o4.dst u4).put o5.dst (v5 u4)).put o6.dst (v6 u4)).put o7.dst u7).put o8.dst (v8 u4)).put o9.dst u9) w' := by
    intro u1 u3 u4 u7 u9 w0 i0
    refine wpAnyH_ready (rs := [10]) q1_3_4_7_9_ (by simp) (AllReadyH.cons (o := o10) rfl (fun K hK => ?_) AllReadyH.nil)
    · rw [if_pos (wg1_3_4_7_9_10 u1 u3 u4 u7 u9)]
      refine s1_3_4_7_9_10 u1 u3 u4 u7 u9 w0 i0 K (fun u10 w1 i1 => hK.out _ _ (z1_3_4_7_9_10_ u1 u3 u4 u7 u9 u10 w1 i1) (fun _ => ?_))
      clear hK
      refine wpAnyH_take (i := 11) (oi := o11) rfl hs f1_3_4_7_9_10_11 r1_3_4_7_9_10_11 (fun _ _ _ h => h) (y1_3_4_7_9_10_11 u1 u3 u4 u7 u9 u10 w1 i1) (z1_3_4_7_9_10_ u1 u3 u4 u7 u9 u10 w1 i1) ?_
      refine wpAnyH_take (i := 12) (oi := o12) rfl hs f1_3_4_7_9_10_12 r1_3_4_7_9_10_12 (fun _ _ _ h => h) (y1_3_4_7_9_10_12 u1 u3 u4 u7 u9 u10 w1 i1) (z1_3_4_7_9_10_ u1 u3 u4 u7 u9 u10 w1 i1) ?_
      refine wpAnyH_take (i := 13) (oi := o13) rfl hs f1_3_4_7_9_10_13 r1_3_4_7_9_10_13 (fun _ _ _ h => h) (y1_3_4_7_9_10_13 u1 u3 u4 u7 u9 u10 w1 i1) (z1_3_4_7_9_10_ u1 u3 u4 u7 u9 u10 w1 i1) ?_
      refine wpAnyH_take (i := 15) (oi := o15) rfl hs f1_3_4_7_9_10_15 r1_3_4_7_9_10_15 (fun _ _ _ h => h) (y1_3_4_7_9_10_15 u1 u3 u4 u7 u9 u10 w1 i1) (z1_3_4_7_9_10_ u1 u3 u4 u7 u9 u10 w1 i1) ?_
      refine wpAnyH_take (i := 16) (oi := o16) rfl hs f1_3_4_7_9_10_16 r1_3_4_7_9_10_16 (fun _ _ _ h => h) (y1_3_4_7_9_10_16 u1 u3 u4 u7 u9 u10 w1 i1) (z1_3_4_7_9_10_ u1 u3 u4 u7 u9 u10 w1 i1) ?_
      refine wpAnyH_take (i := 17) (oi := o17) rfl hs f1_3_4_7_9_10_17 r1_3_4_7_9_10_17 (fun _ _ _ h => h) (y1_3_4_7_9_10_17 u1 u3 u4 u7 u9 u10 w1 i1) (z1_3_4_7_9_10_ u1 u3 u4 u7 u9 u10 w1 i1) ?_
      refine wpAnyH_take (i := 18) (oi := o18) rfl hs f1_3_4_7_9_10_18 r1_3_4_7_9_10_18 (fun _ _ _ h => h) (y1_3_4_7_9_10_18 u1 u3 u4 u7 u9 u10 w1 i1) (z1_3_4_7_9_10_ u1 u3 u4 u7 u9 u10 w1 i1) ?_
      exact t1_3_4_7_9_10_ u1 u3 u4 u7 u9 u10 w1 i1
  have t1_3_4_7_ : ∀ (u1 u3 u4 u7 : Value) w', I1_3_4_7_ u1 u3 u4 u7 w' → wpAnyH P .any #[o0, o1, o2, o3, o4, o5, o6, o7, o8, o9, o10, o11, o12, o13, o14, o15, o16, o17, o18, o19, o20, o21, o22, o23, o24, o25, o26, o27, o28, o29, o30] (NoPanic Q) S 22 #[true, true, true, true, true, true, true, true, true, false, false, false, false, false, false, false, false, false, false, false, false, false, false, false, false, false, false, false, false, false, false] (((((((B.put o1.dst u1).put o3.dst u3).put o4.dst u4).put o5.dst (v5 u4)).put o6.dst (v6 u4)).put o7.dst u7).put o8.dst (v8 u4)) w' := by
    intro u1 u3 u4 u7 w0 i0
    refine wpAnyH_ready (rs := [9]) q1_3_4_7_ (by simp) (AllReadyH.cons (o := o9) rfl (fun K hK => ?_) AllReadyH.nil)
    · rw [if_pos (wg1_3_4_7_9 u1 u3 u4 u7)]
      refine s1_3_4_7_9 u1 u3 u4 u7 w0 i0 K (fun u9 w1 i1 => hK.out _ _ (z1_3_4_7_9_ u1 u3 u4 u7 u9 w1 i1) (fun _ => ?_))
      clear hK
      exact t1_3_4_7_9_ u1 u3 u4 u7 u9 w1 i1
  have t1_3_4_ : ∀ (u1 u3 u4 : Value) w', I1_3_4_ u1 u3 u4 w' → wpAnyH P .any #[o0, o1, o2, o3, o4, o5, o6, o7, o8, o9, o10, o11, o12, o13, o14, o15, o16, o17, o18, o19, o20, o21, o22, o23, o24, o25, o26, o27, o28, o29, o30] (NoPanic Q) S 23 #[true, true, true, true, true, true, true, false, true, false, false, false, false, false, false, false, false, false, false, false, false, false, false, false, false, false, false, false, false, false, false] ((((((B.put o1.dst u1).put o3.dst u3).put o4.dst u4).put o5.dst (v5 u4)).put o6.dst (v6 u4)).put o8.dst (v8 u4)) w' := by
    intro u1 u3 u4 w0 i0
    refine wpAnyH_ready (rs := [7]) q1_3_4_ (by simp) (AllReadyH.cons (o := o7) rfl (fun K hK => ?_) AllReadyH.nil)
    · rw [if_pos (wg1_3_4_7 u1 u3 u4)]
      refine s1_3_4_7 u1 u3 u4 w0 i0 K (fun u7 w1 i1 => hK.out _ _ (z1_3_4_7_ u1 u3 u4 u7 w1 i1) (fun _ => ?_))
      clear hK
      rw [Act.put_comm _ _ _ ne8_7]
      exact t1_3_4_7_ u1 u3 u4 u7 w1 i1
  have t1_3_ : ∀ (u1 u3 : Value) w', I1_3_ u1 u3 w' → wpAnyH P .any #[o0, o1, o2, o3, o4, o5, o6, o7, o8, o9, o10, o11, o12, o13, o14, o15, o16, o17, o18, o19, o20, o21, o22, o23, o24, o25, o26, o27, o28, o29, o30] (NoPanic Q) S 27 #[true, true, true, true, false, false, false, false, false, false, false, false, false, false, false, false, false, false, false, false, false, false, false, false, false, false, false, false, false, false, false] ((B.put o1.dst u1).put o3.dst u3) w' := by
    intro u1 u3 w0 i0
    refine wpAnyH_ready (rs := [4]) q1_3_ (by simp) (AllReadyH.cons (o := o4) rfl (fun K hK => ?_) AllReadyH.nil)
    · rw [if_pos (wa4 _)]
      refine s1_3_4 u1 u3 w0 i0 K (fun u4 w1 i1 => hK.out _ _ (z1_3_4_ u1 u3 u4 w1 i1) (fun _ => ?_))
      clear hK
      refine wpAnyH_take (i := 5) (oi := o5) rfl hs f1_3_4_5 r1_3_4_5 (fun _ _ _ h => h) (y1_3_4_5 u1 u3 u4 w1 i1) (z1_3_4_ u1 u3 u4 w1 i1) ?_
      refine wpAnyH_take (i := 6) (oi := o6) rfl hs f1_3_4_6 r1_3_4_6 (fun _ _ _ h => h) (y1_3_4_6 u1 u3 u4 w1 i1) (z1_3_4_ u1 u3 u4 w1 i1) ?_
      refine wpAnyH_take (i := 8) (oi := o8) rfl hs f1_3_4_8 r1_3_4_8 (fun _ _ _ h => h) (y1_3_4_8 u1 u3 u4 w1 i1) (z1_3_4_ u1 u3 u4 w1 i1) ?_
      exact t1_3_4_ u1 u3 u4 w1 i1
  have t1_ : ∀ (u1 : Value) w', I1_ u1 w' → wpAnyH P .any #[o0, o1, o2, o3, o4, o5, o6, o7, o8, o9, o10, o11, o12, o13, o14, o15, o16, o17, o18, o19, o20, o21, o22, o23, o24, o25, o26, o27, o28, o29, o30] (NoPanic Q) S 28 #[true, true, true, false, false, false, false, false, false, false, false, false, false, false, false, false, false, false, false, false, false, false, false, false, false, false, false, false, false, false, false] (B.put o1.dst u1) w' := by
    intro u1 w0 i0
    refine wpAnyH_ready (rs := [3]) q1_ (by simp) (AllReadyH.cons (o := o3) rfl (fun K hK => ?_) AllReadyH.nil)
    · rw [if_pos (wa3 _)]
      refine s1_3 u1 w0 i0 K (fun u3 w1 i1 => hK.out _ _ (z1_3_ u1 u3 w1 i1) (fun _ => ?_))
      clear hK
      exact t1_3_ u1 u3 w1 i1
  have t_ : ∀ w', I_  w' → wpAnyH P .any #[o0, o1, o2, o3, o4, o5, o6, o7, o8, o9, o10, o11, o12, o13, o14, o15, o16, o17, o18, o19, o20, o21, o22, o23, o24, o25, o26, o27, o28, o29, o30] (NoPanic Q) S 29 #[true, false, true, false, false, false, false, false, false, false, false, false, false, false, false, false, false, false, false, false, false, false, false, false, false, false, false, false, false, false, false] B w' := by
    intro w0 i0
    refine wpAnyH_ready (rs := [1]) q_ (by simp) (AllReadyH.cons (o := o1) rfl (fun K hK => ?_) AllReadyH.nil)
    · rw [if_pos (wa1 _)]
      refine s_1  w0 i0 K (fun u1 w1 i1 => hK.out _ _ (z1_ u1 w1 i1) (fun _ => ?_))
      clear hK
      exact t1_ u1 w1 i1
  exact t_ w.drew i0

end
end Go.Proofs.Ytlopdlcepmmjdaa
namespace Go.Proofs.Ytlopdlcepmmjdaa
open Go.RowKit Go.BigFrame Go.Maps Go.Sort
set_option linter.unusedVariables false
set_option linter.unusedSimpArgs false
theorem rdS_own {w : World} {B : Nat} {v : Value} {ss : List (List UInt8)} (h : w.ownsRow B 9 1 v ss.length (ss.map encStr)) : RdS w v ss := by
  rcases h.2 with ⟨rfl, h0⟩ | ⟨g, cap, cur, rfl, _, hg, hc, hm, hs, ht⟩
  · have : ss = [] := List.eq_nil_of_length_eq_zero h0
    subst this
    exact ⟨none, 0, 0, rfl, rfl, Nat.le_refl _, by omega, fun h => by omega⟩
  · refine ⟨_, _, _, rfl, rfl, hc, by unfold maxLen at hm; omega, fun _ => ⟨g, 0, rfl, fun i hi => ?_⟩⟩
    have := h.cells (g := g) rfl i (encStr ss[i]) (by rw [List.getElem?_map, List.getElem?_eq_getElem hi]; rfl)
    rw [Addr.add_lit] at this
    exact this

set_option maxRecDepth 100000 in
set_option maxHeartbeats 1500000 in
theorem looks_any (d nb bb : Nat) (B : List Nat) (c nc bc : Nat) (R : List Nat) (σ : DSt) (w : World) (hd : DK w d B nb bb σ) (hc : RK w c R nc bc σ) (hnb : nb ≤ 900000000) (hbb : bb ≤ 140737488350000) (hnc : nc ≤ 900000000) (hbc : bc ≤ 140737488350000) :
    Calls Try.prog 11 #[.pointer (some ⟨d, 0, none⟩), .pointer (some ⟨c, 0, none⟩)] w fun e w' => e = .returned (.bool true) ∧ Kept [] w w' := by
  obtain ⟨_, q4, q5, _, _⟩ := hc.cells
  go_enter Try.func11, Try.ntmps11
  go_upto_region 1 with fail
  refine wp_lk31 (by kernel_rfl) (by kernel_rfl) (by kernel_rfl) (by kernel_rfl) (by kernel_rfl) (by kernel_rfl) (by kernel_rfl) (by kernel_rfl) (by kernel_rfl) (by kernel_rfl) (by kernel_rfl) (by kernel_rfl) (by kernel_rfl) (by kernel_rfl) (by kernel_rfl) (by kernel_rfl) (by kernel_rfl) (by kernel_rfl) (by kernel_rfl) (by kernel_rfl) (by kernel_rfl) (by kernel_rfl) (by kernel_rfl) (by kernel_rfl) (by kernel_rfl) (by kernel_rfl) (by kernel_rfl) (by kernel_rfl) (by kernel_rfl) (by kernel_rfl) (by kernel_rfl) (by kernel_rfl) (by kernel_rfl) (by kernel_rfl) (by kernel_rfl) (by kernel_rfl) (by kernel_rfl) (by kernel_rfl) (by kernel_rfl) (by kernel_rfl) (by kernel_rfl) (by kernel_rfl) (by kernel_rfl) (by kernel_rfl) (by kernel_rfl) (by kernel_rfl) (by kernel_rfl) (by kernel_rfl) (by kernel_rfl) (by kernel_rfl) (by kernel_rfl) (by kernel_rfl) (by kernel_rfl) (by kernel_rfl) (by kernel_rfl) (by kernel_rfl) (by kernel_rfl) rfl rfl rfl (by simp) (by simp) (by simp) (by simp) (by simp) (by simp) (by simp) (by simp) (by simp)
    (.pointer (some ⟨d, 0, none⟩)) (.pointer (some ⟨c, 0, none⟩)) _ _
    (fun w' => Kept [] w w')
    (fun w' => Kept [] w w')
    (fun u1 w' => (∃ ts, RdFl w' u1 ts ∧ ts.map Prod.fst = srtA σ.A) ∧ Kept [] w w')
    (fun u1 u3 w' => (∃ ts ss, RdFl w' u1 ts ∧ RdFl w' u3 ss ∧ ts.map Prod.fst = srtA σ.A ∧ ss.map Prod.fst = srtA σ.A) ∧ Kept [] w w')
    (fun u1 u3 u4 w' => u4 = .bool true ∧ Kept [] w w')
    (fun u1 u3 u4 u7 w' => (u4 = .bool true ∧ RdS w' u7 (nmsOf σ)) ∧ Kept [] w w')
    (fun u1 u3 u4 u7 u9 w' => (u4 = .bool true ∧ RdS w' u7 (nmsOf σ) ∧ RdS w' u9 (nmsOf σ)) ∧ Kept [] w w')
    (fun u1 u3 u4 u7 u9 u10 w' => (u4 = .bool true ∧ u10 = .bool true) ∧ Kept [] w w')
    (fun u1 u3 u4 u7 u9 u10 u14 w' => (u4 = .bool true ∧ u10 = .bool true ∧ u14 = .int .i64 σ.op) ∧ Kept [] w w')
    (fun u1 u3 u4 u7 u9 u10 u14 u23 w' => (u4 = .bool true ∧ u10 = .bool true ∧ u14 = .int .i64 σ.op ∧ u23 = .bool σ.off) ∧ Kept [] w w')
    (fun _ => .bool true) (fun _ => .pointer (some ⟨d, 0, none⟩)) (fun _ => .pointer (some ⟨c, 0, none⟩)) (fun _ => .bool true) (fun _ => .bool true) (fun _ => .pointer (some ⟨d, 0, none⟩)) (fun _ => .pointer (some ⟨c, 0, none⟩)) (fun _ => .pointer (some ⟨c, 0, none⟩)) (fun _ => .pointer (some ⟨c, 4, none⟩)) (fun _ => .int .i64 σ.op) (fun _ => .bool true) (fun _ => .bool true) (fun _ => .bool true) (fun _ => .pointer (some ⟨d, 0, none⟩)) (fun _ => .pointer (some ⟨c, 0, none⟩)) (fun _ => .pointer (some ⟨c, 0, none⟩)) (fun _ => .pointer (some ⟨c, 5, none⟩)) (fun _ => .bool σ.off) (fun _ => .bool true) (fun _ => .bool true) (fun _ => .bool true)
    (by simp only [Act.put, List.setIfInBounds_toArray, List.set_cons_zero, List.set_cons_succ]; rfl) (by exact Or.inl ⟨by rfl, fun W' hW' => by go_simp⟩)
    (by simp only [Act.put, List.setIfInBounds_toArray, List.set_cons_zero, List.set_cons_succ]; rfl) (by exact Or.inl ⟨by rfl, fun W' hW' => by go_simp⟩)
    (Kept.refl [] w).drew
    ⟨fun w' h => h, fun u1 w' h => h.2, fun u1 u3 w' h => h.2, fun u1 u3 u4 w' h => h.2, fun u1 u3 u4 u7 w' h => h.2, fun u1 u3 u4 u7 u9 w' h => h.2, fun u1 u3 u4 u7 u9 u10 w' h => h.2, fun u1 u3 u4 u7 u9 u10 u14 w' h => h.2, fun u1 u3 u4 u7 u9 u10 u14 u23 w' h => h.2⟩
    (by intros; simp only [Act.put, List.setIfInBounds_toArray, List.set_cons_zero, List.set_cons_succ]; rfl)
    (by intros; simp only [Act.put, List.setIfInBounds_toArray, List.set_cons_zero, List.set_cons_succ]; rfl)
    (by intros; simp only [Act.put, List.setIfInBounds_toArray, List.set_cons_zero, List.set_cons_succ]; rfl)
    (by intros; simp only [Act.put, List.setIfInBounds_toArray, List.set_cons_zero, List.set_cons_succ]; rfl)
    (by intros; simp only [Act.put, List.setIfInBounds_toArray, List.set_cons_zero, List.set_cons_succ]; rfl)
    (by
      intro w' k K hK
      simp only [Act.put, List.setIfInBounds_toArray, List.set_cons_zero, List.set_cons_succ] at hK ⊢
      refine wp_callN rfl Try.call26 [.pointer (some ⟨d, 0, none⟩)] rfl (files_D d nb bb B σ w' (hd.old k) (by omega) (by omega)) ?_
      rintro e w2 ⟨v, ts, rfl, ho, ht, k2⟩
      exact ⟨_, rfl, hK _ _ ⟨⟨ts, ho.rd, ht⟩, k.trans k2 (by simp)⟩⟩)
    (by
      rintro u1 w' ⟨⟨ts, hr, ht⟩, k⟩ K hK
      simp only [Act.put, List.setIfInBounds_toArray, List.set_cons_zero, List.set_cons_succ] at hK ⊢
      refine wp_callN rfl Try.call40 [.pointer (some ⟨c, 0, none⟩)] rfl (rfiles_any c nc bc R σ w' (hc.old k) (by omega) (by omega)) ?_
      rintro e w2 ⟨v, ss, rfl, ho, hu, k2⟩
      exact ⟨_, rfl, hK _ _ ⟨⟨ts, ss, hr.old k2, ho.rd, ht, hu⟩, k.trans k2 (by simp)⟩⟩)
    (by
      rintro u1 u3 w' ⟨⟨ts, ss, hr, hs, ht, hu⟩, k⟩ K hK
      simp only [Act.put, List.setIfInBounds_toArray, List.set_cons_zero, List.set_cons_succ] at hK ⊢
      refine wp_callN rfl Try.call17 [u1, u3] rfl (sameFiles_any u1 u3 ts ss w' hr hs (ht.trans hu.symm) (by have h1 := congrArg List.length ht; rw [List.length_map, srtA_len] at h1; have := hd.len; omega)) ?_
      rintro e w2 ⟨rfl, k2⟩
      exact ⟨_, rfl, hK _ _ ⟨by trivial, k.trans k2 (by simp)⟩⟩)
    (by
      rintro u1 u3 u4 w' ⟨rfl, k⟩ K hK
      simp only [Act.put, List.setIfInBounds_toArray, List.set_cons_zero, List.set_cons_succ] at hK ⊢
      refine wp_callN rfl Try.call33 [.pointer (some ⟨d, 0, none⟩)] rfl (namesOf_D d nb bb B σ w' (hd.old k) (by omega)) ?_
      rintro e w2 ⟨v, rfl, ho, k2⟩
      exact ⟨_, rfl, hK _ _ ⟨⟨by trivial, rds_owns ho⟩, k.trans k2 (by simp)⟩⟩)
    (by
      rintro u1 u3 u4 u7 w' ⟨⟨rfl, h7⟩, k⟩ K hK
      simp only [Act.put, List.setIfInBounds_toArray, List.set_cons_zero, List.set_cons_succ] at hK ⊢
      refine wp_callN rfl Try.call41 [.pointer (some ⟨c, 0, none⟩)] rfl (rNames_any c nc bc R σ w' (hc.old k) (by omega) (by omega)) ?_
      rintro e w2 ⟨v, rfl, ho, k2⟩
      exact ⟨_, rfl, hK _ _ ⟨⟨by trivial, h7.kept k2 (by simp), rds_owns ho⟩, k.trans k2 (by simp)⟩⟩)
    (by
      rintro u1 u3 u4 u7 u9 w' ⟨⟨rfl, h7, h9⟩, k⟩ K hK
      simp only [Act.put, List.setIfInBounds_toArray, List.set_cons_zero, List.set_cons_succ] at hK ⊢
      have h8 := names_any u7 u9 (nmsOf σ) (nmsOf σ) w' h7 h9
      rw [decide_eq_true rfl] at h8
      refine wp_callN rfl Try.call32 [u7, u9] rfl h8 ?_
      rintro e w2 ⟨rfl, n9, rfl⟩
      exact ⟨_, rfl, hK _ _ ⟨⟨by trivial, by trivial⟩, k.drewN n9⟩⟩)
    (by
      rintro u1 u3 u4 u7 u9 u10 w' ⟨⟨rfl, rfl⟩, k⟩ K hK
      simp only [Act.put, List.setIfInBounds_toArray, List.set_cons_zero, List.set_cons_succ] at hK ⊢
      refine wp_callN rfl Try.call29 [.pointer (some ⟨d, 0, none⟩)] rfl (ops_D d nb bb B σ w' (hd.old k)) ?_
      rintro e w2 ⟨rfl, rfl⟩
      exact ⟨_, rfl, hK _ _ ⟨⟨by trivial, by trivial, by trivial⟩, k⟩⟩)
    (by
      rintro u1 u3 u4 u7 u9 u10 u14 w' ⟨⟨rfl, rfl, rfl⟩, k⟩ K hK
      simp only [Act.put, List.setIfInBounds_toArray, List.set_cons_zero, List.set_cons_succ] at hK ⊢
      refine wp_callN rfl Try.call28 [.pointer (some ⟨d, 0, none⟩)] rfl (off_D d nb bb B σ w' (hd.old k)) ?_
      rintro e w2 ⟨rfl, rfl⟩
      exact ⟨_, rfl, hK _ _ ⟨⟨by trivial, by trivial, by trivial, by trivial⟩, k⟩⟩)
    (by rintro u1 u3 u4 w' ⟨rfl, k⟩; exact Or.inl ⟨by simp only [Act.put, List.setIfInBounds_toArray, List.set_cons_zero, List.set_cons_succ]; rfl, fun W' hW' => by  simp only [Act.put, List.setIfInBounds_toArray, List.set_cons_zero, List.set_cons_succ]; go_simp⟩)
    (by rintro u1 u3 u4 w' ⟨rfl, k⟩; exact Or.inl ⟨by simp only [Act.put, List.setIfInBounds_toArray, List.set_cons_zero, List.set_cons_succ]; rfl, fun W' hW' => by  simp only [Act.put, List.setIfInBounds_toArray, List.set_cons_zero, List.set_cons_succ]; go_simp⟩)
    (by rintro u1 u3 u4 w' ⟨rfl, k⟩; exact Or.inl ⟨by simp only [Act.put, List.setIfInBounds_toArray, List.set_cons_zero, List.set_cons_succ]; rfl, fun W' hW' => by  simp only [Act.put, List.setIfInBounds_toArray, List.set_cons_zero, List.set_cons_succ]; go_simp⟩)
    (by rintro u1 u3 u4 u7 u9 u10 w' ⟨⟨rfl, rfl⟩, k⟩; exact Or.inl ⟨by simp only [Act.put, List.setIfInBounds_toArray, List.set_cons_zero, List.set_cons_succ]; rfl, fun W' hW' => by  simp only [Act.put, List.setIfInBounds_toArray, List.set_cons_zero, List.set_cons_succ]; go_simp⟩)
    (by rintro u1 u3 u4 u7 u9 u10 w' ⟨⟨rfl, rfl⟩, k⟩; exact Or.inl ⟨by simp only [Act.put, List.setIfInBounds_toArray, List.set_cons_zero, List.set_cons_succ]; rfl, fun W' hW' => by  simp only [Act.put, List.setIfInBounds_toArray, List.set_cons_zero, List.set_cons_succ]; go_simp⟩)
    (by rintro u1 u3 u4 u7 u9 u10 w' ⟨⟨rfl, rfl⟩, k⟩; exact Or.inl ⟨by simp only [Act.put, List.setIfInBounds_toArray, List.set_cons_zero, List.set_cons_succ]; rfl, fun W' hW' => by  simp only [Act.put, List.setIfInBounds_toArray, List.set_cons_zero, List.set_cons_succ]; go_simp⟩)
    (by rintro u1 u3 u4 u7 u9 u10 w' ⟨⟨rfl, rfl⟩, k⟩; exact Or.inl ⟨by simp only [Act.put, List.setIfInBounds_toArray, List.set_cons_zero, List.set_cons_succ]; rfl, fun W' hW' => by  simp only [Act.put, List.setIfInBounds_toArray, List.set_cons_zero, List.set_cons_succ]; go_simp⟩)
    (by rintro u1 u3 u4 u7 u9 u10 w' ⟨⟨rfl, rfl⟩, k⟩; exact Or.inl ⟨by simp only [Act.put, List.setIfInBounds_toArray, List.set_cons_zero, List.set_cons_succ]; rfl, fun W' hW' => by  simp only [Act.put, List.setIfInBounds_toArray, List.set_cons_zero, List.set_cons_succ]; go_simp⟩)
    (by rintro u1 u3 u4 u7 u9 u10 w' ⟨⟨rfl, rfl⟩, k⟩; exact Or.inl ⟨by simp only [Act.put, List.setIfInBounds_toArray, List.set_cons_zero, List.set_cons_succ]; rfl, fun W' hW' => by  simp only [Act.put, List.setIfInBounds_toArray, List.set_cons_zero, List.set_cons_succ]; go_simp⟩)
    (by rintro u1 u3 u4 u7 u9 u10 w' ⟨⟨rfl, rfl⟩, k⟩; exact Or.inl ⟨by simp only [Act.put, List.setIfInBounds_toArray, List.set_cons_zero, List.set_cons_succ]; rfl, fun W' hW' => by have h9 := hW'.cell q4 (by simp); simp only [Act.put, List.setIfInBounds_toArray, List.set_cons_zero, List.set_cons_succ]; go_simp⟩)
    (by rintro u1 u3 u4 u7 u9 u10 u14 w' ⟨⟨rfl, rfl, rfl⟩, k⟩; exact Or.inl ⟨by simp only [Act.put, List.setIfInBounds_toArray, List.set_cons_zero, List.set_cons_succ]; rfl, fun W' hW' => by  simp only [Act.put, List.setIfInBounds_toArray, List.set_cons_zero, List.set_cons_succ]; go_simp⟩)
    (by rintro u1 u3 u4 u7 u9 u10 u14 w' ⟨⟨rfl, rfl, rfl⟩, k⟩; exact Or.inl ⟨by simp only [Act.put, List.setIfInBounds_toArray, List.set_cons_zero, List.set_cons_succ]; rfl, fun W' hW' => by  simp only [Act.put, List.setIfInBounds_toArray, List.set_cons_zero, List.set_cons_succ]; go_simp⟩)
    (by rintro u1 u3 u4 u7 u9 u10 u14 w' ⟨⟨rfl, rfl, rfl⟩, k⟩; exact Or.inl ⟨by simp only [Act.put, List.setIfInBounds_toArray, List.set_cons_zero, List.set_cons_succ]; rfl, fun W' hW' => by  simp only [Act.put, List.setIfInBounds_toArray, List.set_cons_zero, List.set_cons_succ]; go_simp⟩)
    (by rintro u1 u3 u4 u7 u9 u10 u14 w' ⟨⟨rfl, rfl, rfl⟩, k⟩; exact Or.inl ⟨by simp only [Act.put, List.setIfInBounds_toArray, List.set_cons_zero, List.set_cons_succ]; rfl, fun W' hW' => by  simp only [Act.put, List.setIfInBounds_toArray, List.set_cons_zero, List.set_cons_succ]; go_simp⟩)
    (by rintro u1 u3 u4 u7 u9 u10 u14 w' ⟨⟨rfl, rfl, rfl⟩, k⟩; exact Or.inl ⟨by simp only [Act.put, List.setIfInBounds_toArray, List.set_cons_zero, List.set_cons_succ]; rfl, fun W' hW' => by  simp only [Act.put, List.setIfInBounds_toArray, List.set_cons_zero, List.set_cons_succ]; go_simp⟩)
    (by rintro u1 u3 u4 u7 u9 u10 u14 w' ⟨⟨rfl, rfl, rfl⟩, k⟩; exact Or.inl ⟨by simp only [Act.put, List.setIfInBounds_toArray, List.set_cons_zero, List.set_cons_succ]; rfl, fun W' hW' => by  simp only [Act.put, List.setIfInBounds_toArray, List.set_cons_zero, List.set_cons_succ]; go_simp⟩)
    (by rintro u1 u3 u4 u7 u9 u10 u14 w' ⟨⟨rfl, rfl, rfl⟩, k⟩; exact Or.inl ⟨by simp only [Act.put, List.setIfInBounds_toArray, List.set_cons_zero, List.set_cons_succ]; rfl, fun W' hW' => by  simp only [Act.put, List.setIfInBounds_toArray, List.set_cons_zero, List.set_cons_succ]; go_simp⟩)
    (by rintro u1 u3 u4 u7 u9 u10 u14 w' ⟨⟨rfl, rfl, rfl⟩, k⟩; exact Or.inl ⟨by simp only [Act.put, List.setIfInBounds_toArray, List.set_cons_zero, List.set_cons_succ]; rfl, fun W' hW' => by have h9 := hW'.cell q5 (by simp); simp only [Act.put, List.setIfInBounds_toArray, List.set_cons_zero, List.set_cons_succ]; go_simp⟩)
    (by rintro u1 u3 u4 u7 u9 u10 u14 u23 w' ⟨⟨rfl, rfl, rfl, rfl⟩, k⟩; exact Or.inl ⟨by simp only [Act.put, List.setIfInBounds_toArray, List.set_cons_zero, List.set_cons_succ]; rfl, fun W' hW' => by  simp only [Act.put, List.setIfInBounds_toArray, List.set_cons_zero, List.set_cons_succ]; go_simp⟩)
    (by rintro u1 u3 u4 u7 u9 u10 u14 u23 w' ⟨⟨rfl, rfl, rfl, rfl⟩, k⟩; exact Or.inl ⟨by simp only [Act.put, List.setIfInBounds_toArray, List.set_cons_zero, List.set_cons_succ]; rfl, fun W' hW' => by  simp only [Act.put, List.setIfInBounds_toArray, List.set_cons_zero, List.set_cons_succ]; go_simp⟩)
    (by rintro u1 u3 u4 u7 u9 u10 u14 u23 w' ⟨⟨rfl, rfl, rfl, rfl⟩, k⟩; exact Or.inl ⟨by simp only [Act.put, List.setIfInBounds_toArray, List.set_cons_zero, List.set_cons_succ]; rfl, fun W' hW' => by  simp only [Act.put, List.setIfInBounds_toArray, List.set_cons_zero, List.set_cons_succ]; go_simp⟩)
    ?_
  rintro u1 u3 u4 u7 u9 u10 u14 u23 w9 ⟨⟨rfl, rfl, rfl, rfl⟩, k9⟩
  simp only [Act.put, List.setIfInBounds_toArray, List.set_cons_zero, List.set_cons_succ]
  have HK9 := hide k9
  clear k9 q4 q5 hd hc
  go_wp2_with fail
  go_ret
  exact ⟨rfl, unhide HK9⟩
end Go.Proofs.Ytlopdlcepmmjdaa
namespace Go.Proofs.Ytlopdlcepmmjdaa
open Go.RowKit Go.BigFrame Go.Maps Go.Sort
set_option linter.unusedVariables false
set_option linter.unusedSimpArgs false
theorem toDF_eq {X : IFile} {SY : Nat} (h : X.sy = SY) : toDF X = ⟨X.nm, X.bs, SY, X.nd⟩ := by unfold toDF; rw [h]; rfl
theorem fr_bad {sec : Int} {l : List IFile} (h1 : 1 ≤ sec) (h2 : sec ≤ 4096) (h : ¬ FormedL l) : FrR sec l = 3 := by
  unfold FrR
  rw [if_pos ⟨h1, h2⟩, formedB_no h]
  rfl
theorem fr_good {sec : Int} {l : List IFile} (h1 : 1 ≤ sec) (h2 : sec ≤ 4096) (h : FormedL l) : FrR sec l = 0 := by
  unfold FrR
  rw [if_pos ⟨h1, h2⟩, (formedB_iff l).2 h]
  rfl

set_option maxRecDepth 100000 in
set_option maxHeartbeats 4000000 in
theorem docFrom_any (sec : Int) (v : Value) (l : List IFile) (bb : Nat) (w : World) (hr : RdC 4 w v (l.map ifC)) (ho : ∀ f ∈ l, OkIf w f) (hl : l.length ≤ 1048576) (hb : ∀ f ∈ l, f.bs.length ≤ bb) (hbb : bb ≤ 140737488330000) :
    Calls Try.prog 10 #[.int .i64 sec, v] w fun e w' => ∃ p, e = .returned (.tuple #[p, .int .i64 (FrR sec l : Nat)]) ∧ Kept [] w w' ∧ (FrR sec l ≠ 0 → p = .pointer none) ∧ (FrR sec l = 0 → ∃ c R, p = .pointer (some ⟨c, 0, none⟩) ∧ RK w' c R l.length bb ⟨sec.toNat, 0, 0, false, fun _ => none, l.map toDF⟩ ∧ ∀ x ∈ R, w.heap.size ≤ x) := by
  by_cases hs : 1 ≤ sec ∧ sec ≤ 4096
  · obtain ⟨S, hS⟩ : ∃ S : Nat, sec = S := ⟨sec.toNat, by omega⟩
    subst hS
    have hs1 : ¬ (S : Int) < 1 := by omega
    have hs2 : ¬ (4096 : Int) < (S : Int) := by omega
    have HFB := hide (fun (h : ¬ FormedL l) => fr_bad hs.1 hs.2 h)
    have HFG := hide (fun (h : FormedL l) => fr_good hs.1 hs.2 h)
    have HS := hide hs
    obtain ⟨FR, hFR⟩ : ∃ FR, FrR (S : Int) l = FR := ⟨_, rfl⟩
    rw [hFR] at HFB HFG ⊢
    obtain ⟨va, vl, vc, rfl, g1, g2, g3, g4⟩ := hr
    rw [List.length_map] at g1
    subst g1
    have H4 := hide g4
    have HO := hide ho
    have HB := hide hb
    have k0 := (Kept.refl [] w).alloc (.cells #[.int .i64 (S : Int), .slice none 0 0, .slice none 0 0, .int .i64 0, .int .i64 0, .bool false] 88 (0, 0))
    have g0 := heap_alloc_new w (.cells #[.int .i64 (S : Int), .slice none 0 0, .slice none 0 0, .int .i64 0, .int .i64 0, .bool false] 88 (0, 0))
    obtain ⟨W0, hW0⟩ : ∃ W, w.alloc (.cells #[.int .i64 (S : Int), .slice none 0 0, .slice none 0 0, .int .i64 0, .int .i64 0, .bool false] 88 (0, 0)) = W := ⟨_, rfl⟩
    rw [hW0] at k0 g0
    have HW0 := hide hW0
    have HK0 := hide k0
    have hz : zblk (.slice none 0 0) (([] : List (Int × Int)).map faC) = [] := rfl
    have HP0 := hide (⟨g0, OwnFl.nil _ _, rfl, RdC.nil 2 _, Nat.zero_le _, by funext a; rfl, by rw [hz]; simp, by simp [blk], by rw [hz]; simp⟩ : RP W0 w.heap.size ⟨S, 0, 0, false, fun _ => none, []⟩ (.slice none 0 0) [] (.slice none 0 0) [] 0)
    clear g4 ho hb hs k0 g0 hW0 hz hFR
    go_enter Try.func10, Try.ntmps10
    go_wp2_with (first | (rw [unhide HW0]) | fail)
    go_loopw [20] (fun t20 wr => ∃ (i : Nat) (fsv : Value) (ts : List (DF × Value)), i ≤ l.length ∧ t20 = .int .i64 i ∧ Hid (∀ j (hj : j < l.length), j < i → okF l j hj) ∧ Hid (RP wr w.heap.size ⟨S, 0, 0, false, fun _ => none, (l.take i).map toDF⟩ fsv ts (.slice none 0 0) [] 0) ∧ Hid (∀ x ∈ rkB w.heap.size fsv ts (.slice none 0 0) [], w.heap.size ≤ x) ∧ Hid (Kept [] w wr)) (fun t _ => l.length - (intOf t).toNat)
    case atStart => exact ⟨0, _, _, Nat.zero_le _, rfl, hide (fun j hj h => by omega), HP0, hide (by simp [rkB, flB, blk, zblk]), HK0⟩
    case round =>
      obtain ⟨i, fsv, ts, hi, rfl, HA, HP, HNW, HK⟩ := hrel
      obtain ⟨fa, fc, hfsv, hfg⟩ := (unhide HP).own.shapeL
      subst hfsv
      by_cases hlt : i < l.length
      · have hlt' : (i : Int) < l.length := by omega
        obtain ⟨b, off, rfl, hcc⟩ := unhide H4 (by omega)
        have hrr := hcc i (by rw [List.length_map]; exact hlt)
        rw [List.getElem_map] at hrr
        have p0 := (unhide HK).cell (hrr 0 _ rfl) (by simp)
        have p1 := (unhide HK).cell (hrr 1 _ rfl) (by simp)
        have p2 := (unhide HK).cell (hrr 2 _ rfl) (by simp)
        have p3 := (unhide HK).cell (hrr 3 _ rfl) (by simp)
        rw [Nat.add_zero] at p0
        have hof := unhide HO l[i] (List.getElem_mem hlt)
        have HPR := hide (fun (hp : 0 < i) => by
          have h9 := hcc (i - 1) (by rw [List.length_map]; omega)
          rw [List.getElem_map] at h9
          exact h9 0 _ rfl : ∀ hp : 0 < i, w.cell? ⟨b, off + (i - 1) * 4 + 0, none⟩ = some (.string l[i - 1].nm))
        have HOK : Hid (isNm l[i].nm = true → 0 ≤ l[i].sy → l[i].sy ≤ l[i].bs.length → (∀ hp : 0 < i, l[i - 1].nm.data.toList < l[i].nm.data.toList) → okF l i hlt) := hide (fun a1 a2 a3 a4 => ⟨a1, a2, a3, a4⟩)
        have HNO := hide (fun (hf : FormedL l) => hf i hlt)
        unfold okF at HNO
        have HTS := hide (List.take_succ_eq_append_getElem hlt)
        have HXB := hide (unhide HB l[i] (List.getElem_mem hlt))
        clear hrr hcc
        obtain ⟨xa, xl, xc, hv⟩ := (show ∃ va vl vc, l[i].v = .slice va vl vc by obtain ⟨a, b, c, h9, _⟩ := hof.1; exact ⟨a, b, c, h9⟩)
        have hvl : xl = l[i].bs.length := by
          obtain ⟨a, b, c, h9, h10, _⟩ := hof.1
          rw [hv] at h9
          injection h9 with _ h9 _
          rw [h9, h10]
        have hnl := hof.2.1
        have HRD := hide (by have h9 := hof.1; rw [hv] at h9; exact h9.kept (unhide HK) (by simp))
        rw [hv] at p1
        generalize hX : l[i] = X at *
        subst hvl
        have hX9 : l[i] = X := hX
        clear hof hX hv
        go_upto_region 7 with fail
        have HKV1 := hide ((Kept.refl [] wr).alloc (.cells #[.string X.nm, .slice xa X.bs.length xc, .int .i64 X.sy, .bool X.nd] 54 (0, 0)))
        have HGV := hide (heap_alloc_new wr (.cells #[.string X.nm, .slice xa X.bs.length xc, .int .i64 X.sy, .bool X.nd] 54 (0, 0)))
        obtain ⟨V, hV⟩ : ∃ W, wr.alloc (.cells #[.string X.nm, .slice xa X.bs.length xc, .int .i64 X.sy, .bool X.nd] 54 (0, 0)) = W := ⟨_, rfl⟩
        rw [hV] at HKV1 HGV ⊢
        clear hV p0 p1 p2 p3
        have HKV := hide ((unhide HK).trans (unhide HKV1) (by simp))
        have z0 := cell_of_row _ _ 0 _ _ _ (unhide HGV)
        have z1 := cell_of_row _ _ 1 _ _ _ (unhide HGV)
        have z2 := cell_of_row _ _ 2 _ _ _ (unhide HGV)
        have z3 := cell_of_row _ _ 3 _ _ _ (unhide HGV)
        simp at z0 z1 z2 z3
        have HNM := hide (fun j : Nat => (named_any X.nm (V.drewN j) (by omega)).mono (fun e w' h9 => ⟨h9.1, 0, by rw [h9.2]; rfl⟩) : ∀ j : Nat, Calls Try.prog 38 #[.string X.nm] (V.drewN j) fun e w' => e = .returned (.bool (isNm X.nm)) ∧ ∃ n, w' = (V.drewN j).drewN n)
        have HH2 := hide g2
        by_cases hgood : okF l i hlt
        · obtain ⟨hn, s0', s1', hlt9⟩ := hgood
          rw [hX9] at hn s0' s1'
          rw [hn] at HNM
          have s0 : ¬ X.sy < 0 := by omega
          have s1 : ¬ (X.bs.length : Int) < X.sy := by omega
          obtain ⟨SY, hSY⟩ : ∃ SY : Nat, X.sy = SY := ⟨X.sy.toNat, by omega⟩
          rw [hSY] at s0 s1 z2
          have HSY := hide hSY
          have HOKI := hide (unhide HOK hn s0' s1' (fun hp => by have h9 := hlt9 hp; rw [hX9] at h9; exact h9))
          clear hSY
          by_cases hp : 0 < i
          case' pos =>
            have HLT9 := hide (by have h9 := hlt9 hp; rw [hX9] at h9; exact h9 : l[i - 1].nm.data.toList < X.nm.data.toList)
            have q0 := (unhide HKV).cell (unhide HPR hp) (by simp)
            rw [Nat.add_zero] at q0
            have hip : (0 : Int) < (i : Int) := by omega
            have hsub : (i : Int) - 1 = ((i - 1 : Nat) : Int) := by omega
            generalize l[i - 1] = Y at q0 HLT9
            obtain ⟨i1, hi1⟩ : ∃ i1, i - 1 = i1 := ⟨_, rfl⟩
            rw [hi1] at q0 hsub
            have hi1c : (i1 : Int) < l.length := by omega
            clear hn HOK HNO HPR hlt9 s0' s1'
            refine wp_region_quiet_lit (by kernel_rfl) (by kernel_rfl) ?_
            repeat (go_big_quiet_step (first | (go_at_call 38; exact Calls.mono (unhide HNM _) (fun e x h => ⟨h.1, by obtain ⟨m, hm⟩ := h.2; exact ⟨_, by rw [hm, drewN_drewN]⟩⟩))))
            refine wpQuiet_nil ?_
            rintro _ ⟨m5, rfl⟩
            rw [less_str, decide_eq_true (unhide HLT9)]
            clear q0 hsub hip hi1c
          case' neg =>
            have hip : ¬ (0 : Int) < (i : Int) := by omega
            clear hn HOK HNO HPR hlt9 s0' s1'
            refine wp_region_quiet_lit (by kernel_rfl) (by kernel_rfl) ?_
            repeat (go_big_quiet_step (first | (go_at_call 38; exact Calls.mono (unhide HNM _) (fun e x h => ⟨h.1, by obtain ⟨m, hm⟩ := h.2; exact ⟨_, by rw [hm, drewN_drewN]⟩⟩))))
            refine wpQuiet_nil ?_
            rintro _ ⟨m5, rfl⟩
            clear hip
          all_goals
            clear hp
            have z0 := ((Kept.refl [] V).drewN m5).cell z0 (by simp)
            have z1 := ((Kept.refl [] V).drewN m5).cell z1 (by simp)
            have z2 := ((Kept.refl [] V).drewN m5).cell z2 (by simp)
            have z3 := ((Kept.refl [] V).drewN m5).cell z3 (by simp)
            have HKX := hide ((unhide HKV1).drewN m5)
            obtain ⟨V5, hV5⟩ : ∃ W, V.drewN m5 = W := ⟨_, rfl⟩
            rw [hV5] at z0 z1 z2 z3 HKX ⊢
            clear hV5
            go_upto_region 9 with fail
            have HPX := hide ((unhide HP).old (unhide HKX))
            have q1 := cell_of_row _ _ 1 _ _ _ (unhide HPX).row
            simp [rkC] at q1
            have hnb : ∀ x, (.slice fa ts.length fc : Value).ownBlock = some x → x < wr.heap.size ∧ x ≠ w.heap.size := by
              intro x hx
              have h1 := own_blk hx
              exact ⟨((unhide HP).own.ge x (by simp only [flB, List.mem_append]; exact .inl h1)).2, rk_ne (unhide HP).row (unhide HP).own x (by simp only [flB, List.mem_append]; exact .inl h1)⟩
            have HNC := hide (fun hm => by simp only [Option.mem_toList] at hm; exact (hnb _ hm).2 rfl : w.heap.size ∉ (.slice fa ts.length fc : Value).ownBlock.toList)
            have HNV := hide (fun hm => by simp only [Option.mem_toList] at hm; have := (hnb _ hm).1; omega : wr.heap.size ∉ (.slice fa ts.length fc : Value).ownBlock.toList)
            have HNB := hide hnb
            have HRD5 := hide ((unhide HRD).kept (unhide HKX) (by simp))
            have HTL := hide (by have h9 := (unhide HP).len; simp at h9; omega : ts.length ≤ 1048576)
            have HEQ := hide (by rw [unhide HTS, List.map_append, List.map_cons, List.map_nil, toDF_eq (unhide HSY)] : (l.take (i + 1)).map toDF = (l.take i).map toDF ++ [⟨X.nm, X.bs, SY, X.nd⟩])
            clear hnb
            refine wp_rc12 (by kernel_rfl) (by kernel_rfl) (by kernel_rfl) (by kernel_rfl) (by kernel_rfl) (by kernel_rfl) (by kernel_rfl) (by kernel_rfl) (by kernel_rfl) (by kernel_rfl) (by kernel_rfl) (by kernel_rfl) (by kernel_rfl) (by kernel_rfl) (by kernel_rfl) (by kernel_rfl) (by kernel_rfl) (by kernel_rfl) (by kernel_rfl) (by kernel_rfl) (by kernel_rfl) rfl (by kernel_rfl) rfl (by kernel_rfl) rfl (by kernel_rfl) rfl (by kernel_rfl) rfl (by kernel_rfl) rfl (by kernel_rfl)
              (.pointer (some ⟨w.heap.size, 0, none⟩)) (.pointer (some ⟨w.heap.size, 0, none⟩)) (.pointer (some ⟨w.heap.size, 0, none⟩)) (.pointer (some ⟨w.heap.size, 1, none⟩)) (.slice fa ts.length fc) (.agg #[.string X.nm, .slice xa X.bs.length xc, .int .i64 (SY : Int), .bool X.nd]) _ _ _ _ _ _
              (fun w' => Kept (.slice fa ts.length fc : Value).ownBlock.toList V5 w')
              (fun w' => Kept [] V5 w')
              (fun u0 w' => (∃ g2, u0 = .agg #[.string X.nm, .slice (some ⟨g2, 0, none⟩) X.bs.length X.bs.length, .int .i64 (SY : Int), .bool X.nd] ∧ w'.ownsRow V5.heap.size 5 1 (.slice (some ⟨g2, 0, none⟩) X.bs.length X.bs.length) X.bs.length (X.bs.map Go.Proofs.Ytlopdlcepmmjdaa.u8) ∧ V5.heap.size ≤ g2) ∧ Kept [] V5 w')
              (fun u0 u1 w' => (∃ g2 H, u1 = .slice (some ⟨H, 0, none⟩) 1 1 ∧ w'.heap[H]? = some (.cells #[.string X.nm, .slice (some ⟨g2, 0, none⟩) X.bs.length X.bs.length, .int .i64 (SY : Int), .bool X.nd] 54 (0, 0)) ∧ w'.ownsRow V5.heap.size 5 1 (.slice (some ⟨g2, 0, none⟩) X.bs.length X.bs.length) X.bs.length (X.bs.map Go.Proofs.Ytlopdlcepmmjdaa.u8) ∧ V5.heap.size ≤ g2) ∧ Kept [] V5 w')
              (fun u0 u1 u2 w' => (∃ g2 g5 cap5 W, u2 = .slice (some ⟨g5, 0, none⟩) (ts.length + 1) cap5 ∧ OwnFl 0 w' u2 (ts ++ [(⟨X.nm, X.bs, SY, X.nd⟩, .slice (some ⟨g2, 0, none⟩) X.bs.length X.bs.length)]) ∧ Kept [] V5 W ∧ W.grownBy w' (.slice fa ts.length fc : Value).ownBlock ∧ ((.slice fa ts.length fc : Value).ownBlock = some g5 ∨ g5 = W.heap.size) ∧ V5.heap.size ≤ g2) ∧ Kept (.slice fa ts.length fc : Value).ownBlock.toList V5 w')
              (fun u0 u1 u2 u3 w' => u3 = .pointer (some ⟨w.heap.size, 0, none⟩) ∧ (∃ g2 g5 cap5 W, u2 = .slice (some ⟨g5, 0, none⟩) (ts.length + 1) cap5 ∧ OwnFl 0 w' u2 (ts ++ [(⟨X.nm, X.bs, SY, X.nd⟩, .slice (some ⟨g2, 0, none⟩) X.bs.length X.bs.length)]) ∧ Kept [] V5 W ∧ W.grownBy w' (.slice fa ts.length fc : Value).ownBlock ∧ ((.slice fa ts.length fc : Value).ownBlock = some g5 ∨ g5 = W.heap.size) ∧ V5.heap.size ≤ g2) ∧ Kept (.slice fa ts.length fc : Value).ownBlock.toList V5 w')
              (fun u0 u1 u2 u3 u4 w' => u4 = .pointer (some ⟨w.heap.size, 1, none⟩) ∧ (∃ g2 g5 cap5 W, u2 = .slice (some ⟨g5, 0, none⟩) (ts.length + 1) cap5 ∧ OwnFl 0 w' u2 (ts ++ [(⟨X.nm, X.bs, SY, X.nd⟩, .slice (some ⟨g2, 0, none⟩) X.bs.length X.bs.length)]) ∧ Kept [] V5 W ∧ W.grownBy w' (.slice fa ts.length fc : Value).ownBlock ∧ ((.slice fa ts.length fc : Value).ownBlock = some g5 ∨ g5 = W.heap.size) ∧ V5.heap.size ≤ g2) ∧ Kept (.slice fa ts.length fc : Value).ownBlock.toList V5 w')
              (fun u0 u1 u2 u3 u4 w' => ∃ fsv' ts', RP w' w.heap.size ⟨S, 0, 0, false, fun _ => none, (l.take (i + 1)).map toDF⟩ fsv' ts' (.slice none 0 0) [] 0 ∧ Ev wr w' (rkB w.heap.size (.slice fa ts.length fc) ts (.slice none 0 0) []) (rkB w.heap.size fsv' ts' (.slice none 0 0) []))
              (by simp only [Act.put, List.setIfInBounds_toArray, List.set_cons_zero, List.set_cons_succ]; rfl) (by exact Or.inl ⟨by rfl, fun W' hW' => by  go_simp⟩)
              (by simp only [Act.put, List.setIfInBounds_toArray, List.set_cons_zero, List.set_cons_succ]; rfl) (by exact Or.inl ⟨by rfl, fun W' hW' => by  go_simp⟩)
              (by simp only [Act.put, List.setIfInBounds_toArray, List.set_cons_zero, List.set_cons_succ]; rfl) (by exact Or.inl ⟨by rfl, fun W' hW' => by  go_simp⟩)
              (by simp only [Act.put, List.setIfInBounds_toArray, List.set_cons_zero, List.set_cons_succ]; rfl) (by exact Or.inl ⟨by rfl, fun W' hW' => by  go_simp⟩)
              (by simp only [Act.put, List.setIfInBounds_toArray, List.set_cons_zero, List.set_cons_succ]; rfl) (by exact Or.inl ⟨by rfl, fun W' hW' => by have h90 := hW'.cell q1 (unhide HNC); go_simp⟩)
              (by simp only [Act.put, List.setIfInBounds_toArray, List.set_cons_zero, List.set_cons_succ]; rfl) (by exact Or.inl ⟨by rfl, fun W' hW' => by have h90 := hW'.cell z0 (unhide HNV); have h91 := hW'.cell z1 (unhide HNV); have h92 := hW'.cell z2 (unhide HNV); have h93 := hW'.cell z3 (unhide HNV); go_simp⟩)
              (Kept.refl [] V5).drew
              ⟨fun w' h => h.mono (by simp), fun u0 w' h => h.2.mono (by simp), fun u0 u1 w' h => h.2.mono (by simp), fun u0 u1 u2 w' h => h.2, fun u0 u1 u2 u3 w' h => h.2.2, fun u0 u1 u2 u3 u4 w' h => h.2.2⟩
              (by
                intro w' k K hK
                refine wp_callN rfl Try.call39 [.agg #[.string X.nm, .slice xa X.bs.length xc, .int .i64 (SY : Int), .bool X.nd]] rfl (rtwin_any ⟨X.nm, X.bs, SY, X.nd⟩ (.slice xa X.bs.length xc) w' ((unhide HRD5).kept k (by simp))) ?_
                rintro e w2 ⟨g2, rfl, ho, k2⟩
                exact ⟨_, rfl, hK _ _ ⟨⟨g2, rfl, ownsB k.size ho, Nat.le_trans k.size (ho.lt g2 rfl).1⟩, k.trans k2 (by simp)⟩⟩)
              (by
                rintro u0 w' ⟨⟨g2, rfl, ho, hg⟩, k⟩ K hK
                unfold Oper.wp execOp
                go_simp
                exact hK _ _ ⟨⟨g2, w'.heap.size, rfl, heap_alloc_new _ _, ((Kept.refl [] w').alloc _).owns ho (by simp), hg⟩, k.alloc _⟩)
              (by
                rintro u0 u1 w' ⟨⟨g2, H, rfl, hH, ho, hg⟩, k⟩ K hK
                have hO := (unhide HPX).own.keptF k (by simp)
                obtain ⟨g5, cap5, w5, hrun, h3, h4, h5⟩ := pushFl w' 0 (.slice fa ts.length fc) ts (⟨X.nm, X.bs, SY, X.nd⟩, .slice (some ⟨g2, 0, none⟩) X.bs.length X.bs.length) H hO hH ⟨owns_zero ho, (unhide HRD).byte, by have := unhide HXB; show X.bs.length ≤ _; omega⟩ (by
                  intro a ha y hy hz
                  simp only [blk, List.mem_singleton] at hz
                  subst hz
                  have h9 := ((unhide HPX).own.ge _ (by simp only [flB, List.mem_append, List.mem_flatMap]; exact .inr ⟨a, ha, hy⟩)).2
                  omega) (by have := unhide HTL; omega) (Nat.zero_le _)
                exact wp_appendFl rfl rfl rfl rfl hrun (hK _ _ ⟨⟨g2, g5, cap5, w', rfl, h3, k, h4, h5, hg⟩, (k.mono (by simp)).grown h4 (by intro x hx; left; simp [hx])⟩))
              (by rintro u0 u1 u2 w' ⟨⟨g2, g5, cap5, W9, rfl, h3, k, h4, h5, hg⟩, k9⟩ K hK; unfold Oper.wp execOp; go_simp; exact hK _ _ ⟨rfl, ⟨g2, g5, cap5, W9, rfl, h3, k, h4, h5, hg⟩, k9⟩)
              (by rintro u0 u1 u2 u3 w' ⟨rfl, ⟨g2, g5, cap5, W9, rfl, h3, k, h4, h5, hg⟩, k9⟩ K hK; unfold Oper.wp execOp; go_simp; exact hK _ _ ⟨rfl, ⟨g2, g5, cap5, W9, rfl, h3, k, h4, h5, hg⟩, k9⟩)
              (by
                rintro u0 u1 u2 u3 u4 w' ⟨rfl, ⟨g2, g5, cap5, W9, rfl, h3, k, h4, h5, hg⟩, k9⟩ K hK
                have hk9 := (unhide HKX).trans k (by simp)
                have hrow := (unhide HP).row_push hk9 h4
                have r1 := cell_of_row _ _ 1 _ _ _ hrow
                simp [rkC] at r1
                have f1 := frozen_of_row _ _ 1 _ _ hrow
                have hfin := (unhide HP).push hk9 h3 h4 h5 (by intro x hx; simp only [blk, List.mem_singleton] at hx; subst hx; have := (unhide HKX).size; omega)
                unfold Oper.wp execOp
                go_simp
                exact hK _ ⟨_, _, by rw [unhide HEQ]; exact hfin.1, hfin.2⟩)
              ?_
            rintro u0 u1 u2 u3 u4 w9 ⟨fsv', ts', hp9, ev9⟩
            simp only [Act.put, List.setIfInBounds_toArray, List.set_cons_zero, List.set_cons_succ]
            have HP9 := hide hp9
            have HNW9 := hide ((unhide HK).ev (unhide HNW) ev9)
            clear hp9 ev9 q1 z0 z1 z2 z3
            go_wp2_with fail
            refine ⟨⟨i + 1, fsv', ts', by omega, by simp, hide (fun j hj h9 => ?_), HP9, hide (unhide HNW9).2, hide (unhide HNW9).1⟩, ?_⟩
            · by_cases hji : j < i
              · exact unhide HA j hj hji
              · have : j = i := by omega
                subst this
                exact unhide HOKI
            · simp [intOf]; omega
        · have HBAD := hide (unhide HFB (fun hf => hgood (hf i hlt)))
          cases hn : isNm X.nm
          · rw [hn] at HNM
            clear hn hgood HOK HNO HPR
            refine wp_region_quiet_lit (by kernel_rfl) (by kernel_rfl) ?_
            repeat (go_big_quiet_step (first | (go_at_call 38; exact Calls.mono (unhide HNM _) (fun e x h => ⟨h.1, by obtain ⟨m, hm⟩ := h.2; exact ⟨_, by rw [hm, drewN_drewN]⟩⟩))))
            refine wpQuiet_nil ?_
            rintro _ ⟨m5, rfl⟩
            go_wp2_with fail
            go_ret2
            exact ⟨_, by rw [unhide HBAD]; rfl, (unhide HKV).drewN _, fun _ => rfl, fun h9 => absurd (h9.symm.trans (unhide HBAD)) (by decide)⟩
          · rw [hn] at HNM
            by_cases s0 : X.sy < 0
            · clear hn hgood HOK HNO HPR
              refine wp_region_quiet_lit (by kernel_rfl) (by kernel_rfl) ?_
              repeat (go_big_quiet_step (first | (go_at_call 38; exact Calls.mono (unhide HNM _) (fun e x h => ⟨h.1, by obtain ⟨m, hm⟩ := h.2; exact ⟨_, by rw [hm, drewN_drewN]⟩⟩))))
              refine wpQuiet_nil ?_
              rintro _ ⟨m5, rfl⟩
              go_wp2_with fail
              go_ret2
              exact ⟨_, by rw [unhide HBAD]; rfl, (unhide HKV).drewN _, fun _ => rfl, fun h9 => absurd (h9.symm.trans (unhide HBAD)) (by decide)⟩
            · by_cases s1 : (X.bs.length : Int) < X.sy
              · clear hn hgood HOK HNO HPR
                refine wp_region_quiet_lit (by kernel_rfl) (by kernel_rfl) ?_
                repeat (go_big_quiet_step (first | (go_at_call 38; exact Calls.mono (unhide HNM _) (fun e x h => ⟨h.1, by obtain ⟨m, hm⟩ := h.2; exact ⟨_, by rw [hm, drewN_drewN]⟩⟩))))
                refine wpQuiet_nil ?_
                rintro _ ⟨m5, rfl⟩
                go_wp2_with fail
                go_ret2
                exact ⟨_, by rw [unhide HBAD]; rfl, (unhide HKV).drewN _, fun _ => rfl, fun h9 => absurd (h9.symm.trans (unhide HBAD)) (by decide)⟩
              · have hp : 0 < i := by
                  rcases Nat.eq_zero_or_pos i with h9 | h9
                  · exact absurd (unhide HOK hn (by omega) (by omega) (fun hp => by omega)) hgood
                  · exact h9
                have HLT9 := hide (fun h9 => hgood (unhide HOK hn (by omega) (by omega) (fun _ => h9)) : ¬ l[i - 1].nm.data.toList < X.nm.data.toList)
                have q0 := (unhide HKV).cell (unhide HPR hp) (by simp)
                rw [Nat.add_zero] at q0
                have hip : (0 : Int) < (i : Int) := by omega
                have hsub : (i : Int) - 1 = ((i - 1 : Nat) : Int) := by omega
                generalize l[i - 1] = Y at q0 HLT9
                obtain ⟨i1, hi1⟩ : ∃ i1, i - 1 = i1 := ⟨_, rfl⟩
                rw [hi1] at q0 hsub
                have hi1c : (i1 : Int) < l.length := by omega
                clear hn hgood HOK HNO HPR
                refine wp_region_quiet_lit (by kernel_rfl) (by kernel_rfl) ?_
                repeat (go_big_quiet_step (first | (go_at_call 38; exact Calls.mono (unhide HNM _) (fun e x h => ⟨h.1, by obtain ⟨m, hm⟩ := h.2; exact ⟨_, by rw [hm, drewN_drewN]⟩⟩))))
                refine wpQuiet_nil ?_
                rintro _ ⟨m5, rfl⟩
                rw [less_str, decide_eq_false (unhide HLT9)]
                clear q0 hsub hip
                go_wp2_with fail
                go_ret2
                exact ⟨_, by rw [unhide HBAD]; rfl, (unhide HKV).drewN _, fun _ => rfl, fun h9 => absurd (h9.symm.trans (unhide HBAD)) (by decide)⟩
      · have hlt' : ¬ (i : Int) < l.length := by omega
        have hie : i = l.length := by omega
        subst hie
        rw [List.take_length] at HP
        have hF : FormedL l := fun j hj => unhide HA j hj hj
        have HFF := hide hF
        have HGD := hide (unhide HFG hF)
        have hp := unhide HP
        have HRK := hide (RP.rk (nb := l.length) (bb := bb) ⟨hp.row, hp.own, hp.fst, hp.rd, Nat.zero_le _, hp.ft, hp.ca, hp.fa, hp.lt⟩ ⟨by simp, by simp⟩ (by simp) (by
          intro f hf
          obtain ⟨a, ha, rfl⟩ := List.mem_map.1 hf
          exact unhide HB a ha) (by have := unhide HS; constructor <;> (show _; simp only; omega)) (by
          intro f hf
          obtain ⟨a, ha, rfl⟩ := List.mem_map.1 hf
          obtain ⟨j, hj, rfl⟩ := List.getElem_of_mem ha
          have h9 := hF j hj
          have h8 := h9.2.1
          have h7 := h9.2.2.1
          show (l[j].sy).toNat ≤ l[j].bs.length
          omega) (formed_dist hF))
        clear hF hp
        go_wp2_with fail
        go_ret2
        exact ⟨_, by rw [unhide HGD]; rfl, unhide HK, fun h9 => absurd (unhide HGD) h9, fun _ => ⟨w.heap.size, rfl, _, unhide HRK, unhide HNW⟩⟩
  · obtain ⟨FR, hFR⟩ : ∃ FR, FrR sec l = FR := ⟨_, rfl⟩
    have HFR := hide (by rw [← hFR]; unfold FrR; rw [if_neg hs] : FR = 1)
    rw [hFR]
    clear hFR
    obtain ⟨va, vl, vc, rfl, _⟩ := hr
    clear ho hb
    by_cases h1 : sec < 1
    · clear hs
      go_enter Try.func10, Try.ntmps10
      go_wp2_with fail
      go_ret2
      exact ⟨_, by rw [unhide HFR]; rfl, Kept.refl _ _, fun _ => rfl, fun h9 => absurd (h9.symm.trans (unhide HFR)) (by decide)⟩
    · have h2 : (4096 : Int) < sec := by omega
      clear hs
      go_enter Try.func10, Try.ntmps10
      go_wp2_with fail
      go_ret2
      exact ⟨_, by rw [unhide HFR]; rfl, Kept.refl _ _, fun _ => rfl, fun h9 => absurd (h9.symm.trans (unhide HFR)) (by decide)⟩
end Go.Proofs.Ytlopdlcepmmjdaa
namespace Go.Proofs.Ytlopdlcepmmjdaa
open Go.RowKit Go.BigFrame Go.Maps Go.Sort
set_option linter.unusedVariables false
set_option linter.unusedSimpArgs false

set_option maxRecDepth 100000 in
set_option maxHeartbeats 1000000 in
theorem newR_any (sec : Int) (w : World) :
    Calls Try.prog 15 #[.int .i64 sec] w fun e w' => ∃ p, e = .returned (.tuple #[p, .int .i64 (FrR sec [] : Nat)]) ∧ Kept [] w w' ∧ (FrR sec [] ≠ 0 → p = .pointer none) ∧ (FrR sec [] = 0 → ∃ d D, p = .pointer (some ⟨d, 0, none⟩) ∧ DK w' d D 0 0 ⟨sec.toNat, 0, 0, false, fun _ => none, []⟩ ∧ ∀ x ∈ D, w.heap.size ≤ x) := by
  have HN := hide (fromT_any sec (.slice none 0 0) [] [] w.heap.size 0 w (OwnI.nil _ _) rfl (by simp) (by simp) (by simp))
  generalize FrR sec [] = FR at HN ⊢
  go_enter Try.func15, Try.ntmps15
  go_wp2_with fail
  refine Calls.mono (unhide HN) ?_
  rintro e w1 ⟨p, rfl, k1, h1, h2⟩
  have HK := hide k1
  have H1 := hide h1
  have H2 := hide h2
  clear k1 h1 h2
  go_wp2_with fail
  go_ret2
  exact ⟨_, rfl, unhide HK, unhide H1, unhide H2⟩

set_option maxRecDepth 100000 in
set_option maxHeartbeats 1000000 in
theorem docNew_any (sec : Int) (w : World) :
    Calls Try.prog 16 #[.int .i64 sec] w fun e w' => ∃ p, e = .returned (.tuple #[p, .int .i64 (FrR sec [] : Nat)]) ∧ Kept [] w w' ∧ (FrR sec [] ≠ 0 → p = .pointer none) ∧ (FrR sec [] = 0 → ∃ c R, p = .pointer (some ⟨c, 0, none⟩) ∧ RK w' c R 0 0 ⟨sec.toNat, 0, 0, false, fun _ => none, []⟩ ∧ ∀ x ∈ R, w.heap.size ≤ x) := by
  have HN := hide (docFrom_any sec (.slice none 0 0) [] 0 w (RdC.nil 4 w) (by simp) (by simp) (by simp) (by simp))
  generalize FrR sec [] = FR at HN ⊢
  go_enter Try.func16, Try.ntmps16
  go_wp2_with fail
  refine Calls.mono (unhide HN) ?_
  rintro e w1 ⟨p, rfl, k1, h1, h2⟩
  have HK := hide k1
  have H1 := hide h1
  have H2 := hide h2
  clear k1 h1 h2
  go_wp2_with fail
  go_ret2
  exact ⟨_, rfl, unhide HK, unhide H1, unhide H2⟩

set_option maxRecDepth 100000 in
set_option maxHeartbeats 2000000 in
theorem diskNews_go (sec : Int) (w : World) :
    Calls Try.prog 4 #[.int .i64 sec] w fun e w' => e = .returned (.bool true) ∧ Kept [] w w' := by
  have HN := hide (newR_any sec w)
  have HD := hide (fun W => docNew_any sec W)
  obtain ⟨FR, hFR⟩ : ∃ FR, FrR sec [] = FR := ⟨_, rfl⟩
  rw [hFR] at HN HD
  clear hFR
  go_enter Try.func4, Try.ntmps4
  go_wp2_with fail
  refine Calls.mono (unhide HN) ?_
  rintro e w1 ⟨p, rfl, k1, h1, h2⟩
  have HK1 := hide k1
  have H1 := hide h1
  have H2 := hide h2
  clear k1 h1 h2
  by_cases h0 : FR = 0
  · obtain ⟨d, D, hp, hd, hn⟩ := unhide H2 h0
    subst hp
    have HDK := hide hd
    have HE := hide h0
    have hz : ((FR : Int) != 0) = false := by simp; omega
    clear hd hn h0
    go_wp2_with fail
    refine Calls.mono (unhide HD _) ?_
    rintro e w2 ⟨q, rfl, k2, h1, h2⟩
    obtain ⟨c, R, hq, hc, hm⟩ := h2 (unhide HE)
    subst hq
    have HRK := hide hc
    have HK2 := hide ((unhide HK1).trans k2 (by simp))
    have HD2 := hide ((unhide HDK).old k2)
    clear k2 h1 h2 hc hm
    go_wp2_with fail
    refine Calls.mono (dawake_any _) ?_
    rintro e w3 ⟨rfl, k3⟩
    have HK3 := hide ((unhide HK2).trans k3 (by simp))
    have HD3 := hide ((unhide HD2).old k3)
    have HR3 := hide ((unhide HRK).old k3)
    clear k3
    go_wp2_with fail
    refine Calls.mono (looks_any d 0 0 D c 0 0 R _ _ (unhide HD3) (unhide HR3) (by omega) (by omega) (by omega) (by omega)) ?_
    rintro e w4 ⟨rfl, k4⟩
    have HK4 := hide ((unhide HK3).trans k4 (by simp))
    clear k4
    go_wp2_with fail
    go_ret
    exact ⟨rfl, unhide HK4⟩
  · have hp := unhide H1 h0
    subst hp
    have HE := hide h0
    have hz : ((FR : Int) != 0) = true := by simp; omega
    clear h0
    go_wp2_with fail
    refine Calls.mono (unhide HD _) ?_
    rintro e w2 ⟨q, rfl, k2, h1, h2⟩
    have hq := h1 (unhide HE)
    subst hq
    have HK2 := hide ((unhide HK1).trans k2 (by simp))
    clear k2 h1 h2
    go_wp2_with fail
    refine Calls.mono (dawake_any _) ?_
    rintro e w3 ⟨rfl, k3⟩
    have HK3 := hide ((unhide HK2).trans k3 (by simp))
    clear k3
    go_wp2_with fail
    go_ret
    exact ⟨rfl, unhide HK3⟩

theorem diskNews_walk (sec : Int) (w : World) (hs : -9223372036854775808 ≤ sec ∧ sec ≤ 9223372036854775807) :
    Calls Try.prog 4 #[.int .i64 sec] w fun e w' => e = .returned (.bool true) ∧ Below w.heap.size w w' :=
  (diskNews_go sec w).mono fun e w' h9 => ⟨h9.1, h9.2.below (Nat.le_refl _) (by simp)⟩
end Go.Proofs.Ytlopdlcepmmjdaa
namespace Go.Proofs.Ytlopdlcepmmjdaa
open Go.RowKit Go.BigFrame Go.Maps Go.Sort
set_option linter.unusedVariables false
set_option linter.unusedSimpArgs false

set_option maxRecDepth 100000 in
set_option maxHeartbeats 8000000 in
theorem diskPlays_go (sec : Int) (fv ov : Value) (fs : List IFile) (os : List OpD) (w : World) (hf : RdC 4 w fv (fs.map ifC)) (hfo : ∀ a ∈ fs, OkIf w a) (ho : RdC 7 w ov (os.map opL)) (hoo : ∀ a ∈ os, OkOp w a) (hw : (fs.map fun f => f.bs.length + 1).sum + (os.map opW).sum + 1 ≤ 1048576) :
    Calls Try.prog 3 #[.agg #[.int .i64 sec, fv, ov]] w fun e w' => e = .returned (.bool true) ∧ Kept [] w w' := by
  have HFR := hide hf
  obtain ⟨fa, fl, fc, rfl, _⟩ := id hf
  obtain ⟨oa, ol, oc, rfl, g1, g2, g3, g4⟩ := ho
  rw [List.length_map] at g1
  subst g1
  have HLF := hide (fsum_len fs)
  have HLO := hide (sum_len os opW (by intro a; unfold opW; omega))
  have hk0 := (Kept.refl [] w).alloc (.cells #[.int .i64 sec, .slice fa fl fc, .slice oa os.length oc] 25 (0, 0))
  have hg := heap_alloc_new w (.cells #[.int .i64 sec, .slice fa fl fc, .slice oa os.length oc] 25 (0, 0))
  obtain ⟨W, hW⟩ : ∃ W, w.alloc (.cells #[.int .i64 sec, .slice fa fl fc, .slice oa os.length oc] 25 (0, 0)) = W := ⟨_, rfl⟩
  rw [hW] at hk0 hg
  have HW := hide hW
  have HK := hide hk0
  have HG := hide hg
  have HTW := hide (fun X (k : Kept [] W X) => twins_any (.slice fa fl fc) fs X ((hf.old hk0).old k) (fun f h9 => ((hfo f h9).1.kept hk0 (by simp)).kept k (by simp)) (by have := unhide HLF; omega))
  have HFO := hide (fun f hf2 => And.intro (hfo f hf2).2.1 (hfo f hf2).2.2 : ∀ f ∈ fs, f.nm.size ≤ 1048576 ∧ Rng f.sy)
  have HFB := hide (fun f hf2 => by have := fsum_mem hf2; omega : ∀ f ∈ fs, f.bs.length ≤ 1048576)
  have H4 := hide g4
  have HOO := hide hoo
  have HFOK := hide hfo
  clear hW hk0 hg hf hfo hoo g4
  go_enter Try.func3, Try.ntmps3
  go_wp2_with (first | (rw [unhide HW]) | fail)
  refine Calls.mono (dawake_any _) ?_
  rintro e w1 ⟨rfl, k1⟩
  have HK1 := hide k1
  have HDF := hide (fun X (k : Kept [] W X) => docFrom_any sec (.slice fa fl fc) fs 1048576 X (((unhide HFR).old (unhide HK)).old k) (fun f h9 => ⟨(((unhide HFOK) f h9).1.kept (unhide HK) (by simp)).kept k (by simp), ((unhide HFOK) f h9).2⟩) (by have := unhide HLF; omega) (unhide HFB) (by omega))
  clear k1
  obtain ⟨W1, hW1⟩ : ∃ X, w1 = X := ⟨_, rfl⟩
  subst hW1
  go_upto_region 3 with fail
  refine wp_pl11 (by kernel_rfl) (by kernel_rfl) (by kernel_rfl) (by kernel_rfl) (by kernel_rfl) (by kernel_rfl) (by kernel_rfl) (by kernel_rfl) (by kernel_rfl) (by kernel_rfl) (by kernel_rfl) (by kernel_rfl) (by kernel_rfl) (by kernel_rfl) (by kernel_rfl) (by kernel_rfl) (by kernel_rfl) (by kernel_rfl) (by kernel_rfl) (by kernel_rfl) (by kernel_rfl) (by kernel_rfl) (by kernel_rfl) rfl rfl
    (.pointer (some ⟨w.heap.size, 0, none⟩)) (.int .i64 sec) (.pointer (some ⟨w.heap.size, 1, none⟩)) (.slice fa fl fc) _ _ _ _
    (fun w' => w'.heap[w.heap.size]? = some (.cells #[.int .i64 sec, .slice fa fl fc, .slice oa os.length oc] 25 (0, 0)))
    (fun w' => Kept [] w1 w')
    (fun u4 w' => (∃ ts, OwnI w1.heap.size w' u4 ts ∧ ts.map iK = fs.map iK) ∧ Kept [] w1 w')
    (fun u4 u5 w' => ∃ p, u5 = .tuple #[p, .int .i64 (FrR sec fs : Nat)] ∧ Kept [] w1 w' ∧ (FrR sec fs ≠ 0 → p = .pointer none) ∧ (FrR sec fs = 0 → ∃ d D, p = .pointer (some ⟨d, 0, none⟩) ∧ DK w' d D fs.length 1048576 ⟨sec.toNat, 0, 0, false, fun _ => none, fs.map toDF⟩ ∧ ∀ x ∈ D, w1.heap.size ≤ x))
    (fun _ u5 => u5) (fun _ u5 => tupAt u5 0) (fun _ u5 => tupAt u5 1) (fun _ u5 => tupAt u5 0) (fun _ u5 => tupAt u5 1)
    (by simp only [Act.put, List.setIfInBounds_toArray, List.set_cons_zero, List.set_cons_succ]; rfl) (by exact Or.inl ⟨by rfl, fun W' hW' => by go_simp⟩)
    (by simp only [Act.put, List.setIfInBounds_toArray, List.set_cons_zero, List.set_cons_succ]; rfl) (by exact Or.inl ⟨by rfl, fun W' hW' => by have h9 := cell_of_row _ _ 0 _ _ _ hW'; simp at h9; go_simp⟩)
    (by simp only [Act.put, List.setIfInBounds_toArray, List.set_cons_zero, List.set_cons_succ]; rfl) (by exact Or.inl ⟨by rfl, fun W' hW' => by go_simp⟩)
    (by simp only [Act.put, List.setIfInBounds_toArray, List.set_cons_zero, List.set_cons_succ]; rfl) (by exact Or.inl ⟨by rfl, fun W' hW' => by have h9 := cell_of_row _ _ 1 _ _ _ hW'; simp at h9; go_simp⟩)
    (Kept.refl [] w1).drew
    ⟨fun w' h => ((unhide HK1).trans h (by simp)).heap (unhide HG) (by simp), fun u4 w' h => ((unhide HK1).trans h.2 (by simp)).heap (unhide HG) (by simp), fun u4 u5 w' h => by obtain ⟨p, _, k9, _⟩ := h; exact ((unhide HK1).trans k9 (by simp)).heap (unhide HG) (by simp)⟩
    (by
      intro w' k K hK
      refine wp_callN rfl Try.call9 [.slice fa fl fc] rfl (unhide HTW w' ((unhide HK1).trans k (by simp))) ?_
      rintro e w2 ⟨v', ts, rfl, h1, h2, k2⟩
      exact ⟨_, rfl, hK _ _ ⟨⟨ts, ⟨owns_low h1.own k.size, fun t ht => ⟨owns_low (h1.el t ht).1 k.size, (h1.el t ht).2⟩, h1.ap⟩, h2⟩, k.trans k2 (by simp)⟩⟩)
    (by
      rintro u4 w' ⟨⟨ts, h1, h2⟩, k⟩ K hK
      refine wp_callN rfl Try.call8 [.int .i64 sec, u4] rfl (fromT_any sec u4 fs ts w1.heap.size 1048576 w' h1 h2 (unhide HFO) (by have := unhide HLF; omega) (unhide HFB)) ?_
      rintro e w2 ⟨p, rfl, k2, h3, h4⟩
      refine ⟨_, rfl, hK _ _ ⟨p, rfl, k.trans k2 (by simp), h3, fun h0 => ?_⟩⟩
      obtain ⟨d, D, h5, h6, h7⟩ := h4 h0
      exact ⟨d, D, h5, h6, fun x hx => Nat.le_trans k.size (h7 x hx)⟩)
    (by rintro u4 u5 w' ⟨p, rfl, _⟩; exact Or.inl ⟨by rfl, fun W' hW' => by go_simp⟩)
    (by rintro u4 u5 w' ⟨p, rfl, _⟩; exact Or.inl ⟨by rfl, fun W' hW' => by simp only [tupAt]; go_simp⟩)
    (by rintro u4 u5 w' ⟨p, rfl, _⟩; exact Or.inl ⟨by rfl, fun W' hW' => by simp only [tupAt]; go_simp⟩)
    (by rintro u4 u5 w' ⟨p, rfl, _⟩; exact Or.inl ⟨by rfl, fun W' hW' => by simp only [tupAt]; go_simp⟩)
    (by rintro u4 u5 w' ⟨p, rfl, _⟩; exact Or.inl ⟨by rfl, fun W' hW' => by simp only [tupAt]; go_simp⟩)
    ?_
  rintro u4 u5 w5 ⟨p, rfl, k5, hp0, hp1⟩
  simp only [Act.put, List.setIfInBounds_toArray, List.set_cons_zero, List.set_cons_succ, tupAt, List.getD_cons_zero, List.getD_cons_succ]
  have HK5 := hide ((unhide HK).trans ((unhide HK1).trans k5 (by simp)) (by simp))
  have HKW5 := hide ((unhide HK1).trans k5 (by simp))
  have HG5 := hide ((unhide HKW5).heap (unhide HG) (by simp))
  have HWS := hide (Nat.le_trans (unhide HK).size (unhide HK1).size)
  obtain ⟨E, hE⟩ : ∃ E, FrR sec fs = E := ⟨_, rfl⟩
  rw [hE] at hp0 hp1 HDF ⊢
  have HE := hide hE
  have q0 := cell_of_row _ _ 0 _ _ _ (unhide HG5)
  have q1 := cell_of_row _ _ 1 _ _ _ (unhide HG5)
  simp at q0 q1
  clear hE k5
  by_cases h0 : E = 0
  · obtain ⟨d, D, rfl, hd, hn⟩ := hp1 h0
    have HD := hide hd
    have HN := hide (fun x hx => Nat.le_trans (unhide HWS) (hn x hx) : ∀ x ∈ D, w.heap.size ≤ x)
    have hz : ((E : Int) != 0) = false := by simp; omega
    have HE0 := hide h0
    clear hp0 hp1 hd hn h0
    go_wp2_with fail
    refine Calls.mono (unhide HDF _ (unhide HKW5)) ?_
    rintro e w6 ⟨p6, rfl, k6, h61, h62⟩
    obtain ⟨c, R, hp6, hc, hm⟩ := h62 (unhide HE0)
    subst hp6
    have HC := hide hc
    have HM := hide (fun x hx => Nat.le_trans (unhide HK5).size (hm x hx) : ∀ x ∈ R, w.heap.size ≤ x)
    have HAP := hide (fun x hx hy => by have h1 := (unhide HD).lt x hy; have h2 := hm x hx; omega : ∀ x ∈ R, x ∉ D)
    have HD6 := hide ((unhide HD).old k6)
    have HK6 := hide ((unhide HK5).trans k6 (by simp))
    have HG6 := hide (k6.heap (unhide HG5) (by simp))
    clear k6 h61 h62 hc hm HD q0 q1
    go_wp2_with fail
    refine Calls.mono (looks_any d fs.length 1048576 D c fs.length 1048576 R _ _ (unhide HD6) (unhide HC) (by have := unhide HLF; omega) (by omega) (by have := unhide HLF; omega) (by omega)) ?_
    rintro e w7 ⟨rfl, k7⟩
    have HD7 := hide ((unhide HD6).old k7)
    have HC7 := hide ((unhide HC).old k7)
    have HK7 := hide ((unhide HK6).trans k7 (by simp))
    have q2 := cell_of_row _ _ 2 _ _ _ (k7.heap (unhide HG6) (by simp))
    simp at q2
    clear k7 HD6 HC HK6
    go_wp2_with fail
    go_loopw [57] (fun t57 wr => ∃ (i : Nat) (D R : List Nat) (nb bb nc bc : Nat) (σ : DSt), i ≤ os.length ∧ t57 = .int .i64 i ∧ Hid (DK wr d D nb bb σ) ∧ Hid (RK wr c R nc bc σ) ∧ Hid (∀ x ∈ R, x ∉ D) ∧ Hid (Kept [] w wr) ∧ Hid (∀ x ∈ D, w.heap.size ≤ x) ∧ Hid (∀ x ∈ R, w.heap.size ≤ x) ∧ Hid (nb ≤ fs.length + 2 * ((os.take i).map opW).sum ∧ bb ≤ 1048576 + 4097 * ((os.take i).map opW).sum ∧ nc ≤ fs.length + 2 * ((os.take i).map opW).sum ∧ bc ≤ 1048576 + 4097 * ((os.take i).map opW).sum)) (fun t _ => os.length - (intOf t).toNat)
    case atStart => exact ⟨0, D, R, _, _, _, _, _, Nat.zero_le _, rfl, HD7, HC7, HAP, HK7, HN, HM, hide ⟨by simp, by simp, by simp, by simp⟩⟩
    case round =>
      clear HD7 HC7 HAP HN HM HK7
      obtain ⟨i, D', R', nb, bb, nc, bc, σ, hi, rfl, HD, HC, HAP, HKW, HN, HM, HBB⟩ := hrel
      have hosb : os.length ≤ 1048576 := by have := unhide HLO; omega
      by_cases hlt : i < os.length
      · have hlt' : (i : Int) < os.length := by omega
        obtain ⟨b, off, rfl, hcc⟩ := unhide H4 (by omega)
        have hr := hcc i (by rw [List.length_map]; exact hlt)
        rw [List.getElem_map] at hr
        have p0 := (unhide HKW).cell (hr 0 _ rfl) (by simp)
        have p1 := (unhide HKW).cell (hr 1 _ rfl) (by simp)
        have p2 := (unhide HKW).cell (hr 2 _ rfl) (by simp)
        have p3 := (unhide HKW).cell (hr 3 _ rfl) (by simp)
        have p4 := (unhide HKW).cell (hr 4 _ rfl) (by simp)
        have p5 := (unhide HKW).cell (hr 5 _ rfl) (by simp)
        have p6 := (unhide HKW).cell (hr 6 _ rfl) (by simp)
        rw [Nat.add_zero] at p0
        have hof := unhide HOO os[i] (List.getElem_mem hlt)
        have HOW := hide (opW_take hlt)
        have HTOT := hide (opW_le (os := os) (i + 1))
        clear hr hcc
        generalize os[i] = X at p0 p1 p2 p3 p4 p5 p6 hof HOW
        have HOF := hide hof
        obtain ⟨pa, pl, pc, hpv⟩ : ∃ a l c, X.pv = .slice a l c := by obtain ⟨a, l, c, h1, _⟩ := hof.p; exact ⟨a, l, c, h1⟩
        obtain ⟨ga, gl, gc, hfv⟩ : ∃ a l c, X.fv = .slice a l c := by obtain ⟨a, l, c, h1, _⟩ := hof.f; exact ⟨a, l, c, h1⟩
        obtain ⟨ka, kl, kc, hkv⟩ : ∃ a l c, X.kv = .slice a l c := by obtain ⟨a, l, c, h1, _⟩ := hof.kk; exact ⟨a, l, c, h1⟩
        rw [hpv] at p2
        rw [hfv] at p3
        rw [hkv] at p6
        clear hof
        go_upto_region 12 with fail
        obtain ⟨V, hV⟩ : ∃ V, wr.alloc (.cells #[.int .i64 X.k, .string X.s, .slice pa pl pc, .slice ga gl gc, .int .i64 X.cr, .int .i64 X.n, .slice ka kl kc] 42 (0, 0)) = V := ⟨_, rfl⟩
        have hkv0 := (Kept.refl [] wr).alloc (.cells #[.int .i64 X.k, .string X.s, .slice pa pl pc, .slice ga gl gc, .int .i64 X.cr, .int .i64 X.n, .slice ka kl kc] 42 (0, 0))
        have hgv0 := heap_alloc_new wr (.cells #[.int .i64 X.k, .string X.s, .slice pa pl pc, .slice ga gl gc, .int .i64 X.cr, .int .i64 X.n, .slice ka kl kc] 42 (0, 0))
        rw [hV] at hkv0 hgv0 ⊢
        have HKV := hide hkv0
        have r0 := cell_of_row _ _ 0 _ _ _ hgv0
        have r1 := cell_of_row _ _ 1 _ _ _ hgv0
        have r2 := cell_of_row _ _ 2 _ _ _ hgv0
        have r3 := cell_of_row _ _ 3 _ _ _ hgv0
        have r4 := cell_of_row _ _ 4 _ _ _ hgv0
        have r5 := cell_of_row _ _ 5 _ _ _ hgv0
        have r6 := cell_of_row _ _ 6 _ _ _ hgv0
        simp at r0 r1 r2 r3 r4 r5 r6
        have HGV0 := hide hgv0
        clear p0 p1 p2 p3 p4 p5 p6 hV hkv0 hgv0
        have hbb := unhide HBB
        have hxw : opW X = X.ps.length + X.fl.length + X.ks.length + 1 := rfl
        have how := unhide HOW
        have hto := unhide HTOT
        have hlf := unhide HLF
        have HBD := hide (by omega : nb ≤ 800000000 ∧ nc ≤ 700000000 ∧ bb ≤ 140737480000000 ∧ bc ≤ 140737480000000 ∧ X.ps.length ≤ 1048576 ∧ X.fl.length ≤ 1048576 ∧ X.ks.length ≤ 1048576)
        have HBN := hide (by omega : (nb + 1 + X.fl.length ≤ fs.length + 2 * ((os.take (i + 1)).map opW).sum ∧ bb + 4096 + X.ps.length ≤ 1048576 + 4097 * ((os.take (i + 1)).map opW).sum) ∧ nc + 2 + X.fl.length ≤ fs.length + 2 * ((os.take (i + 1)).map opW).sum ∧ bc + 4096 + X.ps.length ≤ 1048576 + 4097 * ((os.take (i + 1)).map opW).sum)
        clear hbb hxw how hto hlf
        have hkz : ∀ {α : Type} (v : Value) (bs : List α) (h9 : ∀ x ∈ zblk v bs, x < w.heap.size), (∀ x ∈ zblk v bs, x ∉ D') ∧ (∀ x ∈ zblk v bs, x ∉ R') := fun v bs h9 => ⟨fun x hx hy => by have := h9 x hx; have := unhide HN x hy; omega, fun x hx hy => by have := h9 x hx; have := unhide HM x hy; omega⟩
        have HOX := hide (okOp_old (unhide HOF) ((unhide HKW).trans (unhide HKV) (by simp)))
        have hz1 := hkz X.pv X.ps (unhide HOF).p.ltZ
        have hz2 := hkz X.fv (X.fl.map faC) ((unhide HOF).f.ltZ (by intro r hr; obtain ⟨a, _, rfl⟩ := List.mem_map.1 hr; simp [faC]))
        have hz3 := hkz X.kv (X.ks.map keC) ((unhide HOF).kk.ltZ (by intro r hr; obtain ⟨a, _, rfl⟩ := List.mem_map.1 hr; simp [keC]))
        have hbd := unhide HBD
        have hcall := call_D d nb bb D' σ X V ((unhide HD).old (unhide HKV)) (unhide HOX) hz1.1 hz2.1 hz3.1 (by omega) (by omega) hbd.2.2.2.2.2.1 hbd.2.2.2.2.2.2
        have HDOC := hide (fun Z (k : Kept D' V Z) (hn9 : ∀ x, x ∈ zblk X.pv X.ps ∨ x ∈ zblk X.fv (X.fl.map faC) ∨ x ∈ zblk X.kv (X.ks.map keC) → x ∉ D') => by
          have h7 := unhide HOX
          exact doc_R c nc bc R' σ X Z (((unhide HC).old (unhide HKV)).kept k (unhide HAP)) ⟨h7.k, h7.s, h7.p.keptZ k (fun x hx => hn9 x (.inl hx)), h7.f.keptZ k (fun x hx => hn9 x (.inr (.inl hx))), h7.fr, h7.cr, h7.n, h7.kk.keptZ k (fun x hx => hn9 x (.inr (.inr hx))), h7.kr⟩ hz1.2 hz2.2 hz3.2 (by omega) (by omega) hbd.2.2.2.2.2.1 hbd.2.2.2.2.2.2)
        have HZD := hide (fun x (hx : x ∈ zblk X.pv X.ps ∨ x ∈ zblk X.fv (X.fl.map faC) ∨ x ∈ zblk X.kv (X.ks.map keC)) => by rcases hx with h1 | h1 | h1; exact hz1.1 x h1; exact hz2.1 x h1; exact hz3.1 x h1)
        have hopl : (opL X).toArray = #[.int .i64 X.k, .string X.s, .slice pa pl pc, .slice ga gl gc, .int .i64 X.cr, .int .i64 X.n, .slice ka kl kc] := by unfold opL; rw [hpv, hfv, hkv]
        rw [hopl] at hcall HDOC
        have HCALL := hide hcall
        clear hcall hkz hz1 hz2 hz3 hbd hopl hpv hfv hkv
        go_wp2_with fail
        refine Calls.mono (unhide HCALL) ?_
        rintro e w7 ⟨v7, B7, rfl, hd7, ev7, hn7⟩
        have hvd : wr.heap.size ∉ D' := fun h9 => by have := (unhide HD).lt _ h9; omega
        have hgv7 := ev7.1.heap (unhide HGV0) hvd
        have HD7 := hide hd7
        have HN7 := hide hn7
        have HK7 := hide ((((unhide HKW).trans (unhide HKV) (by simp))).ev (unhide HN) ev7)
        have HDOC7 := hide (unhide HDOC w7 ev7.1 (unhide HZD))
        have HAP7 := hide (fun x hx hy => by
          rcases ev7.2 x hy with h9 | h9
          · exact unhide HAP x hx h9
          · have h8 := (unhide HC).lt x hx; have h7 := (unhide HKV).size; omega : ∀ x ∈ R', x ∉ B7)
        have r0 := cell_of_row _ _ 0 _ _ _ hgv7
        have r1 := cell_of_row _ _ 1 _ _ _ hgv7
        have r2 := cell_of_row _ _ 2 _ _ _ hgv7
        have r3 := cell_of_row _ _ 3 _ _ _ hgv7
        have r4 := cell_of_row _ _ 4 _ _ _ hgv7
        have r5 := cell_of_row _ _ 5 _ _ _ hgv7
        have r6 := cell_of_row _ _ 6 _ _ _ hgv7
        simp at r0 r1 r2 r3 r4 r5 r6
        clear hd7 ev7 hn7 HCALL HDOC hvd hgv7
        obtain ⟨⟨⟨bs9, e9⟩, σ9⟩, hst⟩ : ∃ x, stepD σ X = x := ⟨_, rfl⟩
        rw [hst] at HD7 HN7 HDOC7 ⊢
        dsimp only at HD7 HN7 HDOC7 ⊢
        clear hst
        obtain ⟨va7, vl7, vc7, hv7⟩ : ∃ a l c, v7 = .slice a l c := by obtain ⟨a, c, h9⟩ := owns_shape (unhide HN7).own; exact ⟨a, _, c, h9⟩
        subst hv7
        go_wp2_with fail
        refine Calls.mono (unhide HDOC7) ?_
        rintro e w8 ⟨v8, R8, rfl, hc8, ev8, hr8⟩
        obtain ⟨va8, vl8, vc8, hv8⟩ : ∃ a l c, v8 = .slice a l c := by obtain ⟨a, l, c, h1, _⟩ := hr8; exact ⟨a, l, c, h1⟩
        subst hv8
        have HC8 := hide hc8
        have HD8 := hide ((unhide HD7).kept ev8.1 (fun x hx hy => unhide HAP7 x hy hx))
        have HK8 := hide ((unhide HK7).1.ev (unhide HM) ev8)
        have hnr : ∀ x ∈ blk (.slice va7 vl7 vc7), x ∉ R' := by
          intro x hx hy
          have h1 := (unhide HN7).new x hx
          have h2 := (unhide HC).lt x hy
          have h3 := (unhide HKV).size
          omega
        have HP8 := hide ((unhide HN7).rd.kept ev8.1 hnr)
        have HR8 := hide hr8
        have HAP8 := hide (fun x hx hy => by
          rcases ev8.2 x hx with h9 | h9
          · exact unhide HAP7 x h9 hy
          · have h8 := (unhide HD7).lt x hy; omega : ∀ x ∈ R8, x ∉ B7)
        clear hc8 ev8 hr8 hnr r0 r1 r2 r3 r4 r5 r6
        have hsm := same_any (.slice va7 vl7 vc7) (.slice va8 vl8 vc8) bs9 bs9 w8 (unhide HP8) (unhide HR8)
        rw [decide_eq_true rfl] at hsm
        have HSM := hide hsm
        clear hsm
        go_wp2_with fail
        refine Calls.mono (unhide HSM) ?_
        rintro e w10 ⟨rfl, n10, hw10⟩
        have k10 : Kept [] w8 w10 := by rw [hw10]; exact (Kept.refl [] w8).drewN n10
        have HD10 := hide ((unhide HD8).old k10)
        have HC10 := hide ((unhide HC8).old k10)
        have HK10 := hide ((unhide HK8).1.trans k10 (by simp))
        clear hw10 k10
        have hbd := unhide HBD
        go_wp2_with fail
        refine Calls.mono (looks_any d _ _ B7 c _ _ R8 σ9 _ (unhide HD10) (unhide HC10) (by omega) (by omega) (by omega) (by omega)) ?_
        rintro e w11 ⟨rfl, k11⟩
        have HD11 := hide ((unhide HD10).old k11)
        have HC11 := hide ((unhide HC10).old k11)
        have HK11 := hide ((unhide HK10).trans k11 (by simp))
        clear k11 hbd
        go_wp2_with fail
        refine ⟨⟨i + 1, B7, R8, _, _, _, _, _, by omega, by simp, HD11, HC11, HAP8, HK11, hide (unhide HK7).2, hide (unhide HK8).2, hide ⟨(unhide HBN).1.1, (unhide HBN).1.2, (unhide HBN).2.1, (unhide HBN).2.2⟩⟩, ?_⟩
        simp [intOf]; omega
      · have hlt' : ¬ (i : Int) < os.length := by omega
        go_wp2_with fail
        go_ret
        exact ⟨rfl, unhide HKW⟩
  · have hp := hp0 h0
    subst hp
    have hz : ((E : Int) != 0) = true := by simp; omega
    have HE0 := hide h0
    clear hp0 hp1 h0
    go_wp2_with fail
    refine Calls.mono (unhide HDF _ (unhide HKW5)) ?_
    rintro e w6 ⟨p6, rfl, k6, h61, h62⟩
    have hp6 := h61 (unhide HE0)
    subst hp6
    have HK6 := hide ((unhide HK5).trans k6 (by simp))
    clear k6 h61 h62
    go_wp2_with fail
    go_ret
    exact ⟨rfl, unhide HK6⟩

theorem diskPlays_walk (sec : Int) (fv ov : Value) (fs : List IFile) (os : List OpD) (w : World) (hs : Rng sec) (hf : RdC 4 w fv (fs.map ifC)) (hfo : ∀ a ∈ fs, OkIf w a) (ho : RdC 7 w ov (os.map opL)) (hoo : ∀ a ∈ os, OkOp w a) (hw : (fs.map fun f => f.bs.length + 1).sum + (os.map opW).sum + 1 ≤ 1048576) :
    Calls Try.prog 3 #[.agg #[.int .i64 sec, fv, ov]] w fun e w' => e = .returned (.bool true) ∧ Below w.heap.size w w' :=
  (diskPlays_go sec fv ov fs os w hf hfo ho hoo hw).mono fun e w' h9 => ⟨h9.1, h9.2.below (Nat.le_refl _) (by simp)⟩
end Go.Proofs.Ytlopdlcepmmjdaa
