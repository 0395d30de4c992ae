/- CertWhole: the walk. -/
import Derived.Test.YtgfggkinmhhdnaaRC
import Derived.Test.YtgfggkinmhhdnaaCTD
import Derived.Test.YtgfggkinmhhdnaaCT8
namespace Go.Proofs.Ytgfggkinmhhdnaa
open Go.RowKit
set_option linter.unusedVariables false
set_option linter.unusedSimpArgs false
theorem eqs4 (p q : Operand) (a b c d : Int) (w : World) : (do eqGuard .eql 24 p q (A4 a b c d) (A4 a b c d); binOp .eql 24 (A4 a b c d) (A4 a b c d) : Sem Value).run Try.prog w = .ok (.bool true) w := by
  rw [eql_w, (eq4_iff a b c d a b c d).2 ⟨rfl, rfl, rfl, rfl⟩]
theorem ent_seneschallaw03_works (vs : Array Value) (w : World) : (callFunc 13 vs).run Try.prog w = .ok (.enter 13 vs) w := by kernel_rfl
set_option maxRecDepth 100000 in
set_option maxHeartbeats 4000000 in
theorem certWhole_f (sl : Option Addr) (len cap gb go : Nat) (cs : List (Int × Int × Int)) (a n : Int) (w : World) (hmin : min (len : Int) 12 = (cs.length : Int)) (hc : len ≤ cap) (hsn : sl = none → cap = 0) (hsl : cs = [] ∨ sl = some ⟨gb, go, none⟩) (hg : cs.length = 0 ∨ gb < w.heap.size) (hS : Hid (SCt w gb go cs)) (hin : Hid (∀ j, j < cs.length → In (cat cs j).1 ∧ In (cat cs j).2.1 ∧ In (cat cs j).2.2)) (ha : In a) (hb : cfB cs = false) :
    Calls Try.prog 5 #[.slice sl len cap, NV a] w fun e w' => e = .returned (.bool true) ∧ Below w.heap.size w w' := by
  have hcs : cs.length ≤ 256 := by omega
  go_enter Try.func5, Try.ntmps5
  go_upto_region 1 with fail
  generalize hC : (w.alloc (.cells (LN a : List Value).toArray 24)) = v0 at *
  have HB0 : Below w.heap.size w v0 := by rw [← hC]; exact balloc (bself w) _
  have K0 : Bk w.heap.size v0 [(true, w.heap.size, LN a)] := by rw [← hC]; exact (Bk.nil _ w).ad
  clear hC
  refine rgP K0 HB0 HB0.size [] [] [(0, 10, .bool true), (1, 11, .bool false)] [] [] [false] ?_ ?_
  · refine oc (g_cl ent_seneschallaw03_works (fun uZ => works3 uZ)) ?_
    exact oc (g_un (fun uZ => rfl)) on
  intro u1 HB1 sz1 K1
  simp only [fX, nK, nP, Wr.f, aK, pM] at K1
  simp only [setG, setN, List.set_cons_zero, List.set_cons_succ]
  clear K0 HB0
  go_upto_region 3 with fail
  refine rgF K1 HB1 HB1.size [] [(6, 5, L0s, some (7, [.int .u64 (0), .int .u64 (0), .int .u64 (0), .int .u64 (0)]))] [(0, 13, .slice sl len cap), (2, 15, .tuple #[A4 (0) (0) (0) (0), .int .i64 30]), (3, 12, .tuple #[A4 (0) (0) (0) (0), .int .i64 30]), (4, 16, A4 (0) (0) (0) (0)), (5, 17, .int .i64 30), (8, 6, .int .i64 30)] [(7, 6)] [] [⟨1, 14, some 2, PS u1.heap.size cs.length (flC cs)⟩] [] (.cons (fun _ _ _ h1 h2 => h2.stab h1) <| Stab.nil) ?_ ?_
  · refine oc g_mv ?_
    refine oc (g_cE 0 (PS u1.heap.size cs.length (flC cs)) ent_seneschallaw03_few (fun u hB hs => (cFew sl len cap gb go cs u hmin hc hsn hsl (hg.imp id (fun h => Nat.lt_of_lt_of_le h hB.size)) (hS.out.below2 hB hg)).mono fun e u2 ⟨v, e1, h1, h2⟩ => ⟨v, e1, h1.mono hs, h2⟩)) ?_
    refine oc (g_c1 0 (PS u1.heap.size cs.length (flC cs)) ent_cert_Check (fun uZ y _ h => cCheck_own_f cs uZ y u1.heap.size hb hcs hin h)) ?_
    refine oc g_mv ?_
    refine oc g_ex ?_
    refine oc g_ex ?_
    refine oc (g_al 0 aN) ?_
    refine oc (g_sn 0 iN) ?_
    exact oc g_as on
  intro u2 b2_6 v2_1 hv2_1 HB2 sz2 K2
  simp only [fX, nK, nP, Wr.f, aK, pM] at K2
  simp only [setG, setN, setE, List.set_cons_zero, List.set_cons_succ]
  clear K1 HB1
  go_upto_region 4 with fail
  refine rgP K2 HB2 HB2.size [] [] [(0, 18, .int .i64 30), (1, 19, .bool true)] [] [] [] ?_ ?_
  · refine oc g_mv ?_
    exact oc (g_bn (fun uZ => neq_i _ _ _ 30 0 _ uZ rfl)) on
  intro u3 HB3 sz3 K3
  simp only [fX, nK, nP, Wr.f, aK, pM] at K3
  simp only [setG, setN, List.set_cons_zero, List.set_cons_succ]
  clear K2 HB2
  go_upto_region 5 with fail
  refine rgP K3 HB3 HB3.size [] [] [(0, 20, .agg #[.int .u64 (0), .int .u64 (0), .int .u64 (0), .int .u64 (0)]), (1, 21, A4 (0) (0) (0) (0)), (2, 22, .bool true), (3, 4, .bool true)] [] [] [false] ?_ ?_
  · refine oc (g_ld 0 uN iN) ?_
    refine oc (g_bd zN) ?_
    refine oc (g_bn (fun uZ => eqs4 _ _ 0 0 0 0 uZ)) ?_
    exact oc g_as on
  intro u4 HB4 sz4 K4
  simp only [fX, nK, nP, Wr.f, aK, pM] at K4
  simp only [setG, setN, List.set_cons_zero, List.set_cons_succ]
  clear K3 HB3
  go_wp2
  refine bodyPost_ret (v := .bool true) (by simp [results, Try.results5, go_sem, ]) rfl ⟨rfl, HB4⟩
set_option maxRecDepth 100000 in
set_option maxHeartbeats 4000000 in
theorem certWhole_lo (sl : Option Addr) (len cap gb go : Nat) (cs : List (Int × Int × Int)) (a n : Int) (w : World) (hmin : min (len : Int) 12 = (cs.length : Int)) (hc : len ≤ cap) (hsn : sl = none → cap = 0) (hsl : cs = [] ∨ sl = some ⟨gb, go, none⟩) (hg : cs.length = 0 ∨ gb < w.heap.size) (hS : Hid (SCt w gb go cs)) (hin : Hid (∀ j, j < cs.length → In (cat cs j).1 ∧ In (cat cs j).2.1 ∧ In (cat cs j).2.2)) (ha : In a) (hb : cfB cs = true) (hlast : (cat cs (cs.length - 1)).1 = n) (hn : In n)(h1 : decide (cmpI a 2 < 0) = true) :
    Calls Try.prog 5 #[.slice sl len cap, NV a] w fun e w' => e = .returned (.bool true) ∧ Below w.heap.size w w' := by
  have hcs : cs.length ≤ 256 := by omega
  go_enter Try.func5, Try.ntmps5
  go_upto_region 1 with fail
  generalize hC : (w.alloc (.cells (LN a : List Value).toArray 24)) = v0 at *
  have HB0 : Below w.heap.size w v0 := by rw [← hC]; exact balloc (bself w) _
  have K0 : Bk w.heap.size v0 [(true, w.heap.size, LN a)] := by rw [← hC]; exact (Bk.nil _ w).ad
  clear hC
  refine rgP K0 HB0 HB0.size [] [] [(0, 10, .bool true), (1, 11, .bool false)] [] [] [] ?_ ?_
  · refine oc (g_cl ent_seneschallaw03_works (fun uZ => works3 uZ)) ?_
    exact oc (g_un (fun uZ => rfl)) on
  intro u1 HB1 sz1 K1
  simp only [fX, nK, nP, Wr.f, aK, pM] at K1
  simp only [setG, setN, List.set_cons_zero, List.set_cons_succ]
  clear K0 HB0
  go_upto_region 3 with fail
  refine rgF K1 HB1 HB1.size [] [(6, 5, L0s, some (7, LN n))] [(0, 13, .slice sl len cap), (2, 15, .tuple #[NV n, .int .i64 0]), (3, 12, .tuple #[NV n, .int .i64 0]), (4, 16, NV n), (5, 17, .int .i64 0), (8, 6, .int .i64 0)] [(7, 6)] [] [⟨1, 14, some 2, PS u1.heap.size cs.length (flC cs)⟩] [true, false] (.cons (fun _ _ _ h1 h2 => h2.stab h1) <| Stab.nil) ?_ ?_
  · refine oc g_mv ?_
    refine oc (g_cE 0 (PS u1.heap.size cs.length (flC cs)) ent_seneschallaw03_few (fun u hB hs => (cFew sl len cap gb go cs u hmin hc hsn hsl (hg.imp id (fun h => Nat.lt_of_lt_of_le h hB.size)) (hS.out.below2 hB hg)).mono fun e u2 ⟨v, e1, h1, h2⟩ => ⟨v, e1, h1.mono hs, h2⟩)) ?_
    refine oc (g_c1 0 (PS u1.heap.size cs.length (flC cs)) ent_cert_Check (fun uZ y _ h => cCheck_own_p cs n uZ y u1.heap.size hb hlast hcs hin h)) ?_
    refine oc g_mv ?_
    refine oc g_ex ?_
    refine oc g_ex ?_
    refine oc (g_al 0 aN) ?_
    refine oc (g_sn 0 iN) ?_
    exact oc g_as on
  intro u2 b2_6 v2_1 hv2_1 HB2 sz2 K2
  simp only [fX, nK, nP, Wr.f, aK, pM] at K2
  simp only [setG, setN, setE, List.set_cons_zero, List.set_cons_succ]
  clear K1 HB1
  go_upto_region 4 with fail
  refine rgP K2 HB2 HB2.size [] [] [(0, 18, .int .i64 0), (1, 19, .bool false)] [] [] [] ?_ ?_
  · refine oc g_mv ?_
    exact oc (g_bn (fun uZ => neq_i _ _ _ 0 0 _ uZ rfl)) on
  intro u3 HB3 sz3 K3
  simp only [fX, nK, nP, Wr.f, aK, pM] at K3
  simp only [setG, setN, List.set_cons_zero, List.set_cons_succ]
  clear K2 HB2
  go_upto_region 6 with fail
  refine rgD K3 HB3 HB3.size [] [] [(0, 23, NV a), (1, 24, NV 2), (2, 25, .int .i64 (cmpI a 2)), (3, 26, .bool true), (4, 27, .bool true), (5, 28, undef), (6, 29, undef), (7, 30, undef), (8, 31, undef), (9, 32, (Go.Value.bool Bool.true))] [] [] [false] ?_ ?_
  · refine oc (g_ld 0 uN iN) ?_
    refine oc (g_cl ent_seneschalbase_Nat (fun uZ => bNat_any 2 uZ (by omega) (by omega))) ?_
    refine oc (g_cl ent_seneschalref01_Compare (fun uZ => nrCompare a 2 uZ ha In_2)) ?_
    refine oc (g_bn (fun uZ => lss_i _ _ (cmpI a 2) 0 _ uZ h1)) ?_
    refine oc g_mv ?_
    refine oc g_sk ?_
    refine oc g_sk ?_
    refine oc g_sk ?_
    refine oc g_sk ?_
    exact oc g_pk on
  intro u4 HB4 sz4 K4
  simp only [fX, nK, nP, Wr.f, aK, pM] at K4
  simp only [setG, setN, List.set_cons_zero, List.set_cons_succ]
  clear K3 HB3
  go_upto_region 7 with fail
  refine rgP K4 HB4 HB4.size [] [] [(0, 4, (Go.Value.bool Bool.true))] [] [] [] ?_ ?_
  · exact oc g_as on
  intro u5 HB5 sz5 K5
  simp only [fX, nK, nP, Wr.f, aK, pM] at K5
  simp only [setG, setN, List.set_cons_zero, List.set_cons_succ]
  clear K4 HB4
  go_wp2
  refine bodyPost_ret (v := .bool true) (by simp [results, Try.results5, go_sem, ]) rfl ⟨rfl, HB5⟩
set_option maxRecDepth 100000 in
set_option maxHeartbeats 4000000 in
theorem certWhole_hi (sl : Option Addr) (len cap gb go : Nat) (cs : List (Int × Int × Int)) (a n : Int) (w : World) (hmin : min (len : Int) 12 = (cs.length : Int)) (hc : len ≤ cap) (hsn : sl = none → cap = 0) (hsl : cs = [] ∨ sl = some ⟨gb, go, none⟩) (hg : cs.length = 0 ∨ gb < w.heap.size) (hS : Hid (SCt w gb go cs)) (hin : Hid (∀ j, j < cs.length → In (cat cs j).1 ∧ In (cat cs j).2.1 ∧ In (cat cs j).2.2)) (ha : In a) (hb : cfB cs = true) (hlast : (cat cs (cs.length - 1)).1 = n) (hn : In n)(h1 : decide (cmpI a 2 < 0) = false) (h2 : decide (0 ≤ cmpI a n) = true) :
    Calls Try.prog 5 #[.slice sl len cap, NV a] w fun e w' => e = .returned (.bool true) ∧ Below w.heap.size w w' := by
  have hcs : cs.length ≤ 256 := by omega
  go_enter Try.func5, Try.ntmps5
  go_upto_region 1 with fail
  generalize hC : (w.alloc (.cells (LN a : List Value).toArray 24)) = v0 at *
  have HB0 : Below w.heap.size w v0 := by rw [← hC]; exact balloc (bself w) _
  have K0 : Bk w.heap.size v0 [(true, w.heap.size, LN a)] := by rw [← hC]; exact (Bk.nil _ w).ad
  clear hC
  refine rgP K0 HB0 HB0.size [] [] [(0, 10, .bool true), (1, 11, .bool false)] [] [] [] ?_ ?_
  · refine oc (g_cl ent_seneschallaw03_works (fun uZ => works3 uZ)) ?_
    exact oc (g_un (fun uZ => rfl)) on
  intro u1 HB1 sz1 K1
  simp only [fX, nK, nP, Wr.f, aK, pM] at K1
  simp only [setG, setN, List.set_cons_zero, List.set_cons_succ]
  clear K0 HB0
  go_upto_region 3 with fail
  refine rgF K1 HB1 HB1.size [] [(6, 5, L0s, some (7, LN n))] [(0, 13, .slice sl len cap), (2, 15, .tuple #[NV n, .int .i64 0]), (3, 12, .tuple #[NV n, .int .i64 0]), (4, 16, NV n), (5, 17, .int .i64 0), (8, 6, .int .i64 0)] [(7, 6)] [] [⟨1, 14, some 2, PS u1.heap.size cs.length (flC cs)⟩] [] (.cons (fun _ _ _ h1 h2 => h2.stab h1) <| Stab.nil) ?_ ?_
  · refine oc g_mv ?_
    refine oc (g_cE 0 (PS u1.heap.size cs.length (flC cs)) ent_seneschallaw03_few (fun u hB hs => (cFew sl len cap gb go cs u hmin hc hsn hsl (hg.imp id (fun h => Nat.lt_of_lt_of_le h hB.size)) (hS.out.below2 hB hg)).mono fun e u2 ⟨v, e1, h1, h2⟩ => ⟨v, e1, h1.mono hs, h2⟩)) ?_
    refine oc (g_c1 0 (PS u1.heap.size cs.length (flC cs)) ent_cert_Check (fun uZ y _ h => cCheck_own_p cs n uZ y u1.heap.size hb hlast hcs hin h)) ?_
    refine oc g_mv ?_
    refine oc g_ex ?_
    refine oc g_ex ?_
    refine oc (g_al 0 aN) ?_
    refine oc (g_sn 0 iN) ?_
    exact oc g_as on
  intro u2 b2_6 v2_1 hv2_1 HB2 sz2 K2
  simp only [fX, nK, nP, Wr.f, aK, pM] at K2
  simp only [setG, setN, setE, List.set_cons_zero, List.set_cons_succ]
  clear K1 HB1
  go_upto_region 4 with fail
  refine rgP K2 HB2 HB2.size [] [] [(0, 18, .int .i64 0), (1, 19, .bool false)] [] [] [] ?_ ?_
  · refine oc g_mv ?_
    exact oc (g_bn (fun uZ => neq_i _ _ _ 0 0 _ uZ rfl)) on
  intro u3 HB3 sz3 K3
  simp only [fX, nK, nP, Wr.f, aK, pM] at K3
  simp only [setG, setN, List.set_cons_zero, List.set_cons_succ]
  clear K2 HB2
  go_upto_region 6 with fail
  refine rgD K3 HB3 HB3.size [] [] [(0, 23, NV a), (1, 24, NV 2), (2, 25, .int .i64 (cmpI a 2)), (3, 26, .bool false), (4, 27, .bool false), (5, 28, NV a), (6, 29, NV n), (7, 30, .int .i64 (cmpI a n)), (8, 31, .bool true), (9, 32, .bool true)] [] [] [false, false] ?_ ?_
  · refine oc (g_ld 0 uN iN) ?_
    refine oc (g_cl ent_seneschalbase_Nat (fun uZ => bNat_any 2 uZ (by omega) (by omega))) ?_
    refine oc (g_cl ent_seneschalref01_Compare (fun uZ => nrCompare a 2 uZ ha In_2)) ?_
    refine oc (g_bn (fun uZ => lss_i _ _ (cmpI a 2) 0 _ uZ h1)) ?_
    refine oc g_mv ?_
    refine oc (g_ld 0 uN iN) ?_
    refine oc (g_ld 1 uN iN) ?_
    refine oc (g_cl ent_seneschalref01_Compare (fun uZ => nrCompare a n uZ ha hn)) ?_
    refine oc (g_bn (fun uZ => geq_i _ _ (cmpI a n) 0 _ uZ h2)) ?_
    exact oc g_pk on
  intro u4 HB4 sz4 K4
  simp only [fX, nK, nP, Wr.f, aK, pM] at K4
  simp only [setG, setN, List.set_cons_zero, List.set_cons_succ]
  clear K3 HB3
  go_upto_region 7 with fail
  refine rgP K4 HB4 HB4.size [] [] [(0, 4, (Go.Value.bool Bool.true))] [] [] [] ?_ ?_
  · exact oc g_as on
  intro u5 HB5 sz5 K5
  simp only [fX, nK, nP, Wr.f, aK, pM] at K5
  simp only [setG, setN, List.set_cons_zero, List.set_cons_succ]
  clear K4 HB4
  go_wp2
  refine bodyPost_ret (v := .bool true) (by simp [results, Try.results5, go_sem, ]) rfl ⟨rfl, HB5⟩
set_option maxRecDepth 100000 in
set_option maxHeartbeats 4000000 in
theorem certWhole_go (sl : Option Addr) (len cap gb go : Nat) (cs : List (Int × Int × Int)) (a n : Int) (w : World) (hmin : min (len : Int) 12 = (cs.length : Int)) (hc : len ≤ cap) (hsn : sl = none → cap = 0) (hsl : cs = [] ∨ sl = some ⟨gb, go, none⟩) (hg : cs.length = 0 ∨ gb < w.heap.size) (hS : Hid (SCt w gb go cs)) (hin : Hid (∀ j, j < cs.length → In (cat cs j).1 ∧ In (cat cs j).2.1 ∧ In (cat cs j).2.2)) (ha : In a) (hb : cfB cs = true) (hlast : (cat cs (cs.length - 1)).1 = n) (hn : In n)(h1 : decide (cmpI a 2 < 0) = false) (h2 : decide (0 ≤ cmpI a n) = false) (ha0 : a ≠ 0) (hr : decide (n % a = 0) = !true) :
    Calls Try.prog 5 #[.slice sl len cap, NV a] w fun e w' => e = .returned (.bool true) ∧ Below w.heap.size w w' := by
  have hcs : cs.length ≤ 256 := by omega
  go_enter Try.func5, Try.ntmps5
  go_upto_region 1 with fail
  generalize hC : (w.alloc (.cells (LN a : List Value).toArray 24)) = v0 at *
  have HB0 : Below w.heap.size w v0 := by rw [← hC]; exact balloc (bself w) _
  have K0 : Bk w.heap.size v0 [(true, w.heap.size, LN a)] := by rw [← hC]; exact (Bk.nil _ w).ad
  clear hC
  refine rgP K0 HB0 HB0.size [] [] [(0, 10, .bool true), (1, 11, .bool false)] [] [] [] ?_ ?_
  · refine oc (g_cl ent_seneschallaw03_works (fun uZ => works3 uZ)) ?_
    exact oc (g_un (fun uZ => rfl)) on
  intro u1 HB1 sz1 K1
  simp only [fX, nK, nP, Wr.f, aK, pM] at K1
  simp only [setG, setN, List.set_cons_zero, List.set_cons_succ]
  clear K0 HB0
  go_upto_region 3 with fail
  refine rgF K1 HB1 HB1.size [] [(6, 5, L0s, some (7, LN n))] [(0, 13, .slice sl len cap), (2, 15, .tuple #[NV n, .int .i64 0]), (3, 12, .tuple #[NV n, .int .i64 0]), (4, 16, NV n), (5, 17, .int .i64 0), (8, 6, .int .i64 0)] [(7, 6)] [] [⟨1, 14, some 2, PS u1.heap.size cs.length (flC cs)⟩] [] (.cons (fun _ _ _ h1 h2 => h2.stab h1) <| Stab.nil) ?_ ?_
  · refine oc g_mv ?_
    refine oc (g_cE 0 (PS u1.heap.size cs.length (flC cs)) ent_seneschallaw03_few (fun u hB hs => (cFew sl len cap gb go cs u hmin hc hsn hsl (hg.imp id (fun h => Nat.lt_of_lt_of_le h hB.size)) (hS.out.below2 hB hg)).mono fun e u2 ⟨v, e1, h1, h2⟩ => ⟨v, e1, h1.mono hs, h2⟩)) ?_
    refine oc (g_c1 0 (PS u1.heap.size cs.length (flC cs)) ent_cert_Check (fun uZ y _ h => cCheck_own_p cs n uZ y u1.heap.size hb hlast hcs hin h)) ?_
    refine oc g_mv ?_
    refine oc g_ex ?_
    refine oc g_ex ?_
    refine oc (g_al 0 aN) ?_
    refine oc (g_sn 0 iN) ?_
    exact oc g_as on
  intro u2 b2_6 v2_1 hv2_1 HB2 sz2 K2
  simp only [fX, nK, nP, Wr.f, aK, pM] at K2
  simp only [setG, setN, setE, List.set_cons_zero, List.set_cons_succ]
  clear K1 HB1
  go_upto_region 4 with fail
  refine rgP K2 HB2 HB2.size [] [] [(0, 18, .int .i64 0), (1, 19, .bool false)] [] [] [] ?_ ?_
  · refine oc g_mv ?_
    exact oc (g_bn (fun uZ => neq_i _ _ _ 0 0 _ uZ rfl)) on
  intro u3 HB3 sz3 K3
  simp only [fX, nK, nP, Wr.f, aK, pM] at K3
  simp only [setG, setN, List.set_cons_zero, List.set_cons_succ]
  clear K2 HB2
  go_upto_region 6 with fail
  refine rgD K3 HB3 HB3.size [] [] [(0, 23, NV a), (1, 24, NV 2), (2, 25, .int .i64 (cmpI a 2)), (3, 26, .bool false), (4, 27, .bool false), (5, 28, NV a), (6, 29, NV n), (7, 30, .int .i64 (cmpI a n)), (8, 31, .bool false), (9, 32, .bool false)] [] [] [] ?_ ?_
  · refine oc (g_ld 0 uN iN) ?_
    refine oc (g_cl ent_seneschalbase_Nat (fun uZ => bNat_any 2 uZ (by omega) (by omega))) ?_
    refine oc (g_cl ent_seneschalref01_Compare (fun uZ => nrCompare a 2 uZ ha In_2)) ?_
    refine oc (g_bn (fun uZ => lss_i _ _ (cmpI a 2) 0 _ uZ h1)) ?_
    refine oc g_mv ?_
    refine oc (g_ld 0 uN iN) ?_
    refine oc (g_ld 1 uN iN) ?_
    refine oc (g_cl ent_seneschalref01_Compare (fun uZ => nrCompare a n uZ ha hn)) ?_
    refine oc (g_bn (fun uZ => geq_i _ _ (cmpI a n) 0 _ uZ h2)) ?_
    exact oc g_pk on
  intro u4 HB4 sz4 K4
  simp only [fX, nK, nP, Wr.f, aK, pM] at K4
  simp only [setG, setN, List.set_cons_zero, List.set_cons_succ]
  clear K3 HB3
  go_upto_region 8 with fail
  refine rgD K4 HB4 HB4.size [] [(8, 7, L0w, some (10, LW (n / a))), (9, 8, L0s, some (11, LN (n % a)))] [(0, 34, NV n), (1, 35, WV n), (2, 36, NV a), (3, 37, .tuple #[WV (n / a), NV (n % a), .int .i64 0]), (4, 33, .tuple #[WV (n / a), NV (n % a), .int .i64 0]), (5, 38, WV (n / a)), (6, 39, NV (n % a)), (7, 40, .int .i64 0), (12, 9, .int .i64 0)] [(10, 8), (11, 9)] [] [false, false, false] ?_ ?_
  · refine oc (g_ld 1 uN iN) ?_
    refine oc (g_cl ent_seneschalref01_Widen (fun uZ => nrWiden n uZ hn)) ?_
    refine oc (g_ld 0 uN iN) ?_
    refine oc (g_cl ent_seneschalref01_Divide (fun uZ => nrDivide n a uZ hn.wide ha ha0)) ?_
    refine oc g_mv ?_
    refine oc g_ex ?_
    refine oc g_ex ?_
    refine oc g_ex ?_
    refine oc (g_al 0 aW) ?_
    refine oc (g_al 1 aN) ?_
    refine oc (g_sn 0 iW) ?_
    refine oc (g_sn 1 iN) ?_
    exact oc g_as on
  intro u5 b5_8 b5_9 HB5 sz5 K5
  simp only [fX, nK, nP, Wr.f, aK, pM] at K5
  simp only [setG, setN, List.set_cons_zero, List.set_cons_succ]
  clear K4 HB4
  go_upto_region 9 with fail
  refine rgP K5 HB5 HB5.size [] [] [(0, 41, NV (n % a)), (1, 42, A4 (0) (0) (0) (0)), (2, 43, .bool true), (3, 4, .bool true)] [] [] [false] ?_ ?_
  · refine oc (g_ld 0 uN iN) ?_
    refine oc (g_bd zN) ?_
    refine oc (g_bn (fun uZ => neq_0 _ _ (In_mod ha ha0) _ hr uZ)) ?_
    exact oc g_as on
  intro u6 HB6 sz6 K6
  simp only [fX, nK, nP, Wr.f, aK, pM] at K6
  simp only [setG, setN, List.set_cons_zero, List.set_cons_succ]
  clear K5 HB5
  go_wp2
  refine bodyPost_ret (v := .bool true) (by simp [results, Try.results5, go_sem, ]) rfl ⟨rfl, HB6⟩
theorem certWhole_any (sl : Option Addr) (len cap gb go : Nat) (cs : List (Int × Int × Int)) (a : Int) (w : World) (hmin : min (len : Int) 12 = (cs.length : Int)) (hc : len ≤ cap) (hsn : sl = none → cap = 0) (hsl : cs = [] ∨ sl = some ⟨gb, go, none⟩) (hg : cs.length = 0 ∨ gb < w.heap.size) (hS : Hid (SCt w gb go cs)) (hin : Hid (∀ j, j < cs.length → In (cat cs j).1 ∧ In (cat cs j).2.1 ∧ In (cat cs j).2.2)) (ha : In a) :
    Calls Try.prog 5 #[.slice sl len cap, NV a] w fun e w' => e = .returned (.bool true) ∧ Below w.heap.size w w' := by
  cases hb : cfB cs with
  | false => exact certWhole_f sl len cap gb go cs a 0 w hmin hc hsn hsl hg hS hin ha hb
  | true =>
    obtain ⟨h0, hp⟩ := cfB_pr hin.out hb
    have hn := (hin.out (cs.length - 1) (by omega)).1
    by_cases h1 : a < 2
    · exact certWhole_lo sl len cap gb go cs a _ w hmin hc hsn hsl hg hS hin ha hb rfl hn (by rw [cmp_lt0]; simp [h1])
    have h1' : decide (cmpI a 2 < 0) = false := by rw [cmp_lt0]; simp only [h1, decide_false]
    by_cases h2 : (cat cs (cs.length - 1)).1 ≤ a
    · exact certWhole_hi sl len cap gb go cs a _ w hmin hc hsn hsl hg hS hin ha hb rfl hn h1' (by rw [cmp_ge]; simp only [h2, decide_true])
    refine certWhole_go sl len cap gb go cs a _ w hmin hc hsn hsl hg hS hin ha hb rfl hn h1' (by rw [cmp_ge]; simp only [h2, decide_false]) (by omega) ?_
    have : ¬ (cat cs (cs.length - 1)).1 % a = 0 := fun e => by
      generalize (cat cs (cs.length - 1)).1 = n at *
      have hd : a.toNat ∣ n.toNat := by
        have e1 : (a : Int) ∣ n := Int.dvd_of_emod_eq_zero e
        rw [← Int.toNat_of_nonneg (show 0 ≤ a by omega), ← Int.toNat_of_nonneg hn.1] at e1
        exact Int.ofNat_dvd.1 e1
      rcases hp.2 _ hd with e2 | e2 <;> omega
    simp only [this, decide_false, Bool.not_true]
end Go.Proofs.Ytgfggkinmhhdnaa
