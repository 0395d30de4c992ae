/- The law MacBegins: its walk. -/
import Derived.Test.YtbgdcgboomdimaaDoorME3
namespace Go.Proofs.YtbgdcgboomdimaaDoor
open Go.RowKit
set_option linter.unusedVariables false
set_option linter.unusedSimpArgs false
set_option maxRecDepth 100000 in
set_option maxHeartbeats 4000000 in
theorem macBegins_core (n cap m q k1 k2 kn kx : Nat) (sl : Option Addr) (s s2 : ByteArray) (x y : Int) (ea eb : List Nat) (w : World) (hq : min ((s.size : Nat) : Int) 100 = ((q : Nat) : Int)) (hqs : q ≤ s.size) (hs2 : s.extract 0 q = s2) (hkn : min ((k1 : Nat) : Int) ((k2 : Nat) : Int) = ((kn : Nat) : Int)) (hkx : max ((k1 : Nat) : Int) ((k2 : Nat) : Int) = ((kx : Nat) : Int)) (heal : ea.length = kn) (hebl : eb.length = kx) (hW : Hid (∀ (u : World), Below w.heap.size w u → Calls Tryd.prog 31 #[] u fun e u' => e = .returned (.bool true) ∧ Below u.heap.size u u')) (hSh : Hid (∀ (u : World), Calls Tryd.prog 26 #[(.slice sl n cap)] u fun e u' => e = .returned (.slice sl m cap) ∧ Below u.heap.size u u')) (hA1 : Hid (∀ (u : World), Calls Tryd.prog 24 #[.int .i64 x, .int .i64 150] u fun e u' => e = .returned (.int .i64 ((k1 : Nat) : Int)) ∧ Below u.heap.size u u')) (hA2 : Hid (∀ (u : World), Calls Tryd.prog 24 #[.int .i64 y, .int .i64 150] u fun e u' => e = .returned (.int .i64 ((k2 : Nat) : Int)) ∧ Below u.heap.size u u')) (hE1 : Hid (∀ (u : World), Below w.heap.size w u → Calls Tryd.prog 34 #[(.slice sl m cap), .string s2, .int .i64 ((kn : Nat) : Int)] u fun e u' => ∃ v, e = .returned v ∧ PT 0 u.heap.size kn (U8 (ea)) u' v ∧ Below u.heap.size u u')) (hE2 : Hid (∀ (u : World), Below w.heap.size w u → Calls Tryd.prog 34 #[(.slice sl m cap), .string s2, .int .i64 ((kx : Nat) : Int)] u fun e u' => ∃ v, e = .returned v ∧ PT 0 u.heap.size kx (U8 (eb)) u' v ∧ Below u.heap.size u u')) (hBg : Hid (∀ (u : World), Calls Tryd.prog 38 #[.string (strB (eb)), .string (strB (ea))] u fun e u' => e = .returned (.bool true) ∧ Below u.heap.size u u')) :
    Calls Tryd.prog 9 #[(.slice sl n cap), .string s, .int .i64 x, .int .i64 y] w fun e w' => e = .returned (.bool true) ∧ Below w.heap.size w w' := by
  go_enter Tryd.func9, Tryd.ntmps9
  have HB0 : Below w.heap.size w w := Below.refl _ _
  have K0_1 := Bk.nil (w.heap.size) w
  go_upto_region 1 with fail
  refine rgP K0_1 HB0 HB0.size [] [] [(0, 13, .bool true), (1, 14, .bool false)] [] [] [] ?_ ?_
  · refine oc (g_cb ent_seneschallaw05_works (fun uZ bZ => hW.out uZ bZ)) ?_
    exact oc (g_un (fun uZ => not_t uZ)) on
  intro u1 HB1 sz1 K1
  simp only [fX, nK, nP, Wr.f, aK, pM] at K1
  simp only [setG, setN, List.set_cons_zero, List.set_cons_succ]
  clear HB0
  go_upto_region 3 with fail
  refine rgD K1 HB1 HB1.size [] [] [(0, 15, (.slice sl n cap)), (1, 16, (.slice sl m cap)), (2, 17, .string s), (3, 18, .string s), (4, 19, .int .i64 ((s.size : Nat) : Int)), (5, 20, .int .i64 ((q : Nat) : Int)), (6, 21, .string s2), (7, 0, (.slice sl m cap)), (8, 1, .string s2)] [(7, 0), (8, 2), (8, 3)] [(7, 0), (8, 1)] [] ?_ ?_
  · refine oc g_mv ?_
    refine oc (g_cl ent_seneschallaw05_short (fun uZ => hSh.out uZ)) ?_
    refine oc g_mv ?_
    refine oc g_mv ?_
    refine oc (g_lnS Tryd.underlying9) ?_
    refine oc (g_mn hq) ?_
    refine oc (g_sl (fun uZ => (slStr s q hqs uZ).trans (by rw [hs2]))) ?_
    refine oc g_as ?_
    exact oc g_as on
  intro u2 HB2 sz2 K2
  simp only [fX, nK, nP, Wr.f, aK, pM] at K2
  simp only [setG, setN, List.set_cons_zero, List.set_cons_succ]
  clear K1 HB1
  go_upto_region 4 with fail
  refine rgP K2 HB2 HB2.size [] [] [(0, 22, .int .i64 x), (1, 23, .int .i64 ((k1 : Nat) : Int)), (2, 24, .int .i64 y), (3, 25, .int .i64 ((k2 : Nat) : Int)), (4, 2, .int .i64 ((k1 : Nat) : Int)), (5, 3, .int .i64 ((k2 : Nat) : Int))] [(4, 0), (5, 2)] [(4, 2), (5, 3)] [] ?_ ?_
  · refine oc g_mv ?_
    refine oc (g_cl ent_seneschalbase_Among (fun uZ => hA1.out uZ)) ?_
    refine oc g_mv ?_
    refine oc (g_cl ent_seneschalbase_Among (fun uZ => hA2.out uZ)) ?_
    refine oc g_as ?_
    exact oc g_as on
  intro u3 HB3 sz3 K3
  simp only [fX, nK, nP, Wr.f, aK, pM] at K3
  simp only [setG, setN, List.set_cons_zero, List.set_cons_succ]
  clear K2 HB2
  have hlo4 := HB3.size
  go_upto_region 5 with fail
  refine rgF K3 HB3 HB3.size [] [] [(0, 27, (.slice sl m cap)), (1, 28, .string s2), (2, 29, .int .i64 ((k1 : Nat) : Int)), (3, 30, .int .i64 ((k2 : Nat) : Int)), (4, 31, .int .i64 ((kn : Nat) : Int)), (8, 34, .int .i64 0), (10, 10, .int .i64 0)] [] [] [⟨5, 32, none, PT 0 u3.heap.size kn (U8 (ea))⟩, ⟨6, 26, none, PT 0 u3.heap.size kn (U8 (ea))⟩, ⟨7, 33, some 9, PS u3.heap.size kn (U8 (ea))⟩, ⟨9, 9, none, PS u3.heap.size kn (U8 (ea))⟩] [] (.cons (fun _ _ _ h1 h2 => h2.stab h1) <| .cons (fun _ _ _ h1 h2 => h2.stab h1) <| .cons (fun _ _ _ h1 h2 => h2.stab h1) <| .cons (fun _ _ _ h1 h2 => h2.stab h1) <| Stab.nil) ?_ ?_
  · refine oc g_mv ?_
    refine oc g_mv ?_
    refine oc g_mv ?_
    refine oc g_mv ?_
    refine oc (g_mn hkn) ?_
    refine oc (g_cE 0 (PT 0 u3.heap.size kn (U8 (ea))) ent_mac_Expand (fun u hB hs => (hE1.out u hB).mono fun e u2 ⟨v, e1, h1, h2⟩ => ⟨v, e1, h1.mono hs, h2⟩)) ?_
    refine oc (g_mE 0 1 (PT 0 u3.heap.size kn (U8 (ea)))) ?_
    refine oc (g_xE 1 2 (PT 0 u3.heap.size kn (U8 (ea))) (PS u3.heap.size kn (U8 (ea))) PT.fst) ?_
    refine oc (g_xV 1 (PT 0 u3.heap.size kn (U8 (ea))) PT.snd) ?_
    refine oc (g_sE 2 3 (PS u3.heap.size kn (U8 (ea)))) ?_
    exact oc g_as on
  intro u4 v4_5 hv4_5 v4_6 hv4_6 v4_7 hv4_7 v4_9 hv4_9 HB4 sz4 K4
  simp only [fX, nK, nP, Wr.f, aK, pM] at K4
  simp only [setG, setN, setE, List.set_cons_zero, List.set_cons_succ]
  clear HB3
  skip
  obtain ⟨b9, c9, rfl, ho1ea, ho2ea, hcea, hoCea⟩ := hv4_9 rfl
  have K4xea := Bk.moreT K3 K4 (by omega) ho1ea ho2ea hoCea (by intro x hx; first | (simp at hx; done) | (simp at hx ⊢; omega))
  simp only [aK] at K4xea
  clear K4
  have hlo5 := HB4.size
  go_upto_region 6 with fail
  refine rgF K4xea HB4 HB4.size [] [] [(0, 36, (.slice sl m cap)), (1, 37, .string s2), (2, 38, .int .i64 ((k1 : Nat) : Int)), (3, 39, .int .i64 ((k2 : Nat) : Int)), (4, 40, .int .i64 ((kx : Nat) : Int)), (8, 43, .int .i64 0), (10, 12, .int .i64 0)] [] [] [⟨5, 41, none, PT 0 u4.heap.size kx (U8 (eb))⟩, ⟨6, 35, none, PT 0 u4.heap.size kx (U8 (eb))⟩, ⟨7, 42, some 9, PS u4.heap.size kx (U8 (eb))⟩, ⟨9, 11, none, PS u4.heap.size kx (U8 (eb))⟩] [] (.cons (fun _ _ _ h1 h2 => h2.stab h1) <| .cons (fun _ _ _ h1 h2 => h2.stab h1) <| .cons (fun _ _ _ h1 h2 => h2.stab h1) <| .cons (fun _ _ _ h1 h2 => h2.stab h1) <| Stab.nil) ?_ ?_
  · refine oc g_mv ?_
    refine oc g_mv ?_
    refine oc g_mv ?_
    refine oc g_mv ?_
    refine oc (g_mx hkx) ?_
    refine oc (g_cE 0 (PT 0 u4.heap.size kx (U8 (eb))) ent_mac_Expand (fun u hB hs => (hE2.out u hB).mono fun e u2 ⟨v, e1, h1, h2⟩ => ⟨v, e1, h1.mono hs, h2⟩)) ?_
    refine oc (g_mE 0 1 (PT 0 u4.heap.size kx (U8 (eb)))) ?_
    refine oc (g_xE 1 2 (PT 0 u4.heap.size kx (U8 (eb))) (PS u4.heap.size kx (U8 (eb))) PT.fst) ?_
    refine oc (g_xV 1 (PT 0 u4.heap.size kx (U8 (eb))) PT.snd) ?_
    refine oc (g_sE 2 3 (PS u4.heap.size kx (U8 (eb)))) ?_
    exact oc g_as on
  intro u5 v5_5 hv5_5 v5_6 hv5_6 v5_7 hv5_7 v5_9 hv5_9 HB5 sz5 K5
  simp only [fX, nK, nP, Wr.f, aK, pM] at K5
  simp only [setG, setN, setE, List.set_cons_zero, List.set_cons_succ]
  clear HB4
  skip
  obtain ⟨b11, c11, rfl, ho1eb, ho2eb, hceb, hoCeb⟩ := hv5_9 rfl
  have K5xeb := Bk.moreT K4xea K5 (by omega) ho1eb ho2eb hoCeb (by intro x hx; first | (simp at hx; done) | (simp at hx ⊢; omega))
  simp only [aK] at K5xeb
  clear K5
  go_upto_region 7 with fail
  refine rgP K5xeb HB5 HB5.size [] [] [(0, 44, .int .i64 0), (1, 45, .bool true), (2, 46, .bool true), (3, 47, .int .i64 0), (4, 48, .bool true), (5, 49, .bool true), (6, 50, .bool true), (7, 51, .slice (some ⟨b9, 0, none⟩) kn c9), (8, 52, .int .i64 ((kn : Nat) : Int)), (9, 53, .int .i64 ((k1 : Nat) : Int)), (10, 54, .int .i64 ((k2 : Nat) : Int)), (11, 55, .int .i64 ((kn : Nat) : Int)), (12, 56, .bool true), (13, 57, .bool true), (14, 58, .bool true), (15, 59, .slice (some ⟨b11, 0, none⟩) kx c11), (16, 60, .int .i64 ((kx : Nat) : Int)), (17, 61, .int .i64 ((k1 : Nat) : Int)), (18, 62, .int .i64 ((k2 : Nat) : Int)), (19, 63, .int .i64 ((kx : Nat) : Int)), (20, 64, .bool true), (21, 65, .bool true), (22, 66, .bool true), (23, 67, .slice (some ⟨b11, 0, none⟩) kx c11), (24, 68, .string (strB (eb))), (25, 69, .slice (some ⟨b9, 0, none⟩) kn c9), (26, 70, .string (strB (ea))), (27, 71, .bool true), (28, 72, .bool true), (29, 8, .bool true)] [] [] [false] ?_ ?_
  · refine oc g_mv ?_
    refine oc (g_bn (fun uZ => eql_i _ _ _ 0 0 _ uZ rfl)) ?_
    refine oc g_mv ?_
    refine oc g_mv ?_
    refine oc (g_bn (fun uZ => eql_i _ _ _ 0 0 _ uZ rfl)) ?_
    refine oc g_pk ?_
    refine oc g_mv ?_
    refine oc g_mv ?_
    refine oc (g_ln Tryd.underlying22) ?_
    refine oc g_mv ?_
    refine oc g_mv ?_
    refine oc (g_mn hkn) ?_
    refine oc (g_bn (fun uZ => eql_it _ _ (kn : Int) (kn : Int) true uZ (by simp))) ?_
    refine oc g_pk ?_
    refine oc g_mv ?_
    refine oc g_mv ?_
    refine oc (g_ln Tryd.underlying22) ?_
    refine oc g_mv ?_
    refine oc g_mv ?_
    refine oc (g_mx hkx) ?_
    refine oc (g_bn (fun uZ => eql_it _ _ (kx : Int) (kx : Int) true uZ (by simp))) ?_
    refine oc g_pk ?_
    refine oc g_mv ?_
    refine oc g_mv ?_
    refine oc (g_ko (fun fZ ev uZ kZ bZ he => cvS eb uZ hebl (.inr ⟨b11, 0, rfl, CV.sb (kZ.cv 1)⟩) rfl (he _ _ rfl))) ?_
    refine oc g_mv ?_
    refine oc (g_ko (fun fZ ev uZ kZ bZ he => cvS ea uZ heal (.inr ⟨b9, 0, rfl, CV.sb (kZ.cv 0)⟩) rfl (he _ _ rfl))) ?_
    refine oc (g_cl ent_seneschalbase_Begins (fun uZ => hBg.out uZ)) ?_
    refine oc g_pk ?_
    exact oc g_as on
  intro u6 HB6 sz6 K6
  simp only [fX, nK, nP, Wr.f, aK, pM] at K6
  simp only [setG, setN, List.set_cons_zero, List.set_cons_succ]
  clear HB5
  go_wp2
  refine bodyPost_ret (v := .bool true) (by simp [results, Tryd.results9, go_sem, ]) rfl ⟨rfl, HB6⟩
end Go.Proofs.YtbgdcgboomdimaaDoor
