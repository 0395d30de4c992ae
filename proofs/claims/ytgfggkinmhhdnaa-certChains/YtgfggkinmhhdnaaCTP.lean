/- Primes that are certified: numbers of texts, and the chain of the reference. -/
import Derived.Test.YtgfggkinmhhdnaaRC
import Derived.Test.YtgfggkinmhhdnaaCTA
import Derived.Test.YtgfggkinmhhdnaaU5
import Derived.Test.YtgfggkinmhhdnaaRN
namespace Go.Proofs.Ytgfggkinmhhdnaa
open Go.RowKit
set_option linter.unusedVariables false
set_option linter.unusedSimpArgs false
theorem lT {b c : Nat} {s : ByteArray} (w : World) (h : w.cell? ⟨b, c, none⟩ = some (.string s)) : (Instr.loadAt 9 (.pointer (some ⟨b, c, none⟩))).run Try.prog w = .ok (.string s) w := by go_simp
theorem ixT (g o n cap j : Nat) (h : j < n) (w : World) : (Instr.indexAt 74 (.slice (some ⟨g, o, none⟩) n cap) (.int .i64 j)).run Try.prog w = .ok (.pointer (some ⟨g, o + j, none⟩)) w := by
  have h2 : (j : Int) < n := by omega
  go_simp
theorem bsN1 (n : Int) (w : World) : (Instr.buildSlice 72 1 ([0].zip [NV n]).toArray).run Try.prog w = .ok (.slice (some ⟨w.heap.size, 0, none⟩) 1 1) (w.alloc (.cells (LN n).toArray 24)) := by kernel_rfl
theorem LN_one {n : Int} : ∀ v ∈ LN n, v.oneCell' = true := fun v hv => by
  simp only [LN, List.mem_cons, List.not_mem_nil, or_false] at hv
  rcases hv with rfl | rfl | rfl | rfl <;> rfl
theorem flN_tk (ns : List Int) (j : Nat) (h : j < ns.length) : flN (ns.take (j + 1)) = flN (ns.take j) ++ LN (ns.getD j 0) := by
  rw [List.take_succ_eq_append_getElem h, flN_app]; simp [flN, List.getElem?_eq_getElem h]
theorem str_at (ss : List ByteArray) (j : Nat) (h : j < ss.length) : (ss.map Value.string)[j]? = some (.string (ss.getD j ByteArray.empty)) := by
  simp [List.getElem?_eq_getElem h]
theorem add_drop4 {xs zs : List Value} : xs ++ (zs.take 4) ++ (zs.drop 4) = xs ++ zs := by rw [List.append_assoc, List.take_append_drop]
theorem ent_limb_Parse (vs : Array Value) (w : World) : (callFunc 74 vs).run Try.prog w = .ok (.enter 74 vs) w := by kernel_rfl
theorem ent_seneschalref01_Parse (vs : Array Value) (w : World) : (callFunc 43 vs).run Try.prog w = .ok (.enter 43 vs) w := by kernel_rfl
set_option maxRecDepth 100000 in
set_option maxHeartbeats 4000000 in
theorem cParsed (ss : List ByteArray) (ns : List Int) (b0 cap : Nat) (w : World) (hln : ns.length = ss.length) (h0 : 0 < ss.length) (hle : ss.length ≤ 20) (hlt : b0 < w.heap.size) (hcv : Hid (CV w b0 (ss.map Value.string))) (hP : Hid (∀ j, j < ss.length → ∀ u, Calls Try.prog 74 #[.string (ss.getD j ByteArray.empty)] u fun e u' => e = .returned (.tuple #[NV (ns.getD j 0), .int .i64 0]) ∧ Below u.heap.size u u')) :
    Calls Try.prog 57 #[.slice (some ⟨b0, 0, none⟩) ss.length cap] w fun e w' => ∃ v, e = .returned v ∧ PS w.heap.size ns.length (flN ns) w' v ∧ Below w.heap.size w w' := by
  go_enter Try.func57, Try.ntmps57
  have HB0 : Below w.heap.size w w := Below.refl _ _
  have K0_1 := Bk.nil (w.heap.size) w
  go_upto_region 1 with fail
  refine rgP K0_1 HB0 HB0.size [] [] [(0, 3, (Go.Value.slice Option.none 0 0))] [] [] [] ?_ ?_
  · exact oc g_as on
  intro u1 HB1 sz1 K1
  simp only [fX, nK, nP, Wr.f, aK, pM] at K1
  simp only [setG, setN, List.set_cons_zero, List.set_cons_succ]
  clear HB0
  go_upto_region 2 with fail
  refine rgP K1 HB1 HB1.size [] [] [(0, 8, .slice (some ⟨b0, 0, none⟩) ss.length cap), (1, 9, .int .i64 (ss.length : Int)), (2, 10, (Go.Value.int Go.IntKind.i64 0))] [] [] [] ?_ ?_
  · refine oc g_mv ?_
    refine oc (g_ln Try.underlying74) ?_
    exact oc g_mv on
  intro u2 HB2 sz2 K2
  simp only [fX, nK, nP, Wr.f, aK, pM] at K2
  simp only [setG, setN, List.set_cons_zero, List.set_cons_succ]
  clear K1 HB1
  go_wp2_with fail
  go_loopw [10, 3] (fun s10 s3 wr => ∃ (j : Nat), j ≤ ss.length ∧ s10 = .int .i64 (j : Int) ∧ ((j = 0 ∧ s3 = .slice none 0 0) ∨ ∃ b cap zs, s3 = .slice (some ⟨b, 0, none⟩) j cap ∧ w.heap.size ≤ b ∧ b < wr.heap.size ∧ j ≤ cap ∧ List.length (α := Value) zs = (cap - j) * 4 ∧ Hid (CV wr b (flN (ns.take j) ++ zs))) ∧ Below w.heap.size w wr) (fun s10 _ _ => ss.length - (intOf s10).toNat)
  case atStart => exact ⟨0, by omega, rfl, .inl ⟨rfl, rfl⟩, HB2⟩
  case round =>
    obtain ⟨j, hj, rfl, hrow, HBr⟩ := hrel
    clear HB2
    have hwr := HBr.size
    by_cases hjl : j < ss.length
    · have hl : decide ((j : Int) < (ss.length : Int)) = true := by simp; omega
      obtain ⟨y, ey⟩ : ∃ y, ns.getD j 0 = y := ⟨_, rfl⟩
      obtain ⟨s, es⟩ : ∃ s, ss.getD j ByteArray.empty = s := ⟨_, rfl⟩
      have hy := flN_tk ns j (by omega)
      have hC := hP.out j hjl
      have hs := str_at ss j hjl
      have hsl := flN_len (ns.take j)
      rw [List.length_take, show min j ns.length = j by omega] at hsl
      rw [ey] at hy hC
      rw [es] at hC hs
      have hy : Hid _ := hy
      have hC : Hid _ := hC
      obtain ⟨ti, hti, hm⟩ := Option.map_eq_some_iff.1 infoN
      simp only [Prod.mk.injEq] at hm
      obtain ⟨hzv, hsz, hby⟩ := hm
      clear ey es
      rcases hrow with ⟨hj0, rfl⟩ | ⟨b5, c5, zs, rfl, hb5, hl5, hjc, hzl, hC5⟩
      · skip
        have K2_2 : Bk w.heap.size wr [(false, b0, ss.map Value.string)] := ⟨.c (Nat.lt_of_lt_of_le hlt HBr.size) (hcv.out.below HBr hlt) <| trivial, by simp⟩
        go_upto_region 3 with fail
        refine rgP K2_2 HBr HBr.size [] [] [(0, 11, .bool true)] [] [] [] ?_ ?_
        · exact oc (g_bn (fun uZ => lss_i _ _ (j : Int) (ss.length : Int) _ uZ hl)) on
        intro u3 HB3 sz3 K3
        simp only [fX, nK, nP, Wr.f, aK, pM] at K3
        simp only [setG, setN, List.set_cons_zero, List.set_cons_succ]
        go_upto_region 4 with fail
        refine rgP K3 HB3 HB3.size [] [] [(0, 12, .pointer (some ⟨b0, 0 + j, none⟩)), (1, 13, .string s), (2, 5, .string s)] [] [] [false] ?_ ?_
        · refine oc (g_ix (fun uZ => ixT b0 0 ss.length cap j hjl uZ)) ?_
          refine oc (g_lv 0 (0 + j) lT (by rw [Nat.zero_add]; exact hs)) ?_
          exact oc g_as on
        intro u4 HB4 sz4 K4
        simp only [fX, nK, nP, Wr.f, aK, pM] at K4
        simp only [setG, setN, List.set_cons_zero, List.set_cons_succ]
        clear K3 HB3
        go_upto_region 5 with fail
        refine rgP K4 HB4 HB4.size [] [(5, 6, L0s, some (6, LN y))] [(0, 15, .string s), (1, 16, .tuple #[NV y, .int .i64 0]), (2, 14, .tuple #[NV y, .int .i64 0]), (3, 17, NV y), (4, 18, .int .i64 0), (7, 7, .int .i64 0)] [(6, 5)] [] [] ?_ ?_
        · refine oc g_mv ?_
          refine oc (g_cl ent_limb_Parse (fun uZ => hC.out uZ)) ?_
          refine oc g_mv ?_
          refine oc g_ex ?_
          refine oc g_ex ?_
          refine oc (g_al 0 aN) ?_
          refine oc (g_sn 0 iN) ?_
          exact oc g_as on
        intro u5 b5_5 HB5 sz5 K5
        simp only [fX, nK, nP, Wr.f, aK, pM] at K5
        simp only [setG, setN, List.set_cons_zero, List.set_cons_succ]
        clear K4 HB4
        go_upto_region 6 with fail
        refine rgF K5 HB5 HB5.size [] [] [(0, 19, .slice none 0 0), (1, 20, NV y)] [(4, 0)] [(4, 3)] [⟨2, 21, some 3, P1 (LN y)⟩, ⟨3, 22, some 4, PG u5.heap.size ti.size (j + 1) (flN (ns.take j) ++ LN y)⟩, ⟨4, 3, none, PG u5.heap.size ti.size (j + 1) (flN (ns.take j) ++ LN y)⟩] [false] (.cons (fun _ _ _ h1 h2 => h2.stab h1) <| .cons (fun _ _ _ h1 h2 => h2.stab h1) <| .cons (fun _ _ _ h1 h2 => h2.stab h1) <| Stab.nil) ?_ ?_
        · refine oc g_mv ?_
          refine oc (g_ld 0 uN iN) ?_
          refine oc (g_bR 0 (P1 (LN y)) [0] [NV y] (LN y) (bsN1 _) (fun u hu => P1.new _ _ u)) ?_
          refine oc (g_pG 0 1 (P1 (LN y)) (n := j) (xs := flN (ns.take j)) (news := LN y) Try.underlying72 hti hzv (by rw [hsz]; rfl) P1.at hsz.symm (fun f u kZ => ⟨by rw [hsz]; omega, .inl ⟨rfl, hj0⟩⟩) (by rw [hby]; omega) (by omega)) ?_
          exact oc (g_sE 1 2 (PG u5.heap.size ti.size (j + 1) (flN (ns.take j) ++ LN y))) on
        intro u6 v6_2 hv6_2 v6_3 hv6_3 v6_4 hv6_4 HB6 sz6 K6
        simp only [fX, nK, nP, Wr.f, aK, pM] at K6
        simp only [setG, setN, setE, List.set_cons_zero, List.set_cons_succ]
        clear HB5
        obtain ⟨b6, c6, zs6, rfl, ho1, ho2, hc6, hz6, hoC⟩ := hv6_4 rfl
        have K6xrow6 := Bk.more3 K5 K6 ho1 ho2 hoC (by intro x hx; first | (simp at hx; done) | (simp at hx ⊢; omega))
        simp only [aK] at K6xrow6
        clear K6
        rw [hsz] at hz6
        have hw6 : w.heap.size ≤ b6 := by omega
        go_upto_region 7 with fail
        refine rgP K6xrow6 HB6 HB6.size [] [] [(0, 23, .int .i64 ((j + 1 : Nat) : Int)), (1, 10, .int .i64 ((j + 1 : Nat) : Int))] [(1, 0)] [(1, 10)] [] ?_ ?_
        · refine oc (g_bn (fun uZ => add_i _ _ (j : Int) 1 ((j + 1 : Nat) : Int) uZ (by omega) (by omega) (by omega))) ?_
          exact oc g_mv on
        intro u7 HB7 sz7 K7
        simp only [fX, nK, nP, Wr.f, aK, pM] at K7
        simp only [setG, setN, List.set_cons_zero, List.set_cons_succ]
        clear HB6
        go_wp2
        refine ⟨⟨j + 1, by omega, rfl, .inr ⟨b6, c6, zs6, rfl, hw6, (K7.lt 0), hc6, hz6, (by rw [hy.out]; exact (K7.cv 0))⟩, HB7⟩, ?_⟩
        simp [intOf] <;> omega
      · by_cases hrm : j + 1 ≤ c5
        · have hC5 : CV wr b5 (flN (ns.take j) ++ zs.take 4 ++ zs.drop 4) := by rw [add_drop4]; exact hC5.out
          have K2_2 : Bk w.heap.size wr [(false, b0, ss.map Value.string), (true, b5, flN (ns.take j) ++ zs.take 4 ++ zs.drop 4)] := ⟨.c (Nat.lt_of_lt_of_le hlt HBr.size) (hcv.out.below HBr hlt) <| .o hl5 (by omega) hC5 <| trivial, by simp; omega⟩
          go_upto_region 3 with fail
          refine rgP K2_2 HBr HBr.size [] [] [(0, 11, .bool true)] [] [] [] ?_ ?_
          · exact oc (g_bn (fun uZ => lss_i _ _ (j : Int) (ss.length : Int) _ uZ hl)) on
          intro u3 HB3 sz3 K3
          simp only [fX, nK, nP, Wr.f, aK, pM] at K3
          simp only [setG, setN, List.set_cons_zero, List.set_cons_succ]
          go_upto_region 4 with fail
          refine rgP K3 HB3 HB3.size [] [] [(0, 12, .pointer (some ⟨b0, 0 + j, none⟩)), (1, 13, .string s), (2, 5, .string s)] [] [] [false] ?_ ?_
          · refine oc (g_ix (fun uZ => ixT b0 0 ss.length cap j hjl uZ)) ?_
            refine oc (g_lv 0 (0 + j) lT (by rw [Nat.zero_add]; exact hs)) ?_
            exact oc g_as on
          intro u4 HB4 sz4 K4
          simp only [fX, nK, nP, Wr.f, aK, pM] at K4
          simp only [setG, setN, List.set_cons_zero, List.set_cons_succ]
          clear K3 HB3
          go_upto_region 5 with fail
          refine rgP K4 HB4 HB4.size [] [(5, 6, L0s, some (6, LN y))] [(0, 15, .string s), (1, 16, .tuple #[NV y, .int .i64 0]), (2, 14, .tuple #[NV y, .int .i64 0]), (3, 17, NV y), (4, 18, .int .i64 0), (7, 7, .int .i64 0)] [(6, 5)] [] [] ?_ ?_
          · refine oc g_mv ?_
            refine oc (g_cl ent_limb_Parse (fun uZ => hC.out uZ)) ?_
            refine oc g_mv ?_
            refine oc g_ex ?_
            refine oc g_ex ?_
            refine oc (g_al 0 aN) ?_
            refine oc (g_sn 0 iN) ?_
            exact oc g_as on
          intro u5 b5_5 HB5 sz5 K5
          simp only [fX, nK, nP, Wr.f, aK, pM] at K5
          simp only [setG, setN, List.set_cons_zero, List.set_cons_succ]
          clear K4 HB4
          go_upto_region 6 with fail
          refine rgF K5 HB5 HB5.size [.all 3 (flN (ns.take j) ++ LN y ++ zs.drop 4)] [] [(0, 19, .slice (some ⟨b5, 0, none⟩) j c5), (1, 20, NV y), (3, 22, .slice (some ⟨b5, 0, none⟩) (j + 1) c5), (4, 3, .slice (some ⟨b5, 0, none⟩) (j + 1) c5)] [(4, 0)] [(4, 3)] [⟨2, 21, some 3, P1 (LN y)⟩] [true, false] (.cons (fun _ _ _ h1 h2 => h2.stab h1) <| Stab.nil) ?_ ?_
          · refine oc g_mv ?_
            refine oc (g_ld 1 uN iN) ?_
            refine oc (g_bR 0 (P1 (LN y)) [0] [NV y] (LN y) (bsN1 _) (fun u hu => P1.new _ _ u)) ?_
            refine oc (g_pI 0 0 (P1 (LN y)) (xs := flN (ns.take j)) (ys := zs.take 4) (zs := zs.drop 4) (news := LN y) Try.underlying72 hti P1.at LN_one hsz.symm (by rw [hsz]; omega) (by rw [List.length_take]; simp; omega) hrm) ?_
            exact oc g_as on
          intro u6 v6_2 hv6_2 HB6 sz6 K6
          simp only [fX, nK, nP, Wr.f, aK, pM] at K6
          simp only [setG, setN, setE, List.set_cons_zero, List.set_cons_succ]
          clear K5 HB5
          go_upto_region 7 with fail
          refine rgP K6 HB6 HB6.size [] [] [(0, 23, .int .i64 ((j + 1 : Nat) : Int)), (1, 10, .int .i64 ((j + 1 : Nat) : Int))] [(1, 0)] [(1, 10)] [] ?_ ?_
          · refine oc (g_bn (fun uZ => add_i _ _ (j : Int) 1 ((j + 1 : Nat) : Int) uZ (by omega) (by omega) (by omega))) ?_
            exact oc g_mv on
          intro u7 HB7 sz7 K7
          simp only [fX, nK, nP, Wr.f, aK, pM] at K7
          simp only [setG, setN, List.set_cons_zero, List.set_cons_succ]
          clear K6 HB6
          go_wp2
          refine ⟨⟨j + 1, by omega, rfl, .inr ⟨b5, c5, zs.drop 4, rfl, hb5, (K7.lt 0), hrm, (by rw [List.length_drop]; omega), (by rw [hy.out]; exact (K7.cv 0))⟩, HB7⟩, ?_⟩
          simp [intOf] <;> omega
        · have ec : j = c5 := by omega
          subst ec
          have K2_2 : Bk w.heap.size wr [(false, b0, ss.map Value.string), (false, b5, flN (ns.take j) ++ zs)] := ⟨.c (Nat.lt_of_lt_of_le hlt HBr.size) (hcv.out.below HBr hlt) <| .c hl5 hC5.out <| trivial, by simp; omega⟩
          go_upto_region 3 with fail
          refine rgP K2_2 HBr HBr.size [] [] [(0, 11, .bool true)] [] [] [] ?_ ?_
          · exact oc (g_bn (fun uZ => lss_i _ _ (j : Int) (ss.length : Int) _ uZ hl)) on
          intro u3 HB3 sz3 K3
          simp only [fX, nK, nP, Wr.f, aK, pM] at K3
          simp only [setG, setN, List.set_cons_zero, List.set_cons_succ]
          go_upto_region 4 with fail
          refine rgP K3 HB3 HB3.size [] [] [(0, 12, .pointer (some ⟨b0, 0 + j, none⟩)), (1, 13, .string s), (2, 5, .string s)] [] [] [false] ?_ ?_
          · refine oc (g_ix (fun uZ => ixT b0 0 ss.length cap j hjl uZ)) ?_
            refine oc (g_lv 0 (0 + j) lT (by rw [Nat.zero_add]; exact hs)) ?_
            exact oc g_as on
          intro u4 HB4 sz4 K4
          simp only [fX, nK, nP, Wr.f, aK, pM] at K4
          simp only [setG, setN, List.set_cons_zero, List.set_cons_succ]
          clear K3 HB3
          go_upto_region 5 with fail
          refine rgP K4 HB4 HB4.size [] [(5, 6, L0s, some (6, LN y))] [(0, 15, .string s), (1, 16, .tuple #[NV y, .int .i64 0]), (2, 14, .tuple #[NV y, .int .i64 0]), (3, 17, NV y), (4, 18, .int .i64 0), (7, 7, .int .i64 0)] [(6, 5)] [] [] ?_ ?_
          · refine oc g_mv ?_
            refine oc (g_cl ent_limb_Parse (fun uZ => hC.out uZ)) ?_
            refine oc g_mv ?_
            refine oc g_ex ?_
            refine oc g_ex ?_
            refine oc (g_al 0 aN) ?_
            refine oc (g_sn 0 iN) ?_
            exact oc g_as on
          intro u5 b5_5 HB5 sz5 K5
          simp only [fX, nK, nP, Wr.f, aK, pM] at K5
          simp only [setG, setN, List.set_cons_zero, List.set_cons_succ]
          clear K4 HB4
          go_upto_region 6 with fail
          refine rgF K5 HB5 HB5.size [] [] [(0, 19, .slice (some ⟨b5, 0, none⟩) j j), (1, 20, NV y)] [(4, 0)] [(4, 3)] [⟨2, 21, some 3, P1 (LN y)⟩, ⟨3, 22, some 4, PG u5.heap.size ti.size (j + 1) (flN (ns.take j) ++ LN y)⟩, ⟨4, 3, none, PG u5.heap.size ti.size (j + 1) (flN (ns.take j) ++ LN y)⟩] [false, false] (.cons (fun _ _ _ h1 h2 => h2.stab h1) <| .cons (fun _ _ _ h1 h2 => h2.stab h1) <| .cons (fun _ _ _ h1 h2 => h2.stab h1) <| Stab.nil) ?_ ?_
          · refine oc g_mv ?_
            refine oc (g_ld 1 uN iN) ?_
            refine oc (g_bR 0 (P1 (LN y)) [0] [NV y] (LN y) (bsN1 _) (fun u hu => P1.new _ _ u)) ?_
            refine oc (g_pG 0 1 (P1 (LN y)) (n := j) (xs := flN (ns.take j)) (news := LN y) Try.underlying72 hti hzv (by rw [hsz]; rfl) P1.at hsz.symm (fun f u kZ => ⟨by rw [hsz]; omega, .inr ⟨b5, rfl, (KC.cv kZ 0).pre2⟩⟩) (by rw [hby]; omega) (by omega)) ?_
            exact oc (g_sE 1 2 (PG u5.heap.size ti.size (j + 1) (flN (ns.take j) ++ LN y))) on
          intro u6 v6_2 hv6_2 v6_3 hv6_3 v6_4 hv6_4 HB6 sz6 K6
          simp only [fX, nK, nP, Wr.f, aK, pM] at K6
          simp only [setG, setN, setE, List.set_cons_zero, List.set_cons_succ]
          clear HB5
          obtain ⟨b6, c6, zs6, rfl, ho1, ho2, hc6, hz6, hoC⟩ := hv6_4 rfl
          have K6xrow6 := Bk.more3 K5 K6 ho1 ho2 hoC (by intro x hx; first | (simp at hx; done) | (simp at hx ⊢; omega))
          simp only [aK] at K6xrow6
          clear K6
          rw [hsz] at hz6
          have hw6 : w.heap.size ≤ b6 := by omega
          go_upto_region 7 with fail
          refine rgP K6xrow6 HB6 HB6.size [] [] [(0, 23, .int .i64 ((j + 1 : Nat) : Int)), (1, 10, .int .i64 ((j + 1 : Nat) : Int))] [(1, 0)] [(1, 10)] [] ?_ ?_
          · refine oc (g_bn (fun uZ => add_i _ _ (j : Int) 1 ((j + 1 : Nat) : Int) uZ (by omega) (by omega) (by omega))) ?_
            exact oc g_mv on
          intro u7 HB7 sz7 K7
          simp only [fX, nK, nP, Wr.f, aK, pM] at K7
          simp only [setG, setN, List.set_cons_zero, List.set_cons_succ]
          clear HB6
          go_wp2
          refine ⟨⟨j + 1, by omega, rfl, .inr ⟨b6, c6, zs6, rfl, hw6, (K7.lt 0), hc6, hz6, (by rw [hy.out]; exact (K7.cv 0))⟩, HB7⟩, ?_⟩
          simp [intOf] <;> omega
    · have hl : decide ((j : Int) < (ss.length : Int)) = false := by simp; omega
      have hjn : j = ns.length := by omega
      rcases hrow with ⟨hj0, rfl⟩ | ⟨b5, c5, zs, rfl, hb5, hl5, hjc, hzl, hC5⟩
      · omega
      have K2_2 : Bk w.heap.size wr [(false, b5, flN (ns.take j) ++ zs)] := ⟨.c hl5 hC5.out <| trivial, by simp⟩
      go_upto_region 3 with fail
      refine rgP K2_2 HBr HBr.size [] [] [(0, 11, .bool false)] [] [] [] ?_ ?_
      · exact oc (g_bn (fun uZ => lss_i _ _ (j : Int) (ss.length : Int) _ uZ hl)) on
      intro u3 HB3 sz3 K3
      simp only [fX, nK, nP, Wr.f, aK, pM] at K3
      simp only [setG, setN, List.set_cons_zero, List.set_cons_succ]
      go_upto_region 8 with fail
      refine rgP K3 HB3 HB3.size [] [] [(0, 24, .slice (some ⟨b5, 0, none⟩) j c5), (1, 2, .slice (some ⟨b5, 0, none⟩) j c5)] [] [] [] ?_ ?_
      · refine oc g_mv ?_
        exact oc g_as on
      intro u4 HB4 sz4 K4
      simp only [fX, nK, nP, Wr.f, aK, pM] at K4
      simp only [setG, setN, List.set_cons_zero, List.set_cons_succ]
      clear K3 HB3
      go_wp2
      refine bodyPost_ret (v := .slice (some ⟨b5, 0, none⟩) j c5) (by simp [results, Try.results57, go_sem]) rfl ⟨_, rfl, ⟨b5, c5, by rw [hjn], hb5, K4.lt 0, by omega, by have := (K4.cv 0).pre2; rwa [hjn, List.take_length] at this⟩, HB4⟩
end Go.Proofs.Ytgfggkinmhhdnaa
