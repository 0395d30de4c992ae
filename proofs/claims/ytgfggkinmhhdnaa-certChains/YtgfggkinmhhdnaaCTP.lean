import Derived.Test.YtgfggkinmhhdnaaRC
import Derived.Test.YtgfggkinmhhdnaaCTA
import Derived.Test.YtgfggkinmhhdnaaU5
import Derived.Test.YtgfggkinmhhdnaaRN
/- Primes that are certified: numbers of texts, and the chain of the reference. -/
namespace Go.Proofs.Ytgfggkinmhhdnaa
open Go.RowKit
set_option linter.unusedVariables false
set_option linter.unusedSimpArgs false
theorem lT {b c : Nat} {s : ByteArray} (w : World) (h : w.cell? ⟨b, c, none⟩ = some (.string s)) : (Instr.loadAt 9 (.pointer (some ⟨b, c, none⟩))).run Try.prog w = .ok (.string s) w := by go_simp
theorem ixT (g o n cap j : Nat) (h : j < n) (w : World) : (Instr.indexAt 74 (.slice (some ⟨g, o, none⟩) n cap) (.int .i64 j)).run Try.prog w = .ok (.pointer (some ⟨g, o + j, none⟩)) w := by
  have h2 : (j : Int) < n := by omega
  go_simp
theorem bsN1 (n : Int) (w : World) : (Instr.buildSlice 72 1 ([0].zip [NV n]).toArray).run Try.prog w = .ok (.slice (some ⟨w.heap.size, 0, none⟩) 1 1) (w.alloc (.cells (LN n).toArray 24)) := by kernel_rfl
theorem LN_one {n : Int} : ∀ v ∈ LN n, v.oneCell' = true := fun v hv => by
  simp only [LN, List.mem_cons, List.not_mem_nil, or_false] at hv
  rcases hv with rfl | rfl | rfl | rfl <;> rfl
theorem flN_tk (ns : List Int) (j : Nat) (h : j < ns.length) : flN (ns.take (j + 1)) = flN (ns.take j) ++ LN (ns.getD j 0) := by
  rw [List.take_succ_eq_append_getElem h, flN_app]; simp [flN, List.getElem?_eq_getElem h]
theorem str_at (ss : List ByteArray) (j : Nat) (h : j < ss.length) : (ss.map Value.string)[j]? = some (.string (ss.getD j ByteArray.empty)) := by
  simp [List.getElem?_eq_getElem h]
theorem add_drop4 {xs zs : List Value} : xs ++ (zs.take 4) ++ (zs.drop 4) = xs ++ zs := by rw [List.append_assoc, List.take_append_drop]
theorem ent_limb_Parse (vs : Array Value) (w : World) : (callFunc 74 vs).run Try.prog w = .ok (.enter 74 vs) w := by kernel_rfl
theorem ent_seneschalref01_Parse (vs : Array Value) (w : World) : (callFunc 43 vs).run Try.prog w = .ok (.enter 43 vs) w := by kernel_rfl
set_option maxRecDepth 100000 in
set_option maxHeartbeats 4000000 in
theorem cParsed (ss : List ByteArray) (ns : List Int) (b0 cap : Nat) (w : World) (hln : ns.length = ss.length) (h0 : 0 < ss.length) (hle : ss.length ≤ 20) (hlt : b0 < w.heap.size) (hcv : Hid (CV w b0 (ss.map Value.string))) (hP : Hid (∀ j, j < ss.length → ∀ u, Calls Try.prog 74 #[.string (ss.getD j ByteArray.empty)] u fun e u' => e = .returned (.tuple #[NV (ns.getD j 0), .int .i64 0]) ∧ Below u.heap.size u u')) :
    Calls Try.prog 57 #[.slice (some ⟨b0, 0, none⟩) ss.length cap] w fun e w' => ∃ v, e = .returned v ∧ PS w.heap.size ns.length (flN ns) w' v ∧ Below w.heap.size w w' := by
  go_enter Try.func57, Try.ntmps57
  have HB0 : Below w.heap.size w w := Below.refl _ _
  have K0_1 := Bk.nil (w.heap.size) w
  go_upto_region 1 with fail
  refine rgP K0_1 HB0 HB0.size [] [] [(0, 3, (Go.Value.slice Option.none 0 0))] [] [] [] ?_ ?_
  · exact oc g_as on
  intro u1 HB1 sz1 K1
  simp only [fX, nK, nP, Wr.f, aK, pM] at K1
  simp only [setG, setN, List.set_cons_zero, List.set_cons_succ]
  clear HB0
  go_upto_region 2 with fail
  refine rgP K1 HB1 HB1.size [] [] [(0, 8, .slice (some ⟨b0, 0, none⟩) ss.length cap), (1, 9, .int .i64 (ss.length : Int)), (2, 10, (Go.Value.int Go.IntKind.i64 0))] [] [] [] ?_ ?_
  · refine oc g_mv ?_
    refine oc (g_ln Try.underlying74) ?_
    exact oc g_mv on
  intro u2 HB2 sz2 K2
  simp only [fX, nK, nP, Wr.f, aK, pM] at K2
  simp only [setG, setN, List.set_cons_zero, List.set_cons_succ]
  clear K1 HB1
  go_wp2_with fail
  go_loopw [10, 3] (fun s10 s3 wr => ∃ (j : Nat), j ≤ ss.length ∧ s10 = .int .i64 (j : Int) ∧ ((j = 0 ∧ s3 = .slice none 0 0) ∨ ∃ b cap zs, s3 = .slice (some ⟨b, 0, none⟩) j cap ∧ w.heap.size ≤ b ∧ b < wr.heap.size ∧ j ≤ cap ∧ List.length (α := Value) zs = (cap - j) * 4 ∧ Hid (CV wr b (flN (ns.take j) ++ zs))) ∧ Below w.heap.size w wr) (fun s10 _ _ => ss.length - (intOf s10).toNat)
  case atStart => exact ⟨0, by omega, rfl, .inl ⟨rfl, rfl⟩, HB2⟩
  case round =>
    obtain ⟨j, hj, rfl, hrow, HBr⟩ := hrel
    clear HB2
    have hwr := HBr.size
    by_cases hjl : j < ss.length
    · have hl : decide ((j : Int) < (ss.length : Int)) = true := by simp; omega
      obtain ⟨y, ey⟩ : ∃ y, ns.getD j 0 = y := ⟨_, rfl⟩
      obtain ⟨s, es⟩ : ∃ s, ss.getD j ByteArray.empty = s := ⟨_, rfl⟩
      have hy := flN_tk ns j (by omega)
      have hC := hP.out j hjl
      have hs := str_at ss j hjl
      have hsl := flN_len (ns.take j)
      rw [List.length_take, show min j ns.length = j by omega] at hsl
      rw [ey] at hy hC
      rw [es] at hC hs
      have hy : Hid _ := hy
      have hC : Hid _ := hC
      obtain ⟨ti, hti, hm⟩ := Option.map_eq_some_iff.1 infoN
      simp only [Prod.mk.injEq] at hm
      obtain ⟨hzv, hsz, hby⟩ := hm
      clear ey es
      rcases hrow with ⟨hj0, rfl⟩ | ⟨b5, c5, zs, rfl, hb5, hl5, hjc, hzl, hC5⟩
      · skip
        have K2_2 : Bk w.heap.size wr [(false, b0, ss.map Value.string)] := ⟨.c (Nat.lt_of_lt_of_le hlt HBr.size) (hcv.out.below HBr hlt) <| trivial, by simp⟩
        go_upto_region 3 with fail
        refine rgP K2_2 HBr HBr.size [] [] [(0, 11, .bool true)] [] [] [] ?_ ?_
        · exact oc (g_bn (fun uZ => lss_i _ _ (j : Int) (ss.length : Int) _ uZ hl)) on
        intro u3 HB3 sz3 K3
        simp only [fX, nK, nP, Wr.f, aK, pM] at K3
        simp only [setG, setN, List.set_cons_zero, List.set_cons_succ]
        go_upto_region 4 with fail
        refine rgP K3 HB3 HB3.size [] [] [(0, 12, .pointer (some ⟨b0, 0 + j, none⟩)), (1, 13, .string s), (2, 5, .string s)] [] [] [false] ?_ ?_
        · refine oc (g_ix (fun uZ => ixT b0 0 ss.length cap j hjl uZ)) ?_
          refine oc (g_lv 0 (0 + j) lT (by rw [Nat.zero_add]; exact hs)) ?_
          exact oc g_as on
        intro u4 HB4 sz4 K4
        simp only [fX, nK, nP, Wr.f, aK, pM] at K4
        simp only [setG, setN, List.set_cons_zero, List.set_cons_succ]
        clear K3 HB3
        go_upto_region 5 with fail
        refine rgP K4 HB4 HB4.size [] [(5, 6, L0s, some (6, LN y))] [(0, 15, .string s), (1, 16, .tuple #[NV y, .int .i64 0]), (2, 14, .tuple #[NV y, .int .i64 0]), (3, 17, NV y), (4, 18, .int .i64 0), (7, 7, .int .i64 0)] [(6, 5)] [] [] ?_ ?_
        · refine oc g_mv ?_
          refine oc (g_cl ent_limb_Parse (fun uZ => hC.out uZ)) ?_
          refine oc g_mv ?_
          refine oc g_ex ?_
          refine oc g_ex ?_
          refine oc (g_al 0 aN) ?_
          refine oc (g_sn 0 iN) ?_
          exact oc g_as on
        intro u5 b5_5 HB5 sz5 K5
        simp only [fX, nK, nP, Wr.f, aK, pM] at K5
        simp only [setG, setN, List.set_cons_zero, List.set_cons_succ]
        clear K4 HB4
        go_upto_region 6 with fail
        refine rgF K5 HB5 HB5.size [] [] [(0, 19, .slice none 0 0), (1, 20, NV y)] [(4, 0)] [(4, 3)] [⟨2, 21, some 3, P1 (LN y)⟩, ⟨3, 22, some 4, PG u5.heap.size ti.size (j + 1) (flN (ns.take j) ++ LN y)⟩, ⟨4, 3, none, PG u5.heap.size ti.size (j + 1) (flN (ns.take j) ++ LN y)⟩] [false] (.cons (fun _ _ _ h1 h2 => h2.stab h1) <| .cons (fun _ _ _ h1 h2 => h2.stab h1) <| .cons (fun _ _ _ h1 h2 => h2.stab h1) <| Stab.nil) ?_ ?_
        · refine oc g_mv ?_
          refine oc (g_ld 0 uN iN) ?_
          refine oc (g_bR 0 (P1 (LN y)) [0] [NV y] (LN y) (bsN1 _) (fun u hu => P1.new _ _ u)) ?_
          refine oc (g_pG 0 1 (P1 (LN y)) (n := j) (xs := flN (ns.take j)) (news := LN y) Try.underlying72 hti hzv (by rw [hsz]; rfl) P1.at hsz.symm (fun f u kZ => ⟨by rw [hsz]; omega, .inl ⟨rfl, hj0⟩⟩) (by rw [hby]; omega) (by omega)) ?_
          exact oc (g_sE 1 2 (PG u5.heap.size ti.size (j + 1) (flN (ns.take j) ++ LN y))) on
        intro u6 v6_2 hv6_2 v6_3 hv6_3 v6_4 hv6_4 HB6 sz6 K6
        simp only [fX, nK, nP, Wr.f, aK, pM] at K6
        simp only [setG, setN, setE, List.set_cons_zero, List.set_cons_succ]
        clear HB5
        obtain ⟨b6, c6, zs6, rfl, ho1, ho2, hc6, hz6, hoC⟩ := hv6_4 rfl
        have K6xrow6 := Bk.more3 K5 K6 ho1 ho2 hoC (by intro x hx; first | (simp at hx; done) | (simp at hx ⊢; omega))
        simp only [aK] at K6xrow6
        clear K6
        rw [hsz] at hz6
        have hw6 : w.heap.size ≤ b6 := by omega
        go_upto_region 7 with fail
        refine rgP K6xrow6 HB6 HB6.size [] [] [(0, 23, .int .i64 ((j + 1 : Nat) : Int)), (1, 10, .int .i64 ((j + 1 : Nat) : Int))] [(1, 0)] [(1, 10)] [] ?_ ?_
        · refine oc (g_bn (fun uZ => add_i _ _ (j : Int) 1 ((j + 1 : Nat) : Int) uZ (by omega) (by omega) (by omega))) ?_
          exact oc g_mv on
        intro u7 HB7 sz7 K7
        simp only [fX, nK, nP, Wr.f, aK, pM] at K7
        simp only [setG, setN, List.set_cons_zero, List.set_cons_succ]
        clear HB6
        go_wp2
        refine ⟨⟨j + 1, by omega, rfl, .inr ⟨b6, c6, zs6, rfl, hw6, (K7.lt 0), hc6, hz6, (by rw [hy.out]; exact (K7.cv 0))⟩, HB7⟩, ?_⟩
        simp [intOf] <;> omega
      · by_cases hrm : j + 1 ≤ c5
        · have hC5 : CV wr b5 (flN (ns.take j) ++ zs.take 4 ++ zs.drop 4) := by rw [add_drop4]; exact hC5.out
          have K2_2 : Bk w.heap.size wr [(false, b0, ss.map Value.string), (true, b5, flN (ns.take j) ++ zs.take 4 ++ zs.drop 4)] := ⟨.c (Nat.lt_of_lt_of_le hlt HBr.size) (hcv.out.below HBr hlt) <| .o hl5 (by omega) hC5 <| trivial, by simp; omega⟩
          go_upto_region 3 with fail
          refine rgP K2_2 HBr HBr.size [] [] [(0, 11, .bool true)] [] [] [] ?_ ?_
          · exact oc (g_bn (fun uZ => lss_i _ _ (j : Int) (ss.length : Int) _ uZ hl)) on
          intro u3 HB3 sz3 K3
          simp only [fX, nK, nP, Wr.f, aK, pM] at K3
          simp only [setG, setN, List.set_cons_zero, List.set_cons_succ]
          go_upto_region 4 with fail
          refine rgP K3 HB3 HB3.size [] [] [(0, 12, .pointer (some ⟨b0, 0 + j, none⟩)), (1, 13, .string s), (2, 5, .string s)] [] [] [false] ?_ ?_
          · refine oc (g_ix (fun uZ => ixT b0 0 ss.length cap j hjl uZ)) ?_
            refine oc (g_lv 0 (0 + j) lT (by rw [Nat.zero_add]; exact hs)) ?_
            exact oc g_as on
          intro u4 HB4 sz4 K4
          simp only [fX, nK, nP, Wr.f, aK, pM] at K4
          simp only [setG, setN, List.set_cons_zero, List.set_cons_succ]
          clear K3 HB3
          go_upto_region 5 with fail
          refine rgP K4 HB4 HB4.size [] [(5, 6, L0s, some (6, LN y))] [(0, 15, .string s), (1, 16, .tuple #[NV y, .int .i64 0]), (2, 14, .tuple #[NV y, .int .i64 0]), (3, 17, NV y), (4, 18, .int .i64 0), (7, 7, .int .i64 0)] [(6, 5)] [] [] ?_ ?_
          · refine oc g_mv ?_
            refine oc (g_cl ent_limb_Parse (fun uZ => hC.out uZ)) ?_
            refine oc g_mv ?_
            refine oc g_ex ?_
            refine oc g_ex ?_
            refine oc (g_al 0 aN) ?_
            refine oc (g_sn 0 iN) ?_
            exact oc g_as on
          intro u5 b5_5 HB5 sz5 K5
          simp only [fX, nK, nP, Wr.f, aK, pM] at K5
          simp only [setG, setN, List.set_cons_zero, List.set_cons_succ]
          clear K4 HB4
          go_upto_region 6 with fail
          refine rgF K5 HB5 HB5.size [.all 3 (flN (ns.take j) ++ LN y ++ zs.drop 4)] [] [(0, 19, .slice (some ⟨b5, 0, none⟩) j c5), (1, 20, NV y), (3, 22, .slice (some ⟨b5, 0, none⟩) (j + 1) c5), (4, 3, .slice (some ⟨b5, 0, none⟩) (j + 1) c5)] [(4, 0)] [(4, 3)] [⟨2, 21, some 3, P1 (LN y)⟩] [true, false] (.cons (fun _ _ _ h1 h2 => h2.stab h1) <| Stab.nil) ?_ ?_
          · refine oc g_mv ?_
            refine oc (g_ld 1 uN iN) ?_
            refine oc (g_bR 0 (P1 (LN y)) [0] [NV y] (LN y) (bsN1 _) (fun u hu => P1.new _ _ u)) ?_
            refine oc (g_pI 0 0 (P1 (LN y)) (xs := flN (ns.take j)) (ys := zs.take 4) (zs := zs.drop 4) (news := LN y) Try.underlying72 hti P1.at LN_one hsz.symm (by rw [hsz]; omega) (by rw [List.length_take]; simp; omega) hrm) ?_
            exact oc g_as on
          intro u6 v6_2 hv6_2 HB6 sz6 K6
          simp only [fX, nK, nP, Wr.f, aK, pM] at K6
          simp only [setG, setN, setE, List.set_cons_zero, List.set_cons_succ]
          clear K5 HB5
          go_upto_region 7 with fail
          refine rgP K6 HB6 HB6.size [] [] [(0, 23, .int .i64 ((j + 1 : Nat) : Int)), (1, 10, .int .i64 ((j + 1 : Nat) : Int))] [(1, 0)] [(1, 10)] [] ?_ ?_
          · refine oc (g_bn (fun uZ => add_i _ _ (j : Int) 1 ((j + 1 : Nat) : Int) uZ (by omega) (by omega) (by omega))) ?_
            exact oc g_mv on
          intro u7 HB7 sz7 K7
          simp only [fX, nK, nP, Wr.f, aK, pM] at K7
          simp only [setG, setN, List.set_cons_zero, List.set_cons_succ]
          clear K6 HB6
          go_wp2
          refine ⟨⟨j + 1, by omega, rfl, .inr ⟨b5, c5, zs.drop 4, rfl, hb5, (K7.lt 0), hrm, (by rw [List.length_drop]; omega), (by rw [hy.out]; exact (K7.cv 0))⟩, HB7⟩, ?_⟩
          simp [intOf] <;> omega
        · have ec : j = c5 := by omega
          subst ec
          have K2_2 : Bk w.heap.size wr [(false, b0, ss.map Value.string), (false, b5, flN (ns.take j) ++ zs)] := ⟨.c (Nat.lt_of_lt_of_le hlt HBr.size) (hcv.out.below HBr hlt) <| .c hl5 hC5.out <| trivial, by simp; omega⟩
          go_upto_region 3 with fail
          refine rgP K2_2 HBr HBr.size [] [] [(0, 11, .bool true)] [] [] [] ?_ ?_
          · exact oc (g_bn (fun uZ => lss_i _ _ (j : Int) (ss.length : Int) _ uZ hl)) on
          intro u3 HB3 sz3 K3
          simp only [fX, nK, nP, Wr.f, aK, pM] at K3
          simp only [setG, setN, List.set_cons_zero, List.set_cons_succ]
          go_upto_region 4 with fail
          refine rgP K3 HB3 HB3.size [] [] [(0, 12, .pointer (some ⟨b0, 0 + j, none⟩)), (1, 13, .string s), (2, 5, .string s)] [] [] [false] ?_ ?_
          · refine oc (g_ix (fun uZ => ixT b0 0 ss.length cap j hjl uZ)) ?_
            refine oc (g_lv 0 (0 + j) lT (by rw [Nat.zero_add]; exact hs)) ?_
            exact oc g_as on
          intro u4 HB4 sz4 K4
          simp only [fX, nK, nP, Wr.f, aK, pM] at K4
          simp only [setG, setN, List.set_cons_zero, List.set_cons_succ]
          clear K3 HB3
          go_upto_region 5 with fail
          refine rgP K4 HB4 HB4.size [] [(5, 6, L0s, some (6, LN y))] [(0, 15, .string s), (1, 16, .tuple #[NV y, .int .i64 0]), (2, 14, .tuple #[NV y, .int .i64 0]), (3, 17, NV y), (4, 18, .int .i64 0), (7, 7, .int .i64 0)] [(6, 5)] [] [] ?_ ?_
          · refine oc g_mv ?_
            refine oc (g_cl ent_limb_Parse (fun uZ => hC.out uZ)) ?_
            refine oc g_mv ?_
            refine oc g_ex ?_
            refine oc g_ex ?_
            refine oc (g_al 0 aN) ?_
            refine oc (g_sn 0 iN) ?_
            exact oc g_as on
          intro u5 b5_5 HB5 sz5 K5
          simp only [fX, nK, nP, Wr.f, aK, pM] at K5
          simp only [setG, setN, List.set_cons_zero, List.set_cons_succ]
          clear K4 HB4
          go_upto_region 6 with fail
          refine rgF K5 HB5 HB5.size [] [] [(0, 19, .slice (some ⟨b5, 0, none⟩) j j), (1, 20, NV y)] [(4, 0)] [(4, 3)] [⟨2, 21, some 3, P1 (LN y)⟩, ⟨3, 22, some 4, PG u5.heap.size ti.size (j + 1) (flN (ns.take j) ++ LN y)⟩, ⟨4, 3, none, PG u5.heap.size ti.size (j + 1) (flN (ns.take j) ++ LN y)⟩] [false, false] (.cons (fun _ _ _ h1 h2 => h2.stab h1) <| .cons (fun _ _ _ h1 h2 => h2.stab h1) <| .cons (fun _ _ _ h1 h2 => h2.stab h1) <| Stab.nil) ?_ ?_
          · refine oc g_mv ?_
            refine oc (g_ld 1 uN iN) ?_
            refine oc (g_bR 0 (P1 (LN y)) [0] [NV y] (LN y) (bsN1 _) (fun u hu => P1.new _ _ u)) ?_
            refine oc (g_pG 0 1 (P1 (LN y)) (n := j) (xs := flN (ns.take j)) (news := LN y) Try.underlying72 hti hzv (by rw [hsz]; rfl) P1.at hsz.symm (fun f u kZ => ⟨by rw [hsz]; omega, .inr ⟨b5, rfl, (KC.cv kZ 0).pre2⟩⟩) (by rw [hby]; omega) (by omega)) ?_
            exact oc (g_sE 1 2 (PG u5.heap.size ti.size (j + 1) (flN (ns.take j) ++ LN y))) on
          intro u6 v6_2 hv6_2 v6_3 hv6_3 v6_4 hv6_4 HB6 sz6 K6
          simp only [fX, nK, nP, Wr.f, aK, pM] at K6
          simp only [setG, setN, setE, List.set_cons_zero, List.set_cons_succ]
          clear HB5
          obtain ⟨b6, c6, zs6, rfl, ho1, ho2, hc6, hz6, hoC⟩ := hv6_4 rfl
          have K6xrow6 := Bk.more3 K5 K6 ho1 ho2 hoC (by intro x hx; first | (simp at hx; done) | (simp at hx ⊢; omega))
          simp only [aK] at K6xrow6
          clear K6
          rw [hsz] at hz6
          have hw6 : w.heap.size ≤ b6 := by omega
          go_upto_region 7 with fail
          refine rgP K6xrow6 HB6 HB6.size [] [] [(0, 23, .int .i64 ((j + 1 : Nat) : Int)), (1, 10, .int .i64 ((j + 1 : Nat) : Int))] [(1, 0)] [(1, 10)] [] ?_ ?_
          · refine oc (g_bn (fun uZ => add_i _ _ (j : Int) 1 ((j + 1 : Nat) : Int) uZ (by omega) (by omega) (by omega))) ?_
            exact oc g_mv on
          intro u7 HB7 sz7 K7
          simp only [fX, nK, nP, Wr.f, aK, pM] at K7
          simp only [setG, setN, List.set_cons_zero, List.set_cons_succ]
          clear HB6
          go_wp2
          refine ⟨⟨j + 1, by omega, rfl, .inr ⟨b6, c6, zs6, rfl, hw6, (K7.lt 0), hc6, hz6, (by rw [hy.out]; exact (K7.cv 0))⟩, HB7⟩, ?_⟩
          simp [intOf] <;> omega
    · have hl : decide ((j : Int) < (ss.length : Int)) = false := by simp; omega
      have hjn : j = ns.length := by omega
      rcases hrow with ⟨hj0, rfl⟩ | ⟨b5, c5, zs, rfl, hb5, hl5, hjc, hzl, hC5⟩
      · omega
      have K2_2 : Bk w.heap.size wr [(false, b5, flN (ns.take j) ++ zs)] := ⟨.c hl5 hC5.out <| trivial, by simp⟩
      go_upto_region 3 with fail
      refine rgP K2_2 HBr HBr.size [] [] [(0, 11, .bool false)] [] [] [] ?_ ?_
      · exact oc (g_bn (fun uZ => lss_i _ _ (j : Int) (ss.length : Int) _ uZ hl)) on
      intro u3 HB3 sz3 K3
      simp only [fX, nK, nP, Wr.f, aK, pM] at K3
      simp only [setG, setN, List.set_cons_zero, List.set_cons_succ]
      go_upto_region 8 with fail
      refine rgP K3 HB3 HB3.size [] [] [(0, 24, .slice (some ⟨b5, 0, none⟩) j c5), (1, 2, .slice (some ⟨b5, 0, none⟩) j c5)] [] [] [] ?_ ?_
      · refine oc g_mv ?_
        exact oc g_as on
      intro u4 HB4 sz4 K4
      simp only [fX, nK, nP, Wr.f, aK, pM] at K4
      simp only [setG, setN, List.set_cons_zero, List.set_cons_succ]
      clear K3 HB3
      go_wp2
      refine bodyPost_ret (v := .slice (some ⟨b5, 0, none⟩) j c5) (by simp [results, Try.results57, go_sem]) rfl ⟨_, rfl, ⟨b5, c5, by rw [hjn], hb5, K4.lt 0, by omega, by have := (K4.cv 0).pre2; rwa [hjn, List.take_length] at this⟩, HB4⟩
end Go.Proofs.Ytgfggkinmhhdnaa
/- Primes that are certified: both chains. -/
namespace Go.Proofs.Ytgfggkinmhhdnaa
open Go.RowKit
set_option linter.unusedVariables false
set_option linter.unusedSimpArgs false
def ss0 : List ByteArray := [⟨#[50, 48, 48, 49, 100]⟩, ⟨#[50, 50, 97, 49, 102, 54, 49, 49]⟩, ⟨#[52, 53, 52, 51, 101, 99, 50, 51]⟩]
def ns0 : List Int := [131101, 581039633, 1162079267]
theorem pr0_0 : PR [50, 48, 48, 49, 100] = .tuple #[NV 131101, .int .i64 0] := by kernel_rfl
theorem st0_0 : (⟨#[50, 48, 48, 49, 100]⟩ : ByteArray) = strOfNums [50, 48, 48, 49, 100] := by kernel_rfl
theorem pr0_1 : PR [50, 50, 97, 49, 102, 54, 49, 49] = .tuple #[NV 581039633, .int .i64 0] := by kernel_rfl
theorem st0_1 : (⟨#[50, 50, 97, 49, 102, 54, 49, 49]⟩ : ByteArray) = strOfNums [50, 50, 97, 49, 102, 54, 49, 49] := by kernel_rfl
theorem pr0_2 : PR [52, 53, 52, 51, 101, 99, 50, 51] = .tuple #[NV 1162079267, .int .i64 0] := by kernel_rfl
theorem st0_2 : (⟨#[52, 53, 52, 51, 101, 99, 50, 51]⟩ : ByteArray) = strOfNums [52, 53, 52, 51, 101, 99, 50, 51] := by kernel_rfl
theorem cps0 : ∀ j, j < ss0.length → ∀ u, Calls Try.prog 74 #[.string (ss0.getD j ByteArray.empty)] u fun e u' => e = .returned (.tuple #[NV (ns0.getD j 0), .int .i64 0]) ∧ Below u.heap.size u u' := fun j hj u => by
  have hj : j < 3 := hj
  rcases (by omega : j = 0 ∨ j = 1 ∨ j = 2) with rfl | rfl | rfl
  · show Calls Try.prog 74 #[.string ⟨#[50, 48, 48, 49, 100]⟩] u fun e u' => e = .returned (.tuple #[NV 131101, .int .i64 0]) ∧ Below u.heap.size u u'
    rw [st0_0, ← pr0_0]; exact Parse_all _ (by unfold Bytes8; decide) (by decide) u
  · show Calls Try.prog 74 #[.string ⟨#[50, 50, 97, 49, 102, 54, 49, 49]⟩] u fun e u' => e = .returned (.tuple #[NV 581039633, .int .i64 0]) ∧ Below u.heap.size u u'
    rw [st0_1, ← pr0_1]; exact Parse_all _ (by unfold Bytes8; decide) (by decide) u
  · show Calls Try.prog 74 #[.string ⟨#[52, 53, 52, 51, 101, 99, 50, 51]⟩] u fun e u' => e = .returned (.tuple #[NV 1162079267, .int .i64 0]) ∧ Below u.heap.size u u'
    rw [st0_2, ← pr0_2]; exact Parse_all _ (by unfold Bytes8; decide) (by decide) u
theorem xps0 : ∀ j, j < ss0.length → ∀ u, Calls Try.prog 43 #[.string (ss0.getD j ByteArray.empty)] u fun e u' => e = .returned (.tuple #[NV (ns0.getD j 0), .int .i64 0]) ∧ Below u.heap.size u u' := fun j hj u => by
  have hj : j < 3 := hj
  rcases (by omega : j = 0 ∨ j = 1 ∨ j = 2) with rfl | rfl | rfl
  · show Calls Try.prog 43 #[.string ⟨#[50, 48, 48, 49, 100]⟩] u fun e u' => e = .returned (.tuple #[NV 131101, .int .i64 0]) ∧ Below u.heap.size u u'
    rw [st0_0, ← pr0_0]; exact rParse_all _ (by unfold Bytes8; decide) (by decide) u
  · show Calls Try.prog 43 #[.string ⟨#[50, 50, 97, 49, 102, 54, 49, 49]⟩] u fun e u' => e = .returned (.tuple #[NV 581039633, .int .i64 0]) ∧ Below u.heap.size u u'
    rw [st0_1, ← pr0_1]; exact rParse_all _ (by unfold Bytes8; decide) (by decide) u
  · show Calls Try.prog 43 #[.string ⟨#[52, 53, 52, 51, 101, 99, 50, 51]⟩] u fun e u' => e = .returned (.tuple #[NV 1162079267, .int .i64 0]) ∧ Below u.heap.size u u'
    rw [st0_2, ← pr0_2]; exact rParse_all _ (by unfold Bytes8; decide) (by decide) u
def ss1 : List ByteArray := [⟨#[101, 55, 102, 52, 51]⟩, ⟨#[50, 52, 49, 99, 102, 56, 51, 48, 97, 51]⟩, ⟨#[50, 49, 97, 52, 100, 99, 98, 56, 99, 101, 99, 50, 99, 102, 48, 101, 97, 56, 51]⟩, ⟨#[50, 49, 52, 97, 99, 52, 49, 56, 101, 56, 101, 100, 101, 56, 53, 48, 50, 56, 55, 56, 53, 53, 101, 55, 53, 101, 102, 53, 53, 48, 49, 57, 97, 57, 56, 101, 51]⟩, ⟨#[50, 48, 102, 97, 51, 48, 48, 53, 52, 98, 57, 52, 99, 100, 51, 56, 98, 53, 54, 49, 57, 98, 53, 53, 55, 50, 51, 52, 102, 49, 97, 56, 97, 53, 55, 56, 55, 100, 55, 48, 98, 56, 57, 48, 51, 54, 53, 102, 54, 49, 55, 56, 55, 53, 102, 55, 52, 99, 52, 100, 51, 99, 100, 100]⟩, ⟨#[52, 49, 102, 52, 54, 48, 48, 97, 57, 55, 50, 57, 57, 97, 55, 49, 54, 97, 99, 51, 51, 54, 97, 97, 101, 52, 54, 57, 101, 51, 53, 49, 52, 97, 102, 48, 102, 97, 101, 49, 55, 49, 50, 48, 54, 99, 98, 101, 99, 50, 102, 48, 101, 98, 101, 101, 57, 56, 57, 97, 55, 57, 98, 98]⟩]
def ns1 : List Int := [950083, 155104850083, 9929954040762925640323, 46402351822830464543557718426643478236272867, 14916054347443135115184093201281105342435181682673909877234428180277224094941, 29832108694886270230368186402562210684870363365347819754468856360554448189883]
theorem pr1_0 : PR [101, 55, 102, 52, 51] = .tuple #[NV 950083, .int .i64 0] := by kernel_rfl
theorem st1_0 : (⟨#[101, 55, 102, 52, 51]⟩ : ByteArray) = strOfNums [101, 55, 102, 52, 51] := by kernel_rfl
theorem pr1_1 : PR [50, 52, 49, 99, 102, 56, 51, 48, 97, 51] = .tuple #[NV 155104850083, .int .i64 0] := by kernel_rfl
theorem st1_1 : (⟨#[50, 52, 49, 99, 102, 56, 51, 48, 97, 51]⟩ : ByteArray) = strOfNums [50, 52, 49, 99, 102, 56, 51, 48, 97, 51] := by kernel_rfl
theorem pr1_2 : PR [50, 49, 97, 52, 100, 99, 98, 56, 99, 101, 99, 50, 99, 102, 48, 101, 97, 56, 51] = .tuple #[NV 9929954040762925640323, .int .i64 0] := by kernel_rfl
theorem st1_2 : (⟨#[50, 49, 97, 52, 100, 99, 98, 56, 99, 101, 99, 50, 99, 102, 48, 101, 97, 56, 51]⟩ : ByteArray) = strOfNums [50, 49, 97, 52, 100, 99, 98, 56, 99, 101, 99, 50, 99, 102, 48, 101, 97, 56, 51] := by kernel_rfl
theorem pr1_3 : PR [50, 49, 52, 97, 99, 52, 49, 56, 101, 56, 101, 100, 101, 56, 53, 48, 50, 56, 55, 56, 53, 53, 101, 55, 53, 101, 102, 53, 53, 48, 49, 57, 97, 57, 56, 101, 51] = .tuple #[NV 46402351822830464543557718426643478236272867, .int .i64 0] := by kernel_rfl
theorem st1_3 : (⟨#[50, 49, 52, 97, 99, 52, 49, 56, 101, 56, 101, 100, 101, 56, 53, 48, 50, 56, 55, 56, 53, 53, 101, 55, 53, 101, 102, 53, 53, 48, 49, 57, 97, 57, 56, 101, 51]⟩ : ByteArray) = strOfNums [50, 49, 52, 97, 99, 52, 49, 56, 101, 56, 101, 100, 101, 56, 53, 48, 50, 56, 55, 56, 53, 53, 101, 55, 53, 101, 102, 53, 53, 48, 49, 57, 97, 57, 56, 101, 51] := by kernel_rfl
theorem pr1_4 : PR [50, 48, 102, 97, 51, 48, 48, 53, 52, 98, 57, 52, 99, 100, 51, 56, 98, 53, 54, 49, 57, 98, 53, 53, 55, 50, 51, 52, 102, 49, 97, 56, 97, 53, 55, 56, 55, 100, 55, 48, 98, 56, 57, 48, 51, 54, 53, 102, 54, 49, 55, 56, 55, 53, 102, 55, 52, 99, 52, 100, 51, 99, 100, 100] = .tuple #[NV 14916054347443135115184093201281105342435181682673909877234428180277224094941, .int .i64 0] := by kernel_rfl
theorem st1_4 : (⟨#[50, 48, 102, 97, 51, 48, 48, 53, 52, 98, 57, 52, 99, 100, 51, 56, 98, 53, 54, 49, 57, 98, 53, 53, 55, 50, 51, 52, 102, 49, 97, 56, 97, 53, 55, 56, 55, 100, 55, 48, 98, 56, 57, 48, 51, 54, 53, 102, 54, 49, 55, 56, 55, 53, 102, 55, 52, 99, 52, 100, 51, 99, 100, 100]⟩ : ByteArray) = strOfNums [50, 48, 102, 97, 51, 48, 48, 53, 52, 98, 57, 52, 99, 100, 51, 56, 98, 53, 54, 49, 57, 98, 53, 53, 55, 50, 51, 52, 102, 49, 97, 56, 97, 53, 55, 56, 55, 100, 55, 48, 98, 56, 57, 48, 51, 54, 53, 102, 54, 49, 55, 56, 55, 53, 102, 55, 52, 99, 52, 100, 51, 99, 100, 100] := by kernel_rfl
theorem pr1_5 : PR [52, 49, 102, 52, 54, 48, 48, 97, 57, 55, 50, 57, 57, 97, 55, 49, 54, 97, 99, 51, 51, 54, 97, 97, 101, 52, 54, 57, 101, 51, 53, 49, 52, 97, 102, 48, 102, 97, 101, 49, 55, 49, 50, 48, 54, 99, 98, 101, 99, 50, 102, 48, 101, 98, 101, 101, 57, 56, 57, 97, 55, 57, 98, 98] = .tuple #[NV 29832108694886270230368186402562210684870363365347819754468856360554448189883, .int .i64 0] := by kernel_rfl
theorem st1_5 : (⟨#[52, 49, 102, 52, 54, 48, 48, 97, 57, 55, 50, 57, 57, 97, 55, 49, 54, 97, 99, 51, 51, 54, 97, 97, 101, 52, 54, 57, 101, 51, 53, 49, 52, 97, 102, 48, 102, 97, 101, 49, 55, 49, 50, 48, 54, 99, 98, 101, 99, 50, 102, 48, 101, 98, 101, 101, 57, 56, 57, 97, 55, 57, 98, 98]⟩ : ByteArray) = strOfNums [52, 49, 102, 52, 54, 48, 48, 97, 57, 55, 50, 57, 57, 97, 55, 49, 54, 97, 99, 51, 51, 54, 97, 97, 101, 52, 54, 57, 101, 51, 53, 49, 52, 97, 102, 48, 102, 97, 101, 49, 55, 49, 50, 48, 54, 99, 98, 101, 99, 50, 102, 48, 101, 98, 101, 101, 57, 56, 57, 97, 55, 57, 98, 98] := by kernel_rfl
theorem cps1 : ∀ j, j < ss1.length → ∀ u, Calls Try.prog 74 #[.string (ss1.getD j ByteArray.empty)] u fun e u' => e = .returned (.tuple #[NV (ns1.getD j 0), .int .i64 0]) ∧ Below u.heap.size u u' := fun j hj u => by
  have hj : j < 6 := hj
  rcases (by omega : j = 0 ∨ j = 1 ∨ j = 2 ∨ j = 3 ∨ j = 4 ∨ j = 5) with rfl | rfl | rfl | rfl | rfl | rfl
  · show Calls Try.prog 74 #[.string ⟨#[101, 55, 102, 52, 51]⟩] u fun e u' => e = .returned (.tuple #[NV 950083, .int .i64 0]) ∧ Below u.heap.size u u'
    rw [st1_0, ← pr1_0]; exact Parse_all _ (by unfold Bytes8; decide) (by decide) u
  · show Calls Try.prog 74 #[.string ⟨#[50, 52, 49, 99, 102, 56, 51, 48, 97, 51]⟩] u fun e u' => e = .returned (.tuple #[NV 155104850083, .int .i64 0]) ∧ Below u.heap.size u u'
    rw [st1_1, ← pr1_1]; exact Parse_all _ (by unfold Bytes8; decide) (by decide) u
  · show Calls Try.prog 74 #[.string ⟨#[50, 49, 97, 52, 100, 99, 98, 56, 99, 101, 99, 50, 99, 102, 48, 101, 97, 56, 51]⟩] u fun e u' => e = .returned (.tuple #[NV 9929954040762925640323, .int .i64 0]) ∧ Below u.heap.size u u'
    rw [st1_2, ← pr1_2]; exact Parse_all _ (by unfold Bytes8; decide) (by decide) u
  · show Calls Try.prog 74 #[.string ⟨#[50, 49, 52, 97, 99, 52, 49, 56, 101, 56, 101, 100, 101, 56, 53, 48, 50, 56, 55, 56, 53, 53, 101, 55, 53, 101, 102, 53, 53, 48, 49, 57, 97, 57, 56, 101, 51]⟩] u fun e u' => e = .returned (.tuple #[NV 46402351822830464543557718426643478236272867, .int .i64 0]) ∧ Below u.heap.size u u'
    rw [st1_3, ← pr1_3]; exact Parse_all _ (by unfold Bytes8; decide) (by decide) u
  · show Calls Try.prog 74 #[.string ⟨#[50, 48, 102, 97, 51, 48, 48, 53, 52, 98, 57, 52, 99, 100, 51, 56, 98, 53, 54, 49, 57, 98, 53, 53, 55, 50, 51, 52, 102, 49, 97, 56, 97, 53, 55, 56, 55, 100, 55, 48, 98, 56, 57, 48, 51, 54, 53, 102, 54, 49, 55, 56, 55, 53, 102, 55, 52, 99, 52, 100, 51, 99, 100, 100]⟩] u fun e u' => e = .returned (.tuple #[NV 14916054347443135115184093201281105342435181682673909877234428180277224094941, .int .i64 0]) ∧ Below u.heap.size u u'
    rw [st1_4, ← pr1_4]; exact Parse_all _ (by unfold Bytes8; decide) (by decide) u
  · show Calls Try.prog 74 #[.string ⟨#[52, 49, 102, 52, 54, 48, 48, 97, 57, 55, 50, 57, 57, 97, 55, 49, 54, 97, 99, 51, 51, 54, 97, 97, 101, 52, 54, 57, 101, 51, 53, 49, 52, 97, 102, 48, 102, 97, 101, 49, 55, 49, 50, 48, 54, 99, 98, 101, 99, 50, 102, 48, 101, 98, 101, 101, 57, 56, 57, 97, 55, 57, 98, 98]⟩] u fun e u' => e = .returned (.tuple #[NV 29832108694886270230368186402562210684870363365347819754468856360554448189883, .int .i64 0]) ∧ Below u.heap.size u u'
    rw [st1_5, ← pr1_5]; exact Parse_all _ (by unfold Bytes8; decide) (by decide) u
theorem xps1 : ∀ j, j < ss1.length → ∀ u, Calls Try.prog 43 #[.string (ss1.getD j ByteArray.empty)] u fun e u' => e = .returned (.tuple #[NV (ns1.getD j 0), .int .i64 0]) ∧ Below u.heap.size u u' := fun j hj u => by
  have hj : j < 6 := hj
  rcases (by omega : j = 0 ∨ j = 1 ∨ j = 2 ∨ j = 3 ∨ j = 4 ∨ j = 5) with rfl | rfl | rfl | rfl | rfl | rfl
  · show Calls Try.prog 43 #[.string ⟨#[101, 55, 102, 52, 51]⟩] u fun e u' => e = .returned (.tuple #[NV 950083, .int .i64 0]) ∧ Below u.heap.size u u'
    rw [st1_0, ← pr1_0]; exact rParse_all _ (by unfold Bytes8; decide) (by decide) u
  · show Calls Try.prog 43 #[.string ⟨#[50, 52, 49, 99, 102, 56, 51, 48, 97, 51]⟩] u fun e u' => e = .returned (.tuple #[NV 155104850083, .int .i64 0]) ∧ Below u.heap.size u u'
    rw [st1_1, ← pr1_1]; exact rParse_all _ (by unfold Bytes8; decide) (by decide) u
  · show Calls Try.prog 43 #[.string ⟨#[50, 49, 97, 52, 100, 99, 98, 56, 99, 101, 99, 50, 99, 102, 48, 101, 97, 56, 51]⟩] u fun e u' => e = .returned (.tuple #[NV 9929954040762925640323, .int .i64 0]) ∧ Below u.heap.size u u'
    rw [st1_2, ← pr1_2]; exact rParse_all _ (by unfold Bytes8; decide) (by decide) u
  · show Calls Try.prog 43 #[.string ⟨#[50, 49, 52, 97, 99, 52, 49, 56, 101, 56, 101, 100, 101, 56, 53, 48, 50, 56, 55, 56, 53, 53, 101, 55, 53, 101, 102, 53, 53, 48, 49, 57, 97, 57, 56, 101, 51]⟩] u fun e u' => e = .returned (.tuple #[NV 46402351822830464543557718426643478236272867, .int .i64 0]) ∧ Below u.heap.size u u'
    rw [st1_3, ← pr1_3]; exact rParse_all _ (by unfold Bytes8; decide) (by decide) u
  · show Calls Try.prog 43 #[.string ⟨#[50, 48, 102, 97, 51, 48, 48, 53, 52, 98, 57, 52, 99, 100, 51, 56, 98, 53, 54, 49, 57, 98, 53, 53, 55, 50, 51, 52, 102, 49, 97, 56, 97, 53, 55, 56, 55, 100, 55, 48, 98, 56, 57, 48, 51, 54, 53, 102, 54, 49, 55, 56, 55, 53, 102, 55, 52, 99, 52, 100, 51, 99, 100, 100]⟩] u fun e u' => e = .returned (.tuple #[NV 14916054347443135115184093201281105342435181682673909877234428180277224094941, .int .i64 0]) ∧ Below u.heap.size u u'
    rw [st1_4, ← pr1_4]; exact rParse_all _ (by unfold Bytes8; decide) (by decide) u
  · show Calls Try.prog 43 #[.string ⟨#[52, 49, 102, 52, 54, 48, 48, 97, 57, 55, 50, 57, 57, 97, 55, 49, 54, 97, 99, 51, 51, 54, 97, 97, 101, 52, 54, 57, 101, 51, 53, 49, 52, 97, 102, 48, 102, 97, 101, 49, 55, 49, 50, 48, 54, 99, 98, 101, 99, 50, 102, 48, 101, 98, 101, 101, 57, 56, 57, 97, 55, 57, 98, 98]⟩] u fun e u' => e = .returned (.tuple #[NV 29832108694886270230368186402562210684870363365347819754468856360554448189883, .int .i64 0]) ∧ Below u.heap.size u u'
    rw [st1_5, ← pr1_5]; exact rParse_all _ (by unfold Bytes8; decide) (by decide) u
theorem CV.nil (u : World) (b : Nat) : CV u b [] := fun j v hj => by simp at hj
theorem bsS3 (a b c : ByteArray) (w : World) : (Instr.buildSlice 74 3 ([0, 1, 2].zip [.string a, .string b, .string c]).toArray).run Try.prog w = .ok (.slice (some ⟨w.heap.size, 0, none⟩) 3 3) (w.alloc (.cells ([a, b, c].map Value.string).toArray 9)) := by kernel_rfl
theorem bsS6 (a b c d e f : ByteArray) (w : World) : (Instr.buildSlice 74 6 ([0, 1, 2, 3, 4, 5].zip [.string a, .string b, .string c, .string d, .string e, .string f]).toArray).run Try.prog w = .ok (.slice (some ⟨w.heap.size, 0, none⟩) 6 6) (w.alloc (.cells ([a, b, c, d, e, f].map Value.string).toArray 9)) := by kernel_rfl
theorem bsC0 (w : World) : (Instr.buildSlice 31 0 #[]).run Try.prog w = .ok (.slice (some ⟨w.heap.size, 0, none⟩) 0 0) (w.alloc (.cells #[] 26)) := by kernel_rfl
theorem bdX (x : Int) (h0 : 0 ≤ x) (h1 : x < 18446744073709551616) (w : World) : (Instr.build 24 [(0, .int .u64 x)].toArray).run Try.prog w = .ok (NV x) w := by
  rw [NV_small h0 h1]; kernel_rfl
set_option maxRecDepth 100000 in
set_option maxHeartbeats 4000000 in
theorem cPrimes1 (w : World) : Calls Try.prog 42 #[.int .i64 1] w fun e w' => ∃ v, e = .returned v ∧ PS w.heap.size 6 (flN ns1) w' v ∧ Below w.heap.size w w' := by
  go_enter Try.func42, Try.ntmps42
  have HB0 : Below w.heap.size w w := Below.refl _ _
  have K0_1 := Bk.nil (w.heap.size) w
  go_upto_region 1 with fail
  refine rgP K0_1 HB0 HB0.size [] [] [(0, 3, .int .i64 1)] [] [] [] ?_ ?_
  · exact oc g_mv on
  intro u1 HB1 sz1 K1
  simp only [fX, nK, nP, Wr.f, aK, pM] at K1
  simp only [setG, setN, List.set_cons_zero, List.set_cons_succ]
  clear HB0
  go_upto_region 2 with fail
  refine rgP K1 HB1 HB1.size [] [] [(0, 5, .bool false), (1, 4, .bool false)] [] [] [] ?_ ?_
  · refine oc (g_bn (fun uZ => eql_i _ _ _ 1 0 _ uZ rfl)) ?_
    exact oc g_as on
  intro u2 HB2 sz2 K2
  simp only [fX, nK, nP, Wr.f, aK, pM] at K2
  simp only [setG, setN, List.set_cons_zero, List.set_cons_succ]
  clear K1 HB1
  go_upto_region 4 with fail
  refine rgP K2 HB2 HB2.size [] [] [(0, 11, .bool true), (1, 10, .bool true)] [] [] [] ?_ ?_
  · refine oc (g_bn (fun uZ => eql_i _ _ _ 1 1 _ uZ rfl)) ?_
    exact oc g_as on
  intro u3 HB3 sz3 K3
  simp only [fX, nK, nP, Wr.f, aK, pM] at K3
  simp only [setG, setN, List.set_cons_zero, List.set_cons_succ]
  clear K2 HB2
  go_upto_region 5 with fail
  refine rgF K3 HB3 HB3.size [] [] [] [] [] [⟨0, 12, some 1, PS u3.heap.size 6 (ss1.map Value.string)⟩, ⟨1, 13, some 2, PS u3.heap.size 6 (flN ns1)⟩, ⟨2, 2, none, PS u3.heap.size 6 (flN ns1)⟩] [] (.cons (fun _ _ _ h1 h2 => h2.stab h1) <| .cons (fun _ _ _ h1 h2 => h2.stab h1) <| .cons (fun _ _ _ h1 h2 => h2.stab h1) <| Stab.nil) ?_ ?_
  · refine oc (g_bR 0 (PS u3.heap.size 6 (ss1.map Value.string)) [0, 1, 2, 3, 4, 5] [.string ⟨#[101, 55, 102, 52, 51]⟩, .string ⟨#[50, 52, 49, 99, 102, 56, 51, 48, 97, 51]⟩, .string ⟨#[50, 49, 97, 52, 100, 99, 98, 56, 99, 101, 99, 50, 99, 102, 48, 101, 97, 56, 51]⟩, .string ⟨#[50, 49, 52, 97, 99, 52, 49, 56, 101, 56, 101, 100, 101, 56, 53, 48, 50, 56, 55, 56, 53, 53, 101, 55, 53, 101, 102, 53, 53, 48, 49, 57, 97, 57, 56, 101, 51]⟩, .string ⟨#[50, 48, 102, 97, 51, 48, 48, 53, 52, 98, 57, 52, 99, 100, 51, 56, 98, 53, 54, 49, 57, 98, 53, 53, 55, 50, 51, 52, 102, 49, 97, 56, 97, 53, 55, 56, 55, 100, 55, 48, 98, 56, 57, 48, 51, 54, 53, 102, 54, 49, 55, 56, 55, 53, 102, 55, 52, 99, 52, 100, 51, 99, 100, 100]⟩, .string ⟨#[52, 49, 102, 52, 54, 48, 48, 97, 57, 55, 50, 57, 57, 97, 55, 49, 54, 97, 99, 51, 51, 54, 97, 97, 101, 52, 54, 57, 101, 51, 53, 49, 52, 97, 102, 48, 102, 97, 101, 49, 55, 49, 50, 48, 54, 99, 98, 101, 99, 50, 102, 48, 101, 98, 101, 101, 57, 56, 57, 97, 55, 57, 98, 98]⟩] (ss1.map Value.string) (bsS6 _ _ _ _ _ _) (fun u hu => PS.new 6 _ _ u hu)) ?_
    refine oc (g_cF 0 1 (PS u3.heap.size 6 (ss1.map Value.string)) (PS u3.heap.size 6 (flN ns1)) ent_cert_parsed (fun u y hB hs h => by obtain ⟨b, cap, rfl, _, hlt, _, hcv⟩ := h; exact (cParsed ss1 ns1 b cap u rfl (by decide) (by decide) hlt hcv cps1).mono fun e u2 ⟨v, e1, h1, h2⟩ => ⟨v, e1, h1.mono hs, h2⟩)) ?_
    exact oc (g_sE 1 2 (PS u3.heap.size 6 (flN ns1))) on
  intro u4 v4_0 hv4_0 v4_1 hv4_1 v4_2 hv4_2 HB4 sz4 K4
  simp only [fX, nK, nP, Wr.f, aK, pM] at K4
  simp only [setG, setN, setE, List.set_cons_zero, List.set_cons_succ]
  clear K3 HB3
  have hP := hv4_2 rfl
  go_wp2
  refine bodyPost_ret (v := v4_2) (by simp [results, Try.results42, go_sem]) rfl ⟨_, rfl, hP.mono (by omega), HB4⟩
set_option maxRecDepth 100000 in
set_option maxHeartbeats 4000000 in
theorem cPrimes_bad (k : Int) (w : World) (k0 : (k == 0) = false) (k1 : (k == 1) = false) : Calls Try.prog 42 #[.int .i64 k] w fun e w' => e = .returned (.slice none 0 0) ∧ Below w.heap.size w w' := by
  go_enter Try.func42, Try.ntmps42
  have HB0 : Below w.heap.size w w := Below.refl _ _
  have K0_1 := Bk.nil (w.heap.size) w
  go_upto_region 1 with fail
  refine rgP K0_1 HB0 HB0.size [] [] [(0, 3, .int .i64 k)] [] [] [] ?_ ?_
  · exact oc g_mv on
  intro u1 HB1 sz1 K1
  simp only [fX, nK, nP, Wr.f, aK, pM] at K1
  simp only [setG, setN, List.set_cons_zero, List.set_cons_succ]
  clear HB0
  go_upto_region 2 with fail
  refine rgP K1 HB1 HB1.size [] [] [(0, 5, .bool false), (1, 4, .bool false)] [] [] [] ?_ ?_
  · refine oc (g_bn (fun uZ => eql_i _ _ _ k 0 _ uZ k0)) ?_
    exact oc g_as on
  intro u2 HB2 sz2 K2
  simp only [fX, nK, nP, Wr.f, aK, pM] at K2
  simp only [setG, setN, List.set_cons_zero, List.set_cons_succ]
  clear K1 HB1
  go_upto_region 4 with fail
  refine rgP K2 HB2 HB2.size [] [] [(0, 11, .bool false), (1, 10, .bool false)] [] [] [] ?_ ?_
  · refine oc (g_bn (fun uZ => eql_i _ _ _ k 1 _ uZ k1)) ?_
    exact oc g_as on
  intro u3 HB3 sz3 K3
  simp only [fX, nK, nP, Wr.f, aK, pM] at K3
  simp only [setG, setN, List.set_cons_zero, List.set_cons_succ]
  clear K2 HB2
  go_upto_region 6 with fail
  refine rgP K3 HB3 HB3.size [] [] [(0, 2, (Go.Value.slice Option.none 0 0))] [] [] [] ?_ ?_
  · exact oc g_as on
  intro u4 HB4 sz4 K4
  simp only [fX, nK, nP, Wr.f, aK, pM] at K4
  simp only [setG, setN, List.set_cons_zero, List.set_cons_succ]
  clear K3 HB3
  go_wp2
  refine bodyPost_ret (v := .slice none 0 0) (by simp [results, Try.results42, go_sem, ]) rfl ⟨rfl, HB4⟩
set_option maxRecDepth 100000 in
set_option maxHeartbeats 4000000 in
theorem cChain_bad (k : Int) (w : World) (k0 : (k == 0) = false) (k1 : (k == 1) = false) : Calls Try.prog 25 #[.int .i64 k] w fun e w' => e = .returned (.tuple #[.slice none 0 0, .int .i64 2]) ∧ Below w.heap.size w w' := by
  go_enter Try.func25, Try.ntmps25
  have HB0 : Below w.heap.size w w := Below.refl _ _
  have K0_1 := Bk.nil (w.heap.size) w
  go_upto_region 1 with fail
  refine rgP K0_1 HB0 HB0.size [] [] [(0, 8, .int .i64 k), (1, 9, .slice none 0 0), (2, 4, .slice none 0 0)] [] [] [] ?_ ?_
  · refine oc g_mv ?_
    refine oc (g_cl ent_cert_primes (fun uZ => cPrimes_bad k uZ k0 k1)) ?_
    exact oc g_as on
  intro u1 HB1 sz1 K1
  simp only [fX, nK, nP, Wr.f, aK, pM] at K1
  simp only [setG, setN, List.set_cons_zero, List.set_cons_succ]
  clear HB0
  go_upto_region 2 with fail
  refine rgP K1 HB1 HB1.size [] [] [(0, 10, .slice none 0 0), (1, 11, .int .i64 0), (2, 12, .bool true)] [] [] [] ?_ ?_
  · refine oc g_mv ?_
    refine oc (g_ln Try.underlying72) ?_
    exact oc (g_bn (fun uZ => eql_i _ _ _ 0 0 _ uZ rfl)) on
  intro u2 HB2 sz2 K2
  simp only [fX, nK, nP, Wr.f, aK, pM] at K2
  simp only [setG, setN, List.set_cons_zero, List.set_cons_succ]
  clear K1 HB1
  go_upto_region 3 with fail
  refine rgP K2 HB2 HB2.size [] [] [(0, 2, (Go.Value.slice Option.none 0 0)), (1, 3, (Go.Value.int Go.IntKind.i64 2))] [] [] [] ?_ ?_
  · refine oc g_as ?_
    exact oc g_as on
  intro u3 HB3 sz3 K3
  simp only [fX, nK, nP, Wr.f, aK, pM] at K3
  simp only [setG, setN, List.set_cons_zero, List.set_cons_succ]
  clear K2 HB2
  go_wp2
  refine bodyPost_ret (v := .tuple #[.slice none 0 0, .int .i64 2]) (by simp [results, Try.results25, go_sem, ]) rfl ⟨rfl, HB3⟩
set_option maxRecDepth 100000 in
set_option maxHeartbeats 4000000 in
theorem cNumbers_bad (k : Int) (w : World) (k0 : (k == 0) = false) (k1 : (k == 1) = false) : Calls Try.prog 27 #[.int .i64 k] w fun e w' => e = .returned (.tuple #[A4 0 0 0 0, A4 0 0 0 0, .int .i64 2]) ∧ Below w.heap.size w w' := by
  go_enter Try.func27, Try.ntmps27
  go_upto_region 1 with fail
  generalize hC : ((w.alloc (.cells (L0s : List Value).toArray 24)).alloc (.cells (L0s : List Value).toArray 24)) = v0 at *
  have HB0 : Below w.heap.size w v0 := by rw [← hC]; exact balloc (balloc (bself w) _) _
  have K0 : Bk w.heap.size v0 [(true, w.heap.size, L0s), (true, w.heap.size + 1, L0s)] := by rw [← hC]; exact (Bk.nil _ w).ad.ad
  clear hC
  refine rgP K0 HB0 HB0.size [] [] [(0, 6, .int .i64 k), (1, 7, .slice none 0 0), (2, 5, .slice none 0 0)] [] [] [] ?_ ?_
  · refine oc g_mv ?_
    refine oc (g_cl ent_cert_primes (fun uZ => cPrimes_bad k uZ k0 k1)) ?_
    exact oc g_as on
  intro u1 HB1 sz1 K1
  simp only [fX, nK, nP, Wr.f, aK, pM] at K1
  simp only [setG, setN, List.set_cons_zero, List.set_cons_succ]
  clear K0 HB0
  go_upto_region 2 with fail
  refine rgP K1 HB1 HB1.size [] [] [(0, 8, .slice none 0 0), (1, 9, .int .i64 0), (2, 10, .bool true)] [] [] [] ?_ ?_
  · refine oc g_mv ?_
    refine oc (g_ln Try.underlying72) ?_
    exact oc (g_bn (fun uZ => eql_i _ _ _ 0 0 _ uZ rfl)) on
  intro u2 HB2 sz2 K2
  simp only [fX, nK, nP, Wr.f, aK, pM] at K2
  simp only [setG, setN, List.set_cons_zero, List.set_cons_succ]
  clear K1 HB1
  go_upto_region 3 with fail
  refine rgP K2 HB2 HB2.size [.all 2 ([.int .u64 (0), .int .u64 (0), .int .u64 (0), .int .u64 (0)]), .all 3 ([.int .u64 (0), .int .u64 (0), .int .u64 (0), .int .u64 (0)])] [] [(0, 11, A4 (0) (0) (0) (0)), (1, 12, A4 (0) (0) (0) (0)), (4, 4, (Go.Value.int Go.IntKind.i64 2))] [] [] [] ?_ ?_
  · refine oc (g_bd zN) ?_
    refine oc (g_bd zN) ?_
    refine oc (g_st 0 iN) ?_
    refine oc (g_st 1 iN) ?_
    exact oc g_as on
  intro u3 HB3 sz3 K3
  simp only [fX, nK, nP, Wr.f, aK, pM] at K3
  simp only [setG, setN, List.set_cons_zero, List.set_cons_succ]
  clear K2 HB2
  have c2_0 := ((K3.cv 0) 0 _ rfl).1
  have c2_1 := ((K3.cv 0) 1 _ rfl).1
  have c2_2 := ((K3.cv 0) 2 _ rfl).1
  have c2_3 := ((K3.cv 0) 3 _ rfl).1
  have c3_0 := ((K3.cv 1) 0 _ rfl).1
  have c3_1 := ((K3.cv 1) 1 _ rfl).1
  have c3_2 := ((K3.cv 1) 2 _ rfl).1
  have c3_3 := ((K3.cv 1) 3 _ rfl).1
  go_wp2
  refine bodyPost_ret (v := .tuple #[A4 0 0 0 0, A4 0 0 0 0, .int .i64 2]) (by simp [results, Try.results27, go_sem, c2_0, c2_1, c2_2, c2_3, c3_0, c3_1, c3_2, c3_3]) rfl ⟨rfl, HB3⟩
set_option maxRecDepth 100000 in
set_option maxHeartbeats 4000000 in
theorem xChain_bad (k : Int) (w : World) (k0 : (k == 0) = false) (k1 : (k == 1) = false) : Calls Try.prog 26 #[.int .i64 k] w fun e w' => e = .returned (.tuple #[.slice none 0 0, .int .i64 2]) ∧ Below w.heap.size w w' := by
  go_enter Try.func26, Try.ntmps26
  have HB0 : Below w.heap.size w w := Below.refl _ _
  have K0_1 := Bk.nil (w.heap.size) w
  go_upto_region 1 with fail
  refine rgF K0_1 HB0 HB0.size [] [] [] [] [] [⟨0, 11, some 1, PS w.heap.size 3 (ss0.map Value.string)⟩, ⟨1, 4, none, PS w.heap.size 3 (ss0.map Value.string)⟩] [] (.cons (fun _ _ _ h1 h2 => h2.stab h1) <| .cons (fun _ _ _ h1 h2 => h2.stab h1) <| Stab.nil) ?_ ?_
  · refine oc (g_bR 0 (PS w.heap.size 3 (ss0.map Value.string)) [0, 1, 2] [.string ⟨#[50, 48, 48, 49, 100]⟩, .string ⟨#[50, 50, 97, 49, 102, 54, 49, 49]⟩, .string ⟨#[52, 53, 52, 51, 101, 99, 50, 51]⟩] (ss0.map Value.string) (bsS3 _ _ _) (fun u hu => PS.new 3 _ _ u hu)) ?_
    exact oc (g_sE 0 1 (PS w.heap.size 3 (ss0.map Value.string))) on
  intro u1 v1_0 hv1_0 v1_1 hv1_1 HB1 sz1 K1
  simp only [fX, nK, nP, Wr.f, aK, pM] at K1
  simp only [setG, setN, setE, List.set_cons_zero, List.set_cons_succ]
  clear HB0
  obtain ⟨bS, cS, rfl, -⟩ := hv1_1 rfl
  go_upto_region 2 with fail
  refine rgP K1 HB1 HB1.size [] [] [(0, 12, .int .i64 k), (1, 13, .bool false)] [] [] [] ?_ ?_
  · refine oc g_mv ?_
    exact oc (g_bn (fun uZ => eql_i _ _ _ k 1 _ uZ k1)) on
  intro u2 HB2 sz2 K2
  simp only [fX, nK, nP, Wr.f, aK, pM] at K2
  simp only [setG, setN, List.set_cons_zero, List.set_cons_succ]
  clear K1 HB1
  obtain ⟨b1, e1⟩ : ∃ b, decide (k < 0) = b := ⟨_, rfl⟩
  cases b1
  · have e2 : decide (1 < k) = true := by simp at e1 k0 k1 ⊢; omega
    go_upto_region 4 with fail
    refine rgP K2 HB2 HB2.size [] [] [(0, 15, .int .i64 k), (1, 16, .bool false), (2, 17, .bool false), (3, 18, .int .i64 k), (4, 19, .bool true), (5, 20, .bool true)] [] [] [] ?_ ?_
    · refine oc g_mv ?_
      refine oc (g_bn (fun uZ => lss_i _ _ k 0 _ uZ e1)) ?_
      refine oc g_mv ?_
      refine oc g_mv ?_
      refine oc (g_bn (fun uZ => gtr_i _ _ k 1 _ uZ e2)) ?_
      exact oc g_pk on
    intro u3 HB3 sz3 K3
    simp only [fX, nK, nP, Wr.f, aK, pM] at K3
    simp only [setG, setN, List.set_cons_zero, List.set_cons_succ]
    clear K2 HB2
    go_upto_region 5 with fail
    refine rgP K3 HB3 HB3.size [] [] [(0, 2, (Go.Value.slice Option.none 0 0)), (1, 3, (Go.Value.int Go.IntKind.i64 2))] [] [] [] ?_ ?_
    · refine oc g_as ?_
      exact oc g_as on
    intro u4 HB4 sz4 K4
    simp only [fX, nK, nP, Wr.f, aK, pM] at K4
    simp only [setG, setN, List.set_cons_zero, List.set_cons_succ]
    clear K3 HB3
    go_wp2
    refine bodyPost_ret (v := .tuple #[.slice none 0 0, .int .i64 2]) (by simp [results, Try.results26, go_sem, ]) rfl ⟨rfl, HB4⟩
  · skip
    go_upto_region 4 with fail
    refine rgP K2 HB2 HB2.size [] [] [(0, 15, .int .i64 k), (1, 16, .bool true), (2, 17, .bool true), (3, 18, undef), (4, 19, undef), (5, 20, (Go.Value.bool Bool.true))] [] [] [] ?_ ?_
    · refine oc g_mv ?_
      refine oc (g_bn (fun uZ => lss_i _ _ k 0 _ uZ e1)) ?_
      refine oc g_mv ?_
      refine oc g_sk ?_
      refine oc g_sk ?_
      exact oc g_pk on
    intro u3 HB3 sz3 K3
    simp only [fX, nK, nP, Wr.f, aK, pM] at K3
    simp only [setG, setN, List.set_cons_zero, List.set_cons_succ]
    clear K2 HB2
    go_upto_region 5 with fail
    refine rgP K3 HB3 HB3.size [] [] [(0, 2, (Go.Value.slice Option.none 0 0)), (1, 3, (Go.Value.int Go.IntKind.i64 2))] [] [] [] ?_ ?_
    · refine oc g_as ?_
      exact oc g_as on
    intro u4 HB4 sz4 K4
    simp only [fX, nK, nP, Wr.f, aK, pM] at K4
    simp only [setG, setN, List.set_cons_zero, List.set_cons_succ]
    clear K3 HB3
    go_wp2
    refine bodyPost_ret (v := .tuple #[.slice none 0 0, .int .i64 2]) (by simp [results, Try.results26, go_sem, ]) rfl ⟨rfl, HB4⟩
set_option maxRecDepth 100000 in
set_option maxHeartbeats 4000000 in
theorem xChain0 (w : World) : Calls Try.prog 26 #[.int .i64 0] w fun e w' => ∃ v, e = .returned v ∧ PT 0 w.heap.size 2 (flC (stp ns0 2)) w' v ∧ Below w.heap.size w w' := by
  go_enter Try.func26, Try.ntmps26
  have HB0 : Below w.heap.size w w := Below.refl _ _
  have K0_1 := Bk.nil (w.heap.size) w
  go_upto_region 1 with fail
  refine rgF K0_1 HB0 HB0.size [] [] [] [] [] [⟨0, 11, some 1, PS w.heap.size 3 (ss0.map Value.string)⟩, ⟨1, 4, none, PS w.heap.size 3 (ss0.map Value.string)⟩] [] (.cons (fun _ _ _ h1 h2 => h2.stab h1) <| .cons (fun _ _ _ h1 h2 => h2.stab h1) <| Stab.nil) ?_ ?_
  · refine oc (g_bR 0 (PS w.heap.size 3 (ss0.map Value.string)) [0, 1, 2] [.string ⟨#[50, 48, 48, 49, 100]⟩, .string ⟨#[50, 50, 97, 49, 102, 54, 49, 49]⟩, .string ⟨#[52, 53, 52, 51, 101, 99, 50, 51]⟩] (ss0.map Value.string) (bsS3 _ _ _) (fun u hu => PS.new 3 _ _ u hu)) ?_
    exact oc (g_sE 0 1 (PS w.heap.size 3 (ss0.map Value.string))) on
  intro u1 v1_0 hv1_0 v1_1 hv1_1 HB1 sz1 K1
  simp only [fX, nK, nP, Wr.f, aK, pM] at K1
  simp only [setG, setN, setE, List.set_cons_zero, List.set_cons_succ]
  clear HB0
  obtain ⟨bS, cS, rfl, ho1, ho2, hcS, hoC⟩ := hv1_1 rfl
  have K1xstr := Bk.more3 K0_1 K1 ho1 ho2 hoC (by intro x hx; first | (simp at hx; done) | (simp at hx ⊢; omega))
  simp only [aK] at K1xstr
  clear K1
  go_upto_region 2 with fail
  refine rgP K1xstr HB1 HB1.size [] [] [(0, 12, .int .i64 0), (1, 13, .bool false)] [] [] [] ?_ ?_
  · refine oc g_mv ?_
    exact oc (g_bn (fun uZ => eql_i _ _ _ 0 1 _ uZ rfl)) on
  intro u2 HB2 sz2 K2
  simp only [fX, nK, nP, Wr.f, aK, pM] at K2
  simp only [setG, setN, List.set_cons_zero, List.set_cons_succ]
  clear HB1
  have hSw : w.heap.size ≤ bS := by omega
  go_upto_region 4 with fail
  refine rgP K2 HB2 HB2.size [] [] [(0, 15, .int .i64 0), (1, 16, .bool false), (2, 17, .bool false), (3, 18, .int .i64 0), (4, 19, .bool false), (5, 20, .bool false)] [] [] [] ?_ ?_
  · refine oc g_mv ?_
    refine oc (g_bn (fun uZ => lss_i _ _ 0 0 _ uZ rfl)) ?_
    refine oc g_mv ?_
    refine oc g_mv ?_
    refine oc (g_bn (fun uZ => gtr_i _ _ 0 1 _ uZ rfl)) ?_
    exact oc g_pk on
  intro u3 HB3 sz3 K3
  simp only [fX, nK, nP, Wr.f, aK, pM] at K3
  simp only [setG, setN, List.set_cons_zero, List.set_cons_succ]
  clear K2 HB2
  go_upto_region 6 with fail
  refine rgF K3 HB3 HB3.size [] [] [] [] [] [⟨0, 21, some 1, PZ u3.heap.size⟩, ⟨1, 5, none, PZ u3.heap.size⟩] [] (.cons (fun _ _ _ h1 h2 => h2.stab h1) <| .cons (fun _ _ _ h1 h2 => h2.stab h1) <| Stab.nil) ?_ ?_
  · refine oc (g_bs 0 (PZ u3.heap.size) bsC0 (fun u hu => PZ.new hu)) ?_
    exact oc (g_sE 0 1 (PZ u3.heap.size)) on
  intro u4 v4_0 hv4_0 v4_1 hv4_1 HB4 sz4 K4
  simp only [fX, nK, nP, Wr.f, aK, pM] at K4
  simp only [setG, setN, setE, List.set_cons_zero, List.set_cons_succ]
  clear HB3
  have hbSl := K3.lt 0
  obtain ⟨bz, rfl, ho1, ho2⟩ := hv4_1 rfl
  have K4xrow := Bk.more3 K3 K4 ho1 ho2 (CV.nil _ _) (by intro x hx; first | (simp at hx; done) | (simp at hx ⊢; omega))
  simp only [aK] at K4xrow
  clear K4
  have hb50 : w.heap.size ≤ bz := by omega
  have hb5S : bz ≠ bS := by omega
  go_upto_region 7 with fail
  refine rgP K4xrow HB4 HB4.size [] [] [(0, 6, (Go.Value.int Go.IntKind.i64 1))] [] [] [] ?_ ?_
  · exact oc g_as on
  intro u5 HB5 sz5 K5
  simp only [fX, nK, nP, Wr.f, aK, pM] at K5
  simp only [setG, setN, List.set_cons_zero, List.set_cons_succ]
  clear HB4
  go_wp2_with fail
  go_loopw [6, 5] (fun s6 s5 wr => ∃ (j : Nat), j ≤ 2 ∧ s6 = .int .i64 ((j + 1 : Nat) : Int) ∧ (∃ b cap zs, s5 = .slice (some ⟨b, 0, none⟩) j cap ∧ w.heap.size ≤ b ∧ b < wr.heap.size ∧ b ≠ bS ∧ j ≤ cap ∧ List.length (α := Value) zs = (cap - j) * 12 ∧ Hid (CV wr b (flC (stp ns0 j) ++ zs))) ∧ Below w.heap.size w wr ∧ Hid (CV wr bS (ss0.map Value.string)) ∧ bS < wr.heap.size) (fun s6 _ _ => 3 - (intOf s6).toNat)
  case atStart => exact ⟨0, by omega, rfl, ⟨bz, 0, [], rfl, hb50, (K5.lt 1), hb5S, Nat.le_refl _, rfl, (K5.cv 1)⟩, HB5, (K5.cv 0), (K5.lt 0)⟩
  case round =>
    obtain ⟨j, hj, rfl, hrow, HBr, hKL, hLr⟩ := hrel
    clear HB5
    have hwr := HBr.size
    obtain ⟨b5, c5, zs, rfl, hb5, hl5, hbl, hjc, hzl, hC5⟩ := hrow
    by_cases hjl : j < 2
    · have hl : decide (((j + 1 : Nat) : Int) < 3) = true := by simp; omega
      obtain ⟨y, ey⟩ : ∃ y, ns0.getD (j + 1) 0 = y := ⟨_, rfl⟩
      obtain ⟨z, ez⟩ : ∃ z, ns0.getD j 0 = z := ⟨_, rfl⟩
      obtain ⟨s, es⟩ : ∃ s, ss0.getD (j + 1) ByteArray.empty = s := ⟨_, rfl⟩
      obtain ⟨t, et⟩ : ∃ t, ss0.getD j ByteArray.empty = t := ⟨_, rfl⟩
      have hln : ss0.length = 3 := rfl
      have hCy := xps0 (j + 1) (by omega)
      have hCz := xps0 j (by omega)
      have hs := str_at ss0 (j + 1) (by omega)
      have ht := str_at ss0 j (by omega)
      have hf := flC_stp ns0 j
      have hsl := flC_len (stp ns0 j)
      rw [stp_len] at hsl
      rw [ey] at hCy hf
      rw [ez] at hCz hf
      rw [es] at hCy hs
      rw [et] at hCz ht
      have hCy : Hid _ := hCy
      have hCz : Hid _ := hCz
      have hf : Hid _ := hf
      have hz1 : ((j + 1 : Nat) : Int) - 1 = (j : Int) := by omega
      obtain ⟨ti, hti, hm⟩ := Option.map_eq_some_iff.1 infoC
      simp only [Prod.mk.injEq] at hm
      obtain ⟨hzv, hsz, hby⟩ := hm
      clear ey ez es et
      by_cases hrm : j + 1 ≤ c5
      · have hC5 : CV wr b5 (flC (stp ns0 j) ++ zs.take 12 ++ zs.drop 12) := by rw [add_drop (news := [])]; exact hC5.out
        have hnK := K5.n
        simp at hnK
        have K5_2 : Bk w.heap.size wr [(false, bS, ss0.map Value.string), (true, b5, flC (stp ns0 j) ++ zs.take 12 ++ zs.drop 12)] := ⟨.c hLr hKL.out <| .o hl5 (by omega) hC5 <| trivial, by simp; omega⟩
        go_upto_region 8 with fail
        refine rgP K5_2 HBr HBr.size [] [] [(0, 22, .int .i64 ((j + 1 : Nat) : Int)), (1, 23, .slice (some ⟨bS, 0, none⟩) 3 cS), (2, 24, .int .i64 ((3 : Nat) : Int)), (3, 25, .bool true)] [] [] [] ?_ ?_
        · refine oc g_mv ?_
          refine oc g_mv ?_
          refine oc (g_ln Try.underlying74) ?_
          exact oc (g_bn (fun uZ => lss_i _ _ ((j + 1 : Nat) : Int) ((3 : Nat) : Int) _ uZ hl)) on
        intro u6 HB6 sz6 K6
        simp only [fX, nK, nP, Wr.f, aK, pM] at K6
        simp only [setG, setN, List.set_cons_zero, List.set_cons_succ]
        go_upto_region 10 with fail
        refine rgP K6 HB6 HB6.size [] [(9, 7, L0s, some (10, LN z))] [(0, 29, .slice (some ⟨bS, 0, none⟩) 3 cS), (1, 30, .int .i64 ((j + 1 : Nat) : Int)), (2, 31, .int .i64 (j : Int)), (3, 32, .pointer (some ⟨bS, 0 + j, none⟩)), (4, 33, .string t), (5, 34, .tuple #[NV z, .int .i64 0]), (6, 28, .tuple #[NV z, .int .i64 0]), (7, 35, NV z), (8, 36, .int .i64 0), (11, 8, .int .i64 0)] [(10, 9)] [] [] ?_ ?_
        · refine oc g_mv ?_
          refine oc g_mv ?_
          refine oc (g_bn (fun uZ => sub_i _ _ ((j + 1 : Nat) : Int) 1 (j : Int) uZ hz1 (by omega) (by omega))) ?_
          refine oc (g_ix (fun uZ => ixT bS 0 3 cS j (by omega) uZ)) ?_
          refine oc (g_lv 0 (0 + j) lT (by rw [Nat.zero_add]; exact ht)) ?_
          refine oc (g_cl ent_seneschalref01_Parse (fun uZ => hCz.out uZ)) ?_
          refine oc g_mv ?_
          refine oc g_ex ?_
          refine oc g_ex ?_
          refine oc (g_al 0 aN) ?_
          refine oc (g_sn 0 iN) ?_
          exact oc g_as on
        intro u7 b7_9 HB7 sz7 K7
        simp only [fX, nK, nP, Wr.f, aK, pM] at K7
        simp only [setG, setN, List.set_cons_zero, List.set_cons_succ]
        clear K6 HB6
        go_upto_region 11 with fail
        refine rgP K7 HB7 HB7.size [] [(8, 9, L0s, some (9, LN y))] [(0, 38, .slice (some ⟨bS, 0, none⟩) 3 cS), (1, 39, .int .i64 ((j + 1 : Nat) : Int)), (2, 40, .pointer (some ⟨bS, 0 + (j + 1), none⟩)), (3, 41, .string s), (4, 42, .tuple #[NV y, .int .i64 0]), (5, 37, .tuple #[NV y, .int .i64 0]), (6, 43, NV y), (7, 44, .int .i64 0), (10, 10, .int .i64 0)] [(9, 8)] [] [] ?_ ?_
        · refine oc g_mv ?_
          refine oc g_mv ?_
          refine oc (g_ix (fun uZ => ixT bS 0 3 cS (j + 1) (by omega) uZ)) ?_
          refine oc (g_lv 0 (0 + (j + 1)) lT (by rw [Nat.zero_add]; exact hs)) ?_
          refine oc (g_cl ent_seneschalref01_Parse (fun uZ => hCy.out uZ)) ?_
          refine oc g_mv ?_
          refine oc g_ex ?_
          refine oc g_ex ?_
          refine oc (g_al 0 aN) ?_
          refine oc (g_sn 0 iN) ?_
          exact oc g_as on
        intro u8 b8_8 HB8 sz8 K8
        simp only [fX, nK, nP, Wr.f, aK, pM] at K8
        simp only [setG, setN, List.set_cons_zero, List.set_cons_succ]
        clear K7 HB7
        go_upto_region 12 with fail
        refine rgF K8 HB8 HB8.size [.no, .all 6 (flC (stp ns0 j) ++ CE y z 2 ++ zs.drop 12)] [] [(0, 45, .slice (some ⟨b5, 0, none⟩) j c5), (1, 46, NV y), (2, 47, NV z), (3, 48, NV 2), (4, 49, CX (y) (z) (2)), (6, 51, .slice (some ⟨b5, 0, none⟩) (j + 1) c5), (7, 5, .slice (some ⟨b5, 0, none⟩) (j + 1) c5)] [(7, 0)] [(7, 5)] [⟨5, 50, some 6, P1 (CE y z 2)⟩] [true, true, false, false] (.cons (fun _ _ _ h1 h2 => h2.stab h1) <| Stab.nil) ?_ ?_
        · refine oc g_mv ?_
          refine oc (g_ld 3 uN iN) ?_
          refine oc (g_ld 2 uN iN) ?_
          refine oc (g_bd (fun uZ => bdX 2 (by omega) (by omega) uZ)) ?_
          refine oc (g_bd (fun uZ => bdC _ _ _ uZ)) ?_
          refine oc (g_bR 0 (P1 (CE y z 2)) [0] [CX y z 2] (CE y z 2) (bsC1 _ _ _) (fun u hu => P1.new _ _ u)) ?_
          refine oc (g_pI 1 0 (P1 (CE y z 2)) (xs := flC (stp ns0 j)) (ys := zs.take 12) (zs := zs.drop 12) (news := CE y z 2) Try.underlying31 hti P1.at CE_one hsz.symm (by rw [hsz]; exact hsl) (by rw [List.length_take]; simp; omega) hrm) ?_
          exact oc g_as on
        intro u9 v9_5 hv9_5 HB9 sz9 K9
        simp only [fX, nK, nP, Wr.f, aK, pM] at K9
        simp only [setG, setN, setE, List.set_cons_zero, List.set_cons_succ]
        clear K8 HB8
        go_upto_region 9 with fail
        refine rgP K9 HB9 HB9.size [] [] [(0, 26, .int .i64 ((j + 1 : Nat) : Int)), (1, 27, .int .i64 ((j + 1 + 1 : Nat) : Int)), (2, 6, .int .i64 ((j + 1 + 1 : Nat) : Int))] [(2, 0)] [(2, 6)] [] ?_ ?_
        · refine oc g_mv ?_
          refine oc (g_bn (fun uZ => add_i _ _ ((j + 1 : Nat) : Int) 1 ((j + 1 + 1 : Nat) : Int) uZ (by omega) (by omega) (by omega))) ?_
          exact oc g_as on
        intro u10 HB10 sz10 K10
        simp only [fX, nK, nP, Wr.f, aK, pM] at K10
        simp only [setG, setN, List.set_cons_zero, List.set_cons_succ]
        clear K9 HB9
        go_wp2
        refine ⟨⟨j + 1, by omega, rfl, ⟨b5, c5, zs.drop 12, rfl, hb5, (K10.lt 1), hbl, hrm, (by rw [List.length_drop]; omega), (by rw [hf.out]; exact (K10.cv 1))⟩, HB10, (K10.cv 0), (K10.lt 0)⟩, ?_⟩
        simp [intOf] <;> omega
      · have ec : j = c5 := by omega
        subst ec
        have hnK := K5.n
        simp at hnK
        have K5_2 : Bk w.heap.size wr [(false, bS, ss0.map Value.string), (false, b5, flC (stp ns0 j) ++ zs)] := ⟨.c hLr hKL.out <| .c hl5 hC5.out <| trivial, by simp; omega⟩
        go_upto_region 8 with fail
        refine rgP K5_2 HBr HBr.size [] [] [(0, 22, .int .i64 ((j + 1 : Nat) : Int)), (1, 23, .slice (some ⟨bS, 0, none⟩) 3 cS), (2, 24, .int .i64 ((3 : Nat) : Int)), (3, 25, .bool true)] [] [] [] ?_ ?_
        · refine oc g_mv ?_
          refine oc g_mv ?_
          refine oc (g_ln Try.underlying74) ?_
          exact oc (g_bn (fun uZ => lss_i _ _ ((j + 1 : Nat) : Int) ((3 : Nat) : Int) _ uZ hl)) on
        intro u6 HB6 sz6 K6
        simp only [fX, nK, nP, Wr.f, aK, pM] at K6
        simp only [setG, setN, List.set_cons_zero, List.set_cons_succ]
        go_upto_region 10 with fail
        refine rgP K6 HB6 HB6.size [] [(9, 7, L0s, some (10, LN z))] [(0, 29, .slice (some ⟨bS, 0, none⟩) 3 cS), (1, 30, .int .i64 ((j + 1 : Nat) : Int)), (2, 31, .int .i64 (j : Int)), (3, 32, .pointer (some ⟨bS, 0 + j, none⟩)), (4, 33, .string t), (5, 34, .tuple #[NV z, .int .i64 0]), (6, 28, .tuple #[NV z, .int .i64 0]), (7, 35, NV z), (8, 36, .int .i64 0), (11, 8, .int .i64 0)] [(10, 9)] [] [] ?_ ?_
        · refine oc g_mv ?_
          refine oc g_mv ?_
          refine oc (g_bn (fun uZ => sub_i _ _ ((j + 1 : Nat) : Int) 1 (j : Int) uZ hz1 (by omega) (by omega))) ?_
          refine oc (g_ix (fun uZ => ixT bS 0 3 cS j (by omega) uZ)) ?_
          refine oc (g_lv 0 (0 + j) lT (by rw [Nat.zero_add]; exact ht)) ?_
          refine oc (g_cl ent_seneschalref01_Parse (fun uZ => hCz.out uZ)) ?_
          refine oc g_mv ?_
          refine oc g_ex ?_
          refine oc g_ex ?_
          refine oc (g_al 0 aN) ?_
          refine oc (g_sn 0 iN) ?_
          exact oc g_as on
        intro u7 b7_9 HB7 sz7 K7
        simp only [fX, nK, nP, Wr.f, aK, pM] at K7
        simp only [setG, setN, List.set_cons_zero, List.set_cons_succ]
        clear K6 HB6
        go_upto_region 11 with fail
        refine rgP K7 HB7 HB7.size [] [(8, 9, L0s, some (9, LN y))] [(0, 38, .slice (some ⟨bS, 0, none⟩) 3 cS), (1, 39, .int .i64 ((j + 1 : Nat) : Int)), (2, 40, .pointer (some ⟨bS, 0 + (j + 1), none⟩)), (3, 41, .string s), (4, 42, .tuple #[NV y, .int .i64 0]), (5, 37, .tuple #[NV y, .int .i64 0]), (6, 43, NV y), (7, 44, .int .i64 0), (10, 10, .int .i64 0)] [(9, 8)] [] [] ?_ ?_
        · refine oc g_mv ?_
          refine oc g_mv ?_
          refine oc (g_ix (fun uZ => ixT bS 0 3 cS (j + 1) (by omega) uZ)) ?_
          refine oc (g_lv 0 (0 + (j + 1)) lT (by rw [Nat.zero_add]; exact hs)) ?_
          refine oc (g_cl ent_seneschalref01_Parse (fun uZ => hCy.out uZ)) ?_
          refine oc g_mv ?_
          refine oc g_ex ?_
          refine oc g_ex ?_
          refine oc (g_al 0 aN) ?_
          refine oc (g_sn 0 iN) ?_
          exact oc g_as on
        intro u8 b8_8 HB8 sz8 K8
        simp only [fX, nK, nP, Wr.f, aK, pM] at K8
        simp only [setG, setN, List.set_cons_zero, List.set_cons_succ]
        clear K7 HB7
        go_upto_region 12 with fail
        refine rgF K8 HB8 HB8.size [] [] [(0, 45, .slice (some ⟨b5, 0, none⟩) j j), (1, 46, NV y), (2, 47, NV z), (3, 48, NV 2), (4, 49, CX (y) (z) (2))] [(7, 0)] [(7, 5)] [⟨5, 50, some 6, P1 (CE y z 2)⟩, ⟨6, 51, some 7, PG u8.heap.size ti.size (j + 1) (flC (stp ns0 j) ++ CE y z 2)⟩, ⟨7, 5, none, PG u8.heap.size ti.size (j + 1) (flC (stp ns0 j) ++ CE y z 2)⟩] [true, false, false, false] (.cons (fun _ _ _ h1 h2 => h2.stab h1) <| .cons (fun _ _ _ h1 h2 => h2.stab h1) <| .cons (fun _ _ _ h1 h2 => h2.stab h1) <| Stab.nil) ?_ ?_
        · refine oc g_mv ?_
          refine oc (g_ld 3 uN iN) ?_
          refine oc (g_ld 2 uN iN) ?_
          refine oc (g_bd (fun uZ => bdX 2 (by omega) (by omega) uZ)) ?_
          refine oc (g_bd (fun uZ => bdC _ _ _ uZ)) ?_
          refine oc (g_bR 0 (P1 (CE y z 2)) [0] [CX y z 2] (CE y z 2) (bsC1 _ _ _) (fun u hu => P1.new _ _ u)) ?_
          refine oc (g_pG 0 1 (P1 (CE y z 2)) (n := j) (xs := flC (stp ns0 j)) (news := CE y z 2) Try.underlying31 hti hzv (by rw [hsz]; rfl) P1.at hsz.symm (fun f u kZ => ⟨by rw [hsz]; exact hsl, .inr ⟨b5, rfl, (KC.cv kZ 1).pre2⟩⟩) (by rw [hby]; omega) (by omega)) ?_
          exact oc (g_sE 1 2 (PG u8.heap.size ti.size (j + 1) (flC (stp ns0 j) ++ CE y z 2))) on
        intro u9 v9_5 hv9_5 v9_6 hv9_6 v9_7 hv9_7 HB9 sz9 K9
        simp only [fX, nK, nP, Wr.f, aK, pM] at K9
        simp only [setG, setN, setE, List.set_cons_zero, List.set_cons_succ]
        clear HB8
        obtain ⟨b6, c6, zs6, rfl, ho1, ho2, hc6, hz6, hoC⟩ := hv9_7 rfl
        have K9xrow6 := Bk.more3 K8 K9 ho1 ho2 hoC (by intro x hx; first | (simp at hx; done) | (simp at hx ⊢; omega))
        simp only [aK] at K9xrow6
        clear K9
        rw [hsz] at hz6
        have hb6' : b6 ≠ bS := by have := (K8.lt 0); omega
        have hw6 : w.heap.size ≤ b6 := by omega
        go_upto_region 9 with fail
        refine rgP K9xrow6 HB9 HB9.size [] [] [(0, 26, .int .i64 ((j + 1 : Nat) : Int)), (1, 27, .int .i64 ((j + 1 + 1 : Nat) : Int)), (2, 6, .int .i64 ((j + 1 + 1 : Nat) : Int))] [(2, 0)] [(2, 6)] [] ?_ ?_
        · refine oc g_mv ?_
          refine oc (g_bn (fun uZ => add_i _ _ ((j + 1 : Nat) : Int) 1 ((j + 1 + 1 : Nat) : Int) uZ (by omega) (by omega) (by omega))) ?_
          exact oc g_as on
        intro u10 HB10 sz10 K10
        simp only [fX, nK, nP, Wr.f, aK, pM] at K10
        simp only [setG, setN, List.set_cons_zero, List.set_cons_succ]
        clear HB9
        go_wp2
        refine ⟨⟨j + 1, by omega, rfl, ⟨b6, c6, zs6, rfl, hw6, (K10.lt 1), hb6', hc6, hz6, (by rw [hf.out]; exact (K10.cv 1))⟩, HB10, (K10.cv 0), (K10.lt 0)⟩, ?_⟩
        simp [intOf] <;> omega
    · have hl : decide (((j + 1 : Nat) : Int) < 3) = false := by simp; omega
      have hjn : j = 2 := by omega
      have hnK := K5.n
      simp at hnK
      have K5_2 : Bk w.heap.size wr [(false, b5, flC (stp ns0 j) ++ zs)] := ⟨.c hl5 hC5.out <| trivial, by simp⟩
      go_upto_region 8 with fail
      refine rgP K5_2 HBr HBr.size [] [] [(0, 22, .int .i64 ((j + 1 : Nat) : Int)), (1, 23, .slice (some ⟨bS, 0, none⟩) 3 cS), (2, 24, .int .i64 ((3 : Nat) : Int)), (3, 25, .bool false)] [] [] [] ?_ ?_
      · refine oc g_mv ?_
        refine oc g_mv ?_
        refine oc (g_ln Try.underlying74) ?_
        exact oc (g_bn (fun uZ => lss_i _ _ ((j + 1 : Nat) : Int) ((3 : Nat) : Int) _ uZ hl)) on
      intro u6 HB6 sz6 K6
      simp only [fX, nK, nP, Wr.f, aK, pM] at K6
      simp only [setG, setN, List.set_cons_zero, List.set_cons_succ]
      go_upto_region 13 with fail
      refine rgP K6 HB6 HB6.size [] [] [(0, 52, .slice (some ⟨b5, 0, none⟩) j c5), (1, 2, .slice (some ⟨b5, 0, none⟩) j c5), (2, 3, (Go.Value.int Go.IntKind.i64 0))] [] [] [] ?_ ?_
      · refine oc g_mv ?_
        refine oc g_as ?_
        exact oc g_as on
      intro u7 HB7 sz7 K7
      simp only [fX, nK, nP, Wr.f, aK, pM] at K7
      simp only [setG, setN, List.set_cons_zero, List.set_cons_succ]
      clear K6 HB6
      go_wp2
      refine bodyPost_ret (v := .tuple #[.slice (some ⟨b5, 0, none⟩) j c5, .int .i64 0]) (by simp [results, Try.results26, go_sem]) rfl ⟨_, rfl, ⟨_, rfl, b5, c5, by rw [hjn], hb5, K7.lt 0, by omega, by rw [← hjn]; exact (K7.cv 0).pre2⟩, HB7⟩
set_option maxRecDepth 100000 in
set_option maxHeartbeats 4000000 in
theorem xChain1 (w : World) : Calls Try.prog 26 #[.int .i64 1] w fun e w' => ∃ v, e = .returned v ∧ PT 0 w.heap.size 5 (flC (stp ns1 5)) w' v ∧ Below w.heap.size w w' := by
  go_enter Try.func26, Try.ntmps26
  have HB0 : Below w.heap.size w w := Below.refl _ _
  have K0_1 := Bk.nil (w.heap.size) w
  go_upto_region 1 with fail
  refine rgF K0_1 HB0 HB0.size [] [] [] [] [] [⟨0, 11, some 1, PS w.heap.size 3 (ss0.map Value.string)⟩, ⟨1, 4, none, PS w.heap.size 3 (ss0.map Value.string)⟩] [] (.cons (fun _ _ _ h1 h2 => h2.stab h1) <| .cons (fun _ _ _ h1 h2 => h2.stab h1) <| Stab.nil) ?_ ?_
  · refine oc (g_bR 0 (PS w.heap.size 3 (ss0.map Value.string)) [0, 1, 2] [.string ⟨#[50, 48, 48, 49, 100]⟩, .string ⟨#[50, 50, 97, 49, 102, 54, 49, 49]⟩, .string ⟨#[52, 53, 52, 51, 101, 99, 50, 51]⟩] (ss0.map Value.string) (bsS3 _ _ _) (fun u hu => PS.new 3 _ _ u hu)) ?_
    exact oc (g_sE 0 1 (PS w.heap.size 3 (ss0.map Value.string))) on
  intro u1 v1_0 hv1_0 v1_1 hv1_1 HB1 sz1 K1
  simp only [fX, nK, nP, Wr.f, aK, pM] at K1
  simp only [setG, setN, setE, List.set_cons_zero, List.set_cons_succ]
  clear HB0
  obtain ⟨bX, cX, rfl, -⟩ := hv1_1 rfl
  go_upto_region 2 with fail
  refine rgP K1 HB1 HB1.size [] [] [(0, 12, .int .i64 1), (1, 13, .bool true)] [] [] [] ?_ ?_
  · refine oc g_mv ?_
    exact oc (g_bn (fun uZ => eql_i _ _ _ 1 1 _ uZ rfl)) on
  intro u2 HB2 sz2 K2
  simp only [fX, nK, nP, Wr.f, aK, pM] at K2
  simp only [setG, setN, List.set_cons_zero, List.set_cons_succ]
  clear K1 HB1
  go_upto_region 3 with fail
  refine rgF K2 HB2 HB2.size [] [] [] [] [] [⟨0, 14, some 1, PS u2.heap.size 6 (ss1.map Value.string)⟩, ⟨1, 4, none, PS u2.heap.size 6 (ss1.map Value.string)⟩] [] (.cons (fun _ _ _ h1 h2 => h2.stab h1) <| .cons (fun _ _ _ h1 h2 => h2.stab h1) <| Stab.nil) ?_ ?_
  · refine oc (g_bR 0 (PS u2.heap.size 6 (ss1.map Value.string)) [0, 1, 2, 3, 4, 5] [.string ⟨#[101, 55, 102, 52, 51]⟩, .string ⟨#[50, 52, 49, 99, 102, 56, 51, 48, 97, 51]⟩, .string ⟨#[50, 49, 97, 52, 100, 99, 98, 56, 99, 101, 99, 50, 99, 102, 48, 101, 97, 56, 51]⟩, .string ⟨#[50, 49, 52, 97, 99, 52, 49, 56, 101, 56, 101, 100, 101, 56, 53, 48, 50, 56, 55, 56, 53, 53, 101, 55, 53, 101, 102, 53, 53, 48, 49, 57, 97, 57, 56, 101, 51]⟩, .string ⟨#[50, 48, 102, 97, 51, 48, 48, 53, 52, 98, 57, 52, 99, 100, 51, 56, 98, 53, 54, 49, 57, 98, 53, 53, 55, 50, 51, 52, 102, 49, 97, 56, 97, 53, 55, 56, 55, 100, 55, 48, 98, 56, 57, 48, 51, 54, 53, 102, 54, 49, 55, 56, 55, 53, 102, 55, 52, 99, 52, 100, 51, 99, 100, 100]⟩, .string ⟨#[52, 49, 102, 52, 54, 48, 48, 97, 57, 55, 50, 57, 57, 97, 55, 49, 54, 97, 99, 51, 51, 54, 97, 97, 101, 52, 54, 57, 101, 51, 53, 49, 52, 97, 102, 48, 102, 97, 101, 49, 55, 49, 50, 48, 54, 99, 98, 101, 99, 50, 102, 48, 101, 98, 101, 101, 57, 56, 57, 97, 55, 57, 98, 98]⟩] (ss1.map Value.string) (bsS6 _ _ _ _ _ _) (fun u hu => PS.new 6 _ _ u hu)) ?_
    exact oc (g_sE 0 1 (PS u2.heap.size 6 (ss1.map Value.string))) on
  intro u3 v3_0 hv3_0 v3_1 hv3_1 HB3 sz3 K3
  simp only [fX, nK, nP, Wr.f, aK, pM] at K3
  simp only [setG, setN, setE, List.set_cons_zero, List.set_cons_succ]
  clear HB2
  obtain ⟨bS, cS, rfl, ho1, ho2, hcS, hoC⟩ := hv3_1 rfl
  have K3xstr := Bk.more3 K2 K3 ho1 ho2 hoC (by intro x hx; first | (simp at hx; done) | (simp at hx ⊢; omega))
  simp only [aK] at K3xstr
  clear K3
  have hSw : w.heap.size ≤ bS := by omega
  go_upto_region 4 with fail
  refine rgP K3xstr HB3 HB3.size [] [] [(0, 15, .int .i64 1), (1, 16, .bool false), (2, 17, .bool false), (3, 18, .int .i64 1), (4, 19, .bool false), (5, 20, .bool false)] [] [] [] ?_ ?_
  · refine oc g_mv ?_
    refine oc (g_bn (fun uZ => lss_i _ _ 1 0 _ uZ rfl)) ?_
    refine oc g_mv ?_
    refine oc g_mv ?_
    refine oc (g_bn (fun uZ => gtr_i _ _ 1 1 _ uZ rfl)) ?_
    exact oc g_pk on
  intro u4 HB4 sz4 K4
  simp only [fX, nK, nP, Wr.f, aK, pM] at K4
  simp only [setG, setN, List.set_cons_zero, List.set_cons_succ]
  clear HB3
  go_upto_region 6 with fail
  refine rgF K4 HB4 HB4.size [] [] [] [] [] [⟨0, 21, some 1, PZ u4.heap.size⟩, ⟨1, 5, none, PZ u4.heap.size⟩] [] (.cons (fun _ _ _ h1 h2 => h2.stab h1) <| .cons (fun _ _ _ h1 h2 => h2.stab h1) <| Stab.nil) ?_ ?_
  · refine oc (g_bs 0 (PZ u4.heap.size) bsC0 (fun u hu => PZ.new hu)) ?_
    exact oc (g_sE 0 1 (PZ u4.heap.size)) on
  intro u5 v5_0 hv5_0 v5_1 hv5_1 HB5 sz5 K5
  simp only [fX, nK, nP, Wr.f, aK, pM] at K5
  simp only [setG, setN, setE, List.set_cons_zero, List.set_cons_succ]
  clear HB4
  have hbSl := K4.lt 0
  obtain ⟨bz, rfl, ho1, ho2⟩ := hv5_1 rfl
  have K5xrow := Bk.more3 K4 K5 ho1 ho2 (CV.nil _ _) (by intro x hx; first | (simp at hx; done) | (simp at hx ⊢; omega))
  simp only [aK] at K5xrow
  clear K5
  have hb50 : w.heap.size ≤ bz := by omega
  have hb5S : bz ≠ bS := by omega
  go_upto_region 7 with fail
  refine rgP K5xrow HB5 HB5.size [] [] [(0, 6, (Go.Value.int Go.IntKind.i64 1))] [] [] [] ?_ ?_
  · exact oc g_as on
  intro u6 HB6 sz6 K6
  simp only [fX, nK, nP, Wr.f, aK, pM] at K6
  simp only [setG, setN, List.set_cons_zero, List.set_cons_succ]
  clear HB5
  go_wp2_with fail
  go_loopw [6, 5] (fun s6 s5 wr => ∃ (j : Nat), j ≤ 5 ∧ s6 = .int .i64 ((j + 1 : Nat) : Int) ∧ (∃ b cap zs, s5 = .slice (some ⟨b, 0, none⟩) j cap ∧ w.heap.size ≤ b ∧ b < wr.heap.size ∧ b ≠ bS ∧ j ≤ cap ∧ List.length (α := Value) zs = (cap - j) * 12 ∧ Hid (CV wr b (flC (stp ns1 j) ++ zs))) ∧ Below w.heap.size w wr ∧ Hid (CV wr bS (ss1.map Value.string)) ∧ bS < wr.heap.size) (fun s6 _ _ => 6 - (intOf s6).toNat)
  case atStart => exact ⟨0, by omega, rfl, ⟨bz, 0, [], rfl, hb50, (K6.lt 1), hb5S, Nat.le_refl _, rfl, (K6.cv 1)⟩, HB6, (K6.cv 0), (K6.lt 0)⟩
  case round =>
    obtain ⟨j, hj, rfl, hrow, HBr, hKL, hLr⟩ := hrel
    clear HB6
    have hwr := HBr.size
    obtain ⟨b5, c5, zs, rfl, hb5, hl5, hbl, hjc, hzl, hC5⟩ := hrow
    by_cases hjl : j < 5
    · have hl : decide (((j + 1 : Nat) : Int) < 6) = true := by simp; omega
      obtain ⟨y, ey⟩ : ∃ y, ns1.getD (j + 1) 0 = y := ⟨_, rfl⟩
      obtain ⟨z, ez⟩ : ∃ z, ns1.getD j 0 = z := ⟨_, rfl⟩
      obtain ⟨s, es⟩ : ∃ s, ss1.getD (j + 1) ByteArray.empty = s := ⟨_, rfl⟩
      obtain ⟨t, et⟩ : ∃ t, ss1.getD j ByteArray.empty = t := ⟨_, rfl⟩
      have hln : ss1.length = 6 := rfl
      have hCy := xps1 (j + 1) (by omega)
      have hCz := xps1 j (by omega)
      have hs := str_at ss1 (j + 1) (by omega)
      have ht := str_at ss1 j (by omega)
      have hf := flC_stp ns1 j
      have hsl := flC_len (stp ns1 j)
      rw [stp_len] at hsl
      rw [ey] at hCy hf
      rw [ez] at hCz hf
      rw [es] at hCy hs
      rw [et] at hCz ht
      have hCy : Hid _ := hCy
      have hCz : Hid _ := hCz
      have hf : Hid _ := hf
      have hz1 : ((j + 1 : Nat) : Int) - 1 = (j : Int) := by omega
      obtain ⟨ti, hti, hm⟩ := Option.map_eq_some_iff.1 infoC
      simp only [Prod.mk.injEq] at hm
      obtain ⟨hzv, hsz, hby⟩ := hm
      clear ey ez es et
      by_cases hrm : j + 1 ≤ c5
      · have hC5 : CV wr b5 (flC (stp ns1 j) ++ zs.take 12 ++ zs.drop 12) := by rw [add_drop (news := [])]; exact hC5.out
        have hnK := K6.n
        simp at hnK
        have K6_2 : Bk w.heap.size wr [(false, bS, ss1.map Value.string), (true, b5, flC (stp ns1 j) ++ zs.take 12 ++ zs.drop 12)] := ⟨.c hLr hKL.out <| .o hl5 (by omega) hC5 <| trivial, by simp; omega⟩
        go_upto_region 8 with fail
        refine rgP K6_2 HBr HBr.size [] [] [(0, 22, .int .i64 ((j + 1 : Nat) : Int)), (1, 23, .slice (some ⟨bS, 0, none⟩) 6 cS), (2, 24, .int .i64 ((6 : Nat) : Int)), (3, 25, .bool true)] [] [] [] ?_ ?_
        · refine oc g_mv ?_
          refine oc g_mv ?_
          refine oc (g_ln Try.underlying74) ?_
          exact oc (g_bn (fun uZ => lss_i _ _ ((j + 1 : Nat) : Int) ((6 : Nat) : Int) _ uZ hl)) on
        intro u7 HB7 sz7 K7
        simp only [fX, nK, nP, Wr.f, aK, pM] at K7
        simp only [setG, setN, List.set_cons_zero, List.set_cons_succ]
        go_upto_region 10 with fail
        refine rgP K7 HB7 HB7.size [] [(9, 7, L0s, some (10, LN z))] [(0, 29, .slice (some ⟨bS, 0, none⟩) 6 cS), (1, 30, .int .i64 ((j + 1 : Nat) : Int)), (2, 31, .int .i64 (j : Int)), (3, 32, .pointer (some ⟨bS, 0 + j, none⟩)), (4, 33, .string t), (5, 34, .tuple #[NV z, .int .i64 0]), (6, 28, .tuple #[NV z, .int .i64 0]), (7, 35, NV z), (8, 36, .int .i64 0), (11, 8, .int .i64 0)] [(10, 9)] [] [] ?_ ?_
        · refine oc g_mv ?_
          refine oc g_mv ?_
          refine oc (g_bn (fun uZ => sub_i _ _ ((j + 1 : Nat) : Int) 1 (j : Int) uZ hz1 (by omega) (by omega))) ?_
          refine oc (g_ix (fun uZ => ixT bS 0 6 cS j (by omega) uZ)) ?_
          refine oc (g_lv 0 (0 + j) lT (by rw [Nat.zero_add]; exact ht)) ?_
          refine oc (g_cl ent_seneschalref01_Parse (fun uZ => hCz.out uZ)) ?_
          refine oc g_mv ?_
          refine oc g_ex ?_
          refine oc g_ex ?_
          refine oc (g_al 0 aN) ?_
          refine oc (g_sn 0 iN) ?_
          exact oc g_as on
        intro u8 b8_9 HB8 sz8 K8
        simp only [fX, nK, nP, Wr.f, aK, pM] at K8
        simp only [setG, setN, List.set_cons_zero, List.set_cons_succ]
        clear K7 HB7
        go_upto_region 11 with fail
        refine rgP K8 HB8 HB8.size [] [(8, 9, L0s, some (9, LN y))] [(0, 38, .slice (some ⟨bS, 0, none⟩) 6 cS), (1, 39, .int .i64 ((j + 1 : Nat) : Int)), (2, 40, .pointer (some ⟨bS, 0 + (j + 1), none⟩)), (3, 41, .string s), (4, 42, .tuple #[NV y, .int .i64 0]), (5, 37, .tuple #[NV y, .int .i64 0]), (6, 43, NV y), (7, 44, .int .i64 0), (10, 10, .int .i64 0)] [(9, 8)] [] [] ?_ ?_
        · refine oc g_mv ?_
          refine oc g_mv ?_
          refine oc (g_ix (fun uZ => ixT bS 0 6 cS (j + 1) (by omega) uZ)) ?_
          refine oc (g_lv 0 (0 + (j + 1)) lT (by rw [Nat.zero_add]; exact hs)) ?_
          refine oc (g_cl ent_seneschalref01_Parse (fun uZ => hCy.out uZ)) ?_
          refine oc g_mv ?_
          refine oc g_ex ?_
          refine oc g_ex ?_
          refine oc (g_al 0 aN) ?_
          refine oc (g_sn 0 iN) ?_
          exact oc g_as on
        intro u9 b9_8 HB9 sz9 K9
        simp only [fX, nK, nP, Wr.f, aK, pM] at K9
        simp only [setG, setN, List.set_cons_zero, List.set_cons_succ]
        clear K8 HB8
        go_upto_region 12 with fail
        refine rgF K9 HB9 HB9.size [.no, .all 6 (flC (stp ns1 j) ++ CE y z 2 ++ zs.drop 12)] [] [(0, 45, .slice (some ⟨b5, 0, none⟩) j c5), (1, 46, NV y), (2, 47, NV z), (3, 48, NV 2), (4, 49, CX (y) (z) (2)), (6, 51, .slice (some ⟨b5, 0, none⟩) (j + 1) c5), (7, 5, .slice (some ⟨b5, 0, none⟩) (j + 1) c5)] [(7, 0)] [(7, 5)] [⟨5, 50, some 6, P1 (CE y z 2)⟩] [true, true, false, false] (.cons (fun _ _ _ h1 h2 => h2.stab h1) <| Stab.nil) ?_ ?_
        · refine oc g_mv ?_
          refine oc (g_ld 3 uN iN) ?_
          refine oc (g_ld 2 uN iN) ?_
          refine oc (g_bd (fun uZ => bdX 2 (by omega) (by omega) uZ)) ?_
          refine oc (g_bd (fun uZ => bdC _ _ _ uZ)) ?_
          refine oc (g_bR 0 (P1 (CE y z 2)) [0] [CX y z 2] (CE y z 2) (bsC1 _ _ _) (fun u hu => P1.new _ _ u)) ?_
          refine oc (g_pI 1 0 (P1 (CE y z 2)) (xs := flC (stp ns1 j)) (ys := zs.take 12) (zs := zs.drop 12) (news := CE y z 2) Try.underlying31 hti P1.at CE_one hsz.symm (by rw [hsz]; exact hsl) (by rw [List.length_take]; simp; omega) hrm) ?_
          exact oc g_as on
        intro u10 v10_5 hv10_5 HB10 sz10 K10
        simp only [fX, nK, nP, Wr.f, aK, pM] at K10
        simp only [setG, setN, setE, List.set_cons_zero, List.set_cons_succ]
        clear K9 HB9
        go_upto_region 9 with fail
        refine rgP K10 HB10 HB10.size [] [] [(0, 26, .int .i64 ((j + 1 : Nat) : Int)), (1, 27, .int .i64 ((j + 1 + 1 : Nat) : Int)), (2, 6, .int .i64 ((j + 1 + 1 : Nat) : Int))] [(2, 0)] [(2, 6)] [] ?_ ?_
        · refine oc g_mv ?_
          refine oc (g_bn (fun uZ => add_i _ _ ((j + 1 : Nat) : Int) 1 ((j + 1 + 1 : Nat) : Int) uZ (by omega) (by omega) (by omega))) ?_
          exact oc g_as on
        intro u11 HB11 sz11 K11
        simp only [fX, nK, nP, Wr.f, aK, pM] at K11
        simp only [setG, setN, List.set_cons_zero, List.set_cons_succ]
        clear K10 HB10
        go_wp2
        refine ⟨⟨j + 1, by omega, rfl, ⟨b5, c5, zs.drop 12, rfl, hb5, (K11.lt 1), hbl, hrm, (by rw [List.length_drop]; omega), (by rw [hf.out]; exact (K11.cv 1))⟩, HB11, (K11.cv 0), (K11.lt 0)⟩, ?_⟩
        simp [intOf] <;> omega
      · have ec : j = c5 := by omega
        subst ec
        have hnK := K6.n
        simp at hnK
        have K6_2 : Bk w.heap.size wr [(false, bS, ss1.map Value.string), (false, b5, flC (stp ns1 j) ++ zs)] := ⟨.c hLr hKL.out <| .c hl5 hC5.out <| trivial, by simp; omega⟩
        go_upto_region 8 with fail
        refine rgP K6_2 HBr HBr.size [] [] [(0, 22, .int .i64 ((j + 1 : Nat) : Int)), (1, 23, .slice (some ⟨bS, 0, none⟩) 6 cS), (2, 24, .int .i64 ((6 : Nat) : Int)), (3, 25, .bool true)] [] [] [] ?_ ?_
        · refine oc g_mv ?_
          refine oc g_mv ?_
          refine oc (g_ln Try.underlying74) ?_
          exact oc (g_bn (fun uZ => lss_i _ _ ((j + 1 : Nat) : Int) ((6 : Nat) : Int) _ uZ hl)) on
        intro u7 HB7 sz7 K7
        simp only [fX, nK, nP, Wr.f, aK, pM] at K7
        simp only [setG, setN, List.set_cons_zero, List.set_cons_succ]
        go_upto_region 10 with fail
        refine rgP K7 HB7 HB7.size [] [(9, 7, L0s, some (10, LN z))] [(0, 29, .slice (some ⟨bS, 0, none⟩) 6 cS), (1, 30, .int .i64 ((j + 1 : Nat) : Int)), (2, 31, .int .i64 (j : Int)), (3, 32, .pointer (some ⟨bS, 0 + j, none⟩)), (4, 33, .string t), (5, 34, .tuple #[NV z, .int .i64 0]), (6, 28, .tuple #[NV z, .int .i64 0]), (7, 35, NV z), (8, 36, .int .i64 0), (11, 8, .int .i64 0)] [(10, 9)] [] [] ?_ ?_
        · refine oc g_mv ?_
          refine oc g_mv ?_
          refine oc (g_bn (fun uZ => sub_i _ _ ((j + 1 : Nat) : Int) 1 (j : Int) uZ hz1 (by omega) (by omega))) ?_
          refine oc (g_ix (fun uZ => ixT bS 0 6 cS j (by omega) uZ)) ?_
          refine oc (g_lv 0 (0 + j) lT (by rw [Nat.zero_add]; exact ht)) ?_
          refine oc (g_cl ent_seneschalref01_Parse (fun uZ => hCz.out uZ)) ?_
          refine oc g_mv ?_
          refine oc g_ex ?_
          refine oc g_ex ?_
          refine oc (g_al 0 aN) ?_
          refine oc (g_sn 0 iN) ?_
          exact oc g_as on
        intro u8 b8_9 HB8 sz8 K8
        simp only [fX, nK, nP, Wr.f, aK, pM] at K8
        simp only [setG, setN, List.set_cons_zero, List.set_cons_succ]
        clear K7 HB7
        go_upto_region 11 with fail
        refine rgP K8 HB8 HB8.size [] [(8, 9, L0s, some (9, LN y))] [(0, 38, .slice (some ⟨bS, 0, none⟩) 6 cS), (1, 39, .int .i64 ((j + 1 : Nat) : Int)), (2, 40, .pointer (some ⟨bS, 0 + (j + 1), none⟩)), (3, 41, .string s), (4, 42, .tuple #[NV y, .int .i64 0]), (5, 37, .tuple #[NV y, .int .i64 0]), (6, 43, NV y), (7, 44, .int .i64 0), (10, 10, .int .i64 0)] [(9, 8)] [] [] ?_ ?_
        · refine oc g_mv ?_
          refine oc g_mv ?_
          refine oc (g_ix (fun uZ => ixT bS 0 6 cS (j + 1) (by omega) uZ)) ?_
          refine oc (g_lv 0 (0 + (j + 1)) lT (by rw [Nat.zero_add]; exact hs)) ?_
          refine oc (g_cl ent_seneschalref01_Parse (fun uZ => hCy.out uZ)) ?_
          refine oc g_mv ?_
          refine oc g_ex ?_
          refine oc g_ex ?_
          refine oc (g_al 0 aN) ?_
          refine oc (g_sn 0 iN) ?_
          exact oc g_as on
        intro u9 b9_8 HB9 sz9 K9
        simp only [fX, nK, nP, Wr.f, aK, pM] at K9
        simp only [setG, setN, List.set_cons_zero, List.set_cons_succ]
        clear K8 HB8
        go_upto_region 12 with fail
        refine rgF K9 HB9 HB9.size [] [] [(0, 45, .slice (some ⟨b5, 0, none⟩) j j), (1, 46, NV y), (2, 47, NV z), (3, 48, NV 2), (4, 49, CX (y) (z) (2))] [(7, 0)] [(7, 5)] [⟨5, 50, some 6, P1 (CE y z 2)⟩, ⟨6, 51, some 7, PG u9.heap.size ti.size (j + 1) (flC (stp ns1 j) ++ CE y z 2)⟩, ⟨7, 5, none, PG u9.heap.size ti.size (j + 1) (flC (stp ns1 j) ++ CE y z 2)⟩] [true, false, false, false] (.cons (fun _ _ _ h1 h2 => h2.stab h1) <| .cons (fun _ _ _ h1 h2 => h2.stab h1) <| .cons (fun _ _ _ h1 h2 => h2.stab h1) <| Stab.nil) ?_ ?_
        · refine oc g_mv ?_
          refine oc (g_ld 3 uN iN) ?_
          refine oc (g_ld 2 uN iN) ?_
          refine oc (g_bd (fun uZ => bdX 2 (by omega) (by omega) uZ)) ?_
          refine oc (g_bd (fun uZ => bdC _ _ _ uZ)) ?_
          refine oc (g_bR 0 (P1 (CE y z 2)) [0] [CX y z 2] (CE y z 2) (bsC1 _ _ _) (fun u hu => P1.new _ _ u)) ?_
          refine oc (g_pG 0 1 (P1 (CE y z 2)) (n := j) (xs := flC (stp ns1 j)) (news := CE y z 2) Try.underlying31 hti hzv (by rw [hsz]; rfl) P1.at hsz.symm (fun f u kZ => ⟨by rw [hsz]; exact hsl, .inr ⟨b5, rfl, (KC.cv kZ 1).pre2⟩⟩) (by rw [hby]; omega) (by omega)) ?_
          exact oc (g_sE 1 2 (PG u9.heap.size ti.size (j + 1) (flC (stp ns1 j) ++ CE y z 2))) on
        intro u10 v10_5 hv10_5 v10_6 hv10_6 v10_7 hv10_7 HB10 sz10 K10
        simp only [fX, nK, nP, Wr.f, aK, pM] at K10
        simp only [setG, setN, setE, List.set_cons_zero, List.set_cons_succ]
        clear HB9
        obtain ⟨b6, c6, zs6, rfl, ho1, ho2, hc6, hz6, hoC⟩ := hv10_7 rfl
        have K10xrow6 := Bk.more3 K9 K10 ho1 ho2 hoC (by intro x hx; first | (simp at hx; done) | (simp at hx ⊢; omega))
        simp only [aK] at K10xrow6
        clear K10
        rw [hsz] at hz6
        have hb6' : b6 ≠ bS := by have := (K9.lt 0); omega
        have hw6 : w.heap.size ≤ b6 := by omega
        go_upto_region 9 with fail
        refine rgP K10xrow6 HB10 HB10.size [] [] [(0, 26, .int .i64 ((j + 1 : Nat) : Int)), (1, 27, .int .i64 ((j + 1 + 1 : Nat) : Int)), (2, 6, .int .i64 ((j + 1 + 1 : Nat) : Int))] [(2, 0)] [(2, 6)] [] ?_ ?_
        · refine oc g_mv ?_
          refine oc (g_bn (fun uZ => add_i _ _ ((j + 1 : Nat) : Int) 1 ((j + 1 + 1 : Nat) : Int) uZ (by omega) (by omega) (by omega))) ?_
          exact oc g_as on
        intro u11 HB11 sz11 K11
        simp only [fX, nK, nP, Wr.f, aK, pM] at K11
        simp only [setG, setN, List.set_cons_zero, List.set_cons_succ]
        clear HB10
        go_wp2
        refine ⟨⟨j + 1, by omega, rfl, ⟨b6, c6, zs6, rfl, hw6, (K11.lt 1), hb6', hc6, hz6, (by rw [hf.out]; exact (K11.cv 1))⟩, HB11, (K11.cv 0), (K11.lt 0)⟩, ?_⟩
        simp [intOf] <;> omega
    · have hl : decide (((j + 1 : Nat) : Int) < 6) = false := by simp; omega
      have hjn : j = 5 := by omega
      have hnK := K6.n
      simp at hnK
      have K6_2 : Bk w.heap.size wr [(false, b5, flC (stp ns1 j) ++ zs)] := ⟨.c hl5 hC5.out <| trivial, by simp⟩
      go_upto_region 8 with fail
      refine rgP K6_2 HBr HBr.size [] [] [(0, 22, .int .i64 ((j + 1 : Nat) : Int)), (1, 23, .slice (some ⟨bS, 0, none⟩) 6 cS), (2, 24, .int .i64 ((6 : Nat) : Int)), (3, 25, .bool false)] [] [] [] ?_ ?_
      · refine oc g_mv ?_
        refine oc g_mv ?_
        refine oc (g_ln Try.underlying74) ?_
        exact oc (g_bn (fun uZ => lss_i _ _ ((j + 1 : Nat) : Int) ((6 : Nat) : Int) _ uZ hl)) on
      intro u7 HB7 sz7 K7
      simp only [fX, nK, nP, Wr.f, aK, pM] at K7
      simp only [setG, setN, List.set_cons_zero, List.set_cons_succ]
      go_upto_region 13 with fail
      refine rgP K7 HB7 HB7.size [] [] [(0, 52, .slice (some ⟨b5, 0, none⟩) j c5), (1, 2, .slice (some ⟨b5, 0, none⟩) j c5), (2, 3, (Go.Value.int Go.IntKind.i64 0))] [] [] [] ?_ ?_
      · refine oc g_mv ?_
        refine oc g_as ?_
        exact oc g_as on
      intro u8 HB8 sz8 K8
      simp only [fX, nK, nP, Wr.f, aK, pM] at K8
      simp only [setG, setN, List.set_cons_zero, List.set_cons_succ]
      clear K7 HB7
      go_wp2
      refine bodyPost_ret (v := .tuple #[.slice (some ⟨b5, 0, none⟩) j c5, .int .i64 0]) (by simp [results, Try.results26, go_sem]) rfl ⟨_, rfl, ⟨_, rfl, b5, c5, by rw [hjn], hb5, K8.lt 0, by omega, by rw [← hjn]; exact (K8.cv 0).pre2⟩, HB8⟩
end Go.Proofs.Ytgfggkinmhhdnaa
