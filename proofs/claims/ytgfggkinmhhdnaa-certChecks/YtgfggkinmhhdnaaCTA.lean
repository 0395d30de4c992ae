import Derived.Test.YtgfggkinmhhdnaaRC
import Derived.Test.YtgfggkinmhhdnaaRG
import Derived.Test.YtgfggkinmhhdnaaCT3
/- Primes that are certified: the chain of steps. -/
namespace Go.Proofs.Ytgfggkinmhhdnaa
open Go.RowKit
set_option linter.unusedVariables false
set_option linter.unusedSimpArgs false
theorem bsN3 (a b c : Int) (w : World) : (Instr.buildSlice 72 3 ([0, 1, 2].zip [NV a, NV b, NV c]).toArray).run Try.prog w = .ok (.slice (some ⟨w.heap.size, 0, none⟩) 3 3) (w.alloc (.cells (flN [a, b, c]).toArray 24)) := by kernel_rfl
theorem bdC (n f a : Int) (w : World) : (Instr.build 26 [(0, NV n), (1, NV f), (2, NV a)].toArray).run Try.prog w = .ok (CX n f a) w := by kernel_rfl
theorem bsC1 (n f a : Int) (w : World) : (Instr.buildSlice 31 1 ([0].zip [CX n f a]).toArray).run Try.prog w = .ok (.slice (some ⟨w.heap.size, 0, none⟩) 1 1) (w.alloc (.cells (CE n f a).toArray 26)) := by kernel_rfl
theorem infoC : (Try.prog.info? 26).map (fun i => (i.zero, i.size, i.bytes)) = some (some (CX 0 0 0), 12, 96) := by kernel_rfl
/-- The steps that the numbers make: each the F of the next. -/
def stp (ns : List Int) : Nat → List (Int × Int × Int)
  | 0 => []
  | j + 1 => stp ns j ++ [(ns.getD (j + 1) 0, ns.getD j 0, 2)]
theorem stp_len (ns : List Int) : ∀ j, (stp ns j).length = j
  | 0 => rfl
  | j + 1 => by rw [stp, List.length_append, stp_len ns j]; rfl
theorem flC_len : ∀ cs : List (Int × Int × Int), (flC cs).length = cs.length * 12
  | [] => rfl
  | c :: r => by rw [flC, List.length_append, flC_len r, List.length_cons]; simp; omega
theorem flC_app : ∀ a b : List (Int × Int × Int), flC (a ++ b) = flC a ++ flC b
  | [], _ => rfl
  | c :: r, b => by rw [List.cons_append, flC, flC, flC_app r b, List.append_assoc]
theorem flC_stp (ns : List Int) (j : Nat) : flC (stp ns (j + 1)) = flC (stp ns j) ++ CE (ns.getD (j + 1) 0) (ns.getD j 0) 2 := by
  rw [stp, flC_app]; simp [flC]
theorem CE_one {n f a : Int} : ∀ v ∈ CE n f a, v.oneCell' = true := fun v hv => by
  simp only [CE, List.mem_cons, List.not_mem_nil, or_false] at hv
  rcases hv with rfl | rfl | rfl | rfl | rfl | rfl | rfl | rfl | rfl | rfl | rfl | rfl <;> rfl
theorem flN_at : ∀ (ns : List Int) (k : Nat), k < ns.length → ∀ j v, (LN (ns.getD k 0))[j]? = some v → (flN ns)[4 * k + j]? = some v
  | [], k, h, _, _, _ => by simp at h
  | n :: r, 0, h, j, v, hj => by
    rw [flN, List.getElem?_append_left (by have := (List.getElem?_eq_some_iff.1 hj).1; simpa using this)]
    simpa using hj
  | n :: r, k + 1, h, j, v, hj => by
    rw [flN, List.getElem?_append_right (by simp; omega)]
    have := flN_at r k (by simpa using h) j v (by simpa using hj)
    simpa [show 4 * (k + 1) + j - 4 = 4 * k + j by omega] using this
theorem slN1 (b n cap : Nat) (h : 2 ≤ n) (hc : n ≤ cap) (w : World) : (Instr.sliceAt 72 (.slice (some ⟨b, 0, none⟩) n cap) (some (.int .i64 1)) none none).run Try.prog w = .ok (.slice (some ⟨b, 4, none⟩) (n - 1) (cap - 1)) w := by
  have h1 : (1 : Int) ≤ n := by omega
  have h2 : (n : Int) ≤ cap := by omega
  have h3 : 1 ≤ cap := by omega
  have h4 : 1 ≤ n := by omega
  have h5 : ¬ cap = 1 := by omega
  have h6 : ¬ cap - 1 = 0 := by omega
  simp [Instr.sliceAt, Instr.slice, go_sem, Try.underlying72, h1, h2, h3, h4, h5, h6, hc]
theorem add_drop {xs news zs : List Value} : xs ++ (zs.take 12) ++ (zs.drop 12) = xs ++ zs := by rw [List.append_assoc, List.take_append_drop]
theorem ent_cert_primes (vs : Array Value) (w : World) : (callFunc 42 vs).run Try.prog w = .ok (.enter 42 vs) w := by kernel_rfl
theorem ent_cert_Chain (vs : Array Value) (w : World) : (callFunc 25 vs).run Try.prog w = .ok (.enter 25 vs) w := by kernel_rfl
set_option maxRecDepth 100000 in
set_option maxHeartbeats 4000000 in
theorem cPrimes0 (w : World) : Calls Try.prog 42 #[.int .i64 0] w fun e w' => ∃ v, e = .returned v ∧ PS w.heap.size 3 (flN [131101, 581039633, 1162079267]) w' v ∧ Below w.heap.size w w' := by
  go_enter Try.func42, Try.ntmps42
  have HB0 : Below w.heap.size w w := Below.refl _ _
  have K0_1 := Bk.nil (w.heap.size) w
  go_upto_region 1 with fail
  refine rgP K0_1 HB0 HB0.size [] [] [(0, 3, .int .i64 0)] [] [] [] ?_ ?_
  · exact oc g_mv on
  intro u1 HB1 sz1 K1
  simp only [fX, nK, nP, Wr.f, aK, pM] at K1
  simp only [setG, setN, List.set_cons_zero, List.set_cons_succ]
  clear HB0
  go_upto_region 2 with fail
  refine rgP K1 HB1 HB1.size [] [] [(0, 5, .bool true), (1, 4, .bool true)] [] [] [] ?_ ?_
  · refine oc (g_bn (fun uZ => eql_i _ _ _ 0 0 _ uZ rfl)) ?_
    exact oc g_as on
  intro u2 HB2 sz2 K2
  simp only [fX, nK, nP, Wr.f, aK, pM] at K2
  simp only [setG, setN, List.set_cons_zero, List.set_cons_succ]
  clear K1 HB1
  go_upto_region 3 with fail
  refine rgF K2 HB2 HB2.size [] [] [(0, 6, NV 131101), (1, 7, NV 581039633), (2, 8, NV 1162079267)] [] [] [⟨3, 9, some 4, PS u2.heap.size 3 (flN [131101, 581039633, 1162079267])⟩, ⟨4, 2, none, PS u2.heap.size 3 (flN [131101, 581039633, 1162079267])⟩] [] (.cons (fun _ _ _ h1 h2 => h2.stab h1) <| .cons (fun _ _ _ h1 h2 => h2.stab h1) <| Stab.nil) ?_ ?_
  · refine oc (g_cl ent_limb_Of (fun uZ => nOf 131101 uZ (by omega) (by omega))) ?_
    refine oc (g_cl ent_limb_Of (fun uZ => nOf 581039633 uZ (by omega) (by omega))) ?_
    refine oc (g_cl ent_limb_Of (fun uZ => nOf 1162079267 uZ (by omega) (by omega))) ?_
    refine oc (g_bR 0 (PS u2.heap.size 3 (flN [131101, 581039633, 1162079267])) [0, 1, 2] [NV 131101, NV 581039633, NV 1162079267] (flN [131101, 581039633, 1162079267]) (bsN3 _ _ _) (fun u hu => PS.new 3 _ _ u hu)) ?_
    exact oc (g_sE 0 1 (PS u2.heap.size 3 (flN [131101, 581039633, 1162079267]))) on
  intro u3 v3_3 hv3_3 v3_4 hv3_4 HB3 sz3 K3
  simp only [fX, nK, nP, Wr.f, aK, pM] at K3
  simp only [setG, setN, setE, List.set_cons_zero, List.set_cons_succ]
  clear K2 HB2
  have hP := hv3_4 rfl
  go_wp2
  refine bodyPost_ret (v := v3_4) (by simp [results, Try.results42, go_sem]) rfl ⟨_, rfl, hP.mono (by omega), HB3⟩
set_option maxRecDepth 100000 in
set_option maxHeartbeats 4000000 in
theorem cChain (k : Int) (ns : List Int) (w : World) (h2 : 2 ≤ ns.length) (hle : ns.length ≤ 20) (hin : Hid (∀ j, j < ns.length → In (ns.getD j 0)))
    (hP : Hid (∀ u, Calls Try.prog 42 #[.int .i64 k] u fun e u' => ∃ v, e = .returned v ∧ PS u.heap.size ns.length (flN ns) u' v ∧ Below u.heap.size u u')) :
    Calls Try.prog 25 #[.int .i64 k] w fun e w' => ∃ v, e = .returned v ∧ PT 0 w.heap.size (ns.length - 1) (flC (stp ns (ns.length - 1))) w' v ∧ Below w.heap.size w w' := by
  have hne : ((ns.length : Int) == 0) = false := by rw [beq_eq_false_iff_ne]; omega
  go_enter Try.func25, Try.ntmps25
  have HB0 : Below w.heap.size w w := Below.refl _ _
  have K0_1 := Bk.nil (w.heap.size) w
  go_upto_region 1 with fail
  refine rgF K0_1 HB0 HB0.size [] [] [(0, 8, .int .i64 k)] [] [] [⟨1, 9, some 2, PS w.heap.size ns.length (flN ns)⟩, ⟨2, 4, none, PS w.heap.size ns.length (flN ns)⟩] [] (.cons (fun _ _ _ h1 h2 => h2.stab h1) <| .cons (fun _ _ _ h1 h2 => h2.stab h1) <| Stab.nil) ?_ ?_
  · refine oc g_mv ?_
    refine oc (g_cE 0 (PS w.heap.size ns.length (flN ns)) ent_cert_primes (fun u hB hs => (hP.out u).mono fun e u2 ⟨v, e1, h1, h2⟩ => ⟨v, e1, h1.mono hs, h2⟩)) ?_
    exact oc (g_sE 0 1 (PS w.heap.size ns.length (flN ns))) on
  intro u1 v1_1 hv1_1 v1_2 hv1_2 HB1 sz1 K1
  simp only [fX, nK, nP, Wr.f, aK, pM] at K1
  simp only [setG, setN, setE, List.set_cons_zero, List.set_cons_succ]
  clear HB0
  obtain ⟨bL, cL, rfl, ho1, ho2, hcap, hoC⟩ := hv1_2 rfl
  have K1xpr := Bk.more3 K0_1 K1 ho1 ho2 hoC (by intro x hx; first | (simp at hx; done) | (simp at hx ⊢; omega))
  simp only [aK] at K1xpr
  clear K1
  have hlB : w.heap.size ≤ bL := ho1
  go_upto_region 2 with fail
  refine rgP K1xpr HB1 HB1.size [] [] [(0, 10, .slice (some ⟨bL, 0, none⟩) ns.length cL), (1, 11, .int .i64 (ns.length : Int)), (2, 12, .bool false)] [] [] [] ?_ ?_
  · refine oc g_mv ?_
    refine oc (g_ln Try.underlying72) ?_
    exact oc (g_bn (fun uZ => eql_i _ _ _ (ns.length : Int) 0 _ uZ hne)) on
  intro u2 HB2 sz2 K2
  simp only [fX, nK, nP, Wr.f, aK, pM] at K2
  simp only [setG, setN, List.set_cons_zero, List.set_cons_succ]
  clear HB1
  go_upto_region 4 with fail
  refine rgP K2 HB2 HB2.size [] [] [(0, 5, (Go.Value.slice Option.none 0 0))] [] [] [] ?_ ?_
  · exact oc g_as on
  intro u3 HB3 sz3 K3
  simp only [fX, nK, nP, Wr.f, aK, pM] at K3
  simp only [setG, setN, List.set_cons_zero, List.set_cons_succ]
  clear K2 HB2
  go_upto_region 5 with fail
  refine rgP K3 HB3 HB3.size [] [] [(0, 13, .slice (some ⟨bL, 0, none⟩) ns.length cL), (1, 14, .slice (some ⟨bL, 4, none⟩) (ns.length - 1) (cL - 1)), (2, 15, .int .i64 ((ns.length - 1 : Nat) : Int)), (3, 16, (Go.Value.int Go.IntKind.i64 0))] [] [] [] ?_ ?_
  · refine oc g_mv ?_
    refine oc (g_sl (fun uZ => slN1 bL ns.length cL h2 hcap uZ)) ?_
    refine oc (g_ln Try.underlying72) ?_
    exact oc g_mv on
  intro u4 HB4 sz4 K4
  simp only [fX, nK, nP, Wr.f, aK, pM] at K4
  simp only [setG, setN, List.set_cons_zero, List.set_cons_succ]
  clear K3 HB3
  go_wp2_with fail
  go_loopw [16, 5] (fun s16 s5 wr => ∃ (j : Nat), j ≤ ns.length - 1 ∧ s16 = .int .i64 (j : Int) ∧ ((j = 0 ∧ s5 = .slice none 0 0) ∨ ∃ b cap zs, s5 = .slice (some ⟨b, 0, none⟩) j cap ∧ w.heap.size ≤ b ∧ b < wr.heap.size ∧ b ≠ bL ∧ j ≤ cap ∧ List.length (α := Value) zs = (cap - j) * 12 ∧ Hid (CV wr b (flC (stp ns j) ++ zs))) ∧ Below w.heap.size w wr ∧ Hid (CV wr bL (flN ns)) ∧ bL < wr.heap.size) (fun s16 _ _ => ns.length - (intOf s16).toNat)
  case atStart => exact ⟨0, by omega, rfl, .inl ⟨rfl, rfl⟩, HB4, (K4.cv 0), (K4.lt 0)⟩
  case round =>
    obtain ⟨j, hj, rfl, hrow, HBr, hKL, hLr⟩ := hrel
    clear HB4
    have hwr := HBr.size
    by_cases hjl : j < ns.length - 1
    · have hl : decide ((j : Int) < ((ns.length - 1 : Nat) : Int)) = true := by simp; omega
      obtain ⟨y, ey⟩ : ∃ y, ns.getD (j + 1) 0 = y := ⟨_, rfl⟩
      obtain ⟨z, ez⟩ : ∃ z, ns.getD j 0 = z := ⟨_, rfl⟩
      have hy := flN_at ns (j + 1) (by omega)
      have hz := flN_at ns j (by omega)
      have hf := flC_stp ns j
      have hsl := flC_len (stp ns j)
      rw [stp_len] at hsl
      rw [ey] at hy hf
      rw [ez] at hz hf
      have hy : Hid _ := hy
      have hz : Hid _ := hz
      have hf : Hid _ := hf
      have hI := hin.out
      obtain ⟨ti, hti, hm⟩ := Option.map_eq_some_iff.1 infoC
      simp only [Prod.mk.injEq] at hm
      obtain ⟨hzv, hsz, hby⟩ := hm
      clear ey ez
      rcases hrow with ⟨hj0, rfl⟩ | ⟨b5, c5, zs, rfl, hb5, hl5, hbl, hjc, hzl, hC5⟩
      · skip
        have K4_2 : Bk w.heap.size wr [(false, bL, flN ns)] := ⟨.c hLr hKL.out <| trivial, by simp⟩
        go_upto_region 6 with fail
        refine rgP K4_2 HBr HBr.size [] [] [(0, 17, .bool true)] [] [] [] ?_ ?_
        · exact oc (g_bn (fun uZ => lss_i _ _ (j : Int) ((ns.length - 1 : Nat) : Int) _ uZ hl)) on
        intro u5 HB5 sz5 K5
        simp only [fX, nK, nP, Wr.f, aK, pM] at K5
        simp only [setG, setN, List.set_cons_zero, List.set_cons_succ]
        go_upto_region 7 with fail
        refine rgP K5 HB5 HB5.size [] [(3, 7, L0s, some (5, LN y))] [(0, 18, .int .i64 (j : Int)), (1, 19, .pointer (some ⟨bL, 4 + 4 * j, none⟩)), (2, 20, NV y), (4, 6, .int .i64 (j : Int))] [(5, 3)] [] [] ?_ ?_
        · refine oc g_mv ?_
          refine oc (g_ix (fun uZ => ixS bL 4 (ns.length - 1) (cL - 1) j hjl uZ)) ?_
          refine oc (g_lR 0 (4 + 4 * j) (cs := LN y) ((by rw [show 4 + 4 * j = 4 * (j + 1) by omega]; exact hy.out)) uN iN) ?_
          refine oc (g_al 0 aN) ?_
          refine oc g_as ?_
          exact oc (g_sn 0 iN) on
        intro u6 b6_3 HB6 sz6 K6
        simp only [fX, nK, nP, Wr.f, aK, pM] at K6
        simp only [setG, setN, List.set_cons_zero, List.set_cons_succ]
        clear K5 HB5
        go_upto_region 8 with fail
        refine rgE K6 HB6 HB6.size [] [] [(0, 21, .slice none 0 0), (1, 22, NV y), (2, 23, .slice (some ⟨bL, 0, none⟩) ns.length cL), (3, 24, .int .i64 (j : Int)), (4, 25, .pointer (some ⟨bL, 0 + 4 * j, none⟩)), (5, 26, NV z), (6, 27, NV 2), (7, 28, CX (y) (z) (2))] [(10, 0)] [(10, 5)] [⟨8, 29, some 9, P1 (CE y z 2)⟩, ⟨9, 30, some 10, PG u6.heap.size ti.size (j + 1) (flC (stp ns j) ++ CE y z 2)⟩, ⟨10, 5, none, PG u6.heap.size ti.size (j + 1) (flC (stp ns j) ++ CE y z 2)⟩] [true, false] (.cons (fun _ _ _ h1 h2 => h2.stab h1) <| .cons (fun _ _ _ h1 h2 => h2.stab h1) <| .cons (fun _ _ _ h1 h2 => h2.stab h1) <| Stab.nil) ?_ ?_
        · refine oc g_mv ?_
          refine oc (g_ld 1 uN iN) ?_
          refine oc g_mv ?_
          refine oc g_mv ?_
          refine oc (g_ix (fun uZ => ixS bL 0 ns.length cL j (by omega) uZ)) ?_
          refine oc (g_lR 0 (0 + 4 * j) (cs := LN z) ((by rw [Nat.zero_add]; exact hz.out)) uN iN) ?_
          refine oc (g_cl ent_limb_Of (fun uZ => nOf 2 uZ (by omega) (by omega))) ?_
          refine oc (g_bd (fun uZ => bdC _ _ _ uZ)) ?_
          refine oc (g_bR 0 (P1 (CE y z 2)) [0] [CX y z 2] (CE y z 2) (bsC1 _ _ _) (fun u hu => P1.new _ _ u)) ?_
          refine oc (g_pG 0 1 (P1 (CE y z 2)) (xs := flC (stp ns j)) (news := CE y z 2) Try.underlying31 hti hzv (by rw [hsz]; rfl) P1.at hsz.symm (fun f u kZ => ⟨by rw [hsz]; exact hsl, .inl ⟨rfl, hj0⟩⟩) (by rw [hby]; omega) (by omega)) ?_
          exact oc (g_sE 1 2 (PG u6.heap.size ti.size (j + 1) (flC (stp ns j) ++ CE y z 2))) on
        intro u7 v7_8 hv7_8 v7_9 hv7_9 v7_10 hv7_10 HB7 sz7 K7
        simp only [fX, nK, nP, Wr.f, aK, pM] at K7
        simp only [setG, setN, setE, List.set_cons_zero, List.set_cons_succ]
        clear HB6
        obtain ⟨b6, c6, zs6, rfl, ho1, ho2, hc6, hz6, hoC⟩ := hv7_10 rfl
        have K7xrow6 := Bk.more3 K6 K7 ho1 ho2 hoC (by intro x hx; first | (simp at hx; done) | (simp at hx ⊢; omega))
        simp only [aK] at K7xrow6
        clear K7
        rw [hsz] at hz6
        have hb6' : b6 ≠ bL := by have := (K6.lt 0); omega
        have hw6 : w.heap.size ≤ b6 := by omega
        go_upto_region 9 with fail
        refine rgP K7xrow6 HB7 HB7.size [] [] [(0, 31, .int .i64 ((j + 1 : Nat) : Int)), (1, 16, .int .i64 ((j + 1 : Nat) : Int))] [(1, 0)] [(1, 16)] [] ?_ ?_
        · refine oc (g_bn (fun uZ => add_i _ _ (j : Int) 1 ((j + 1 : Nat) : Int) uZ (by omega) (by omega) (by omega))) ?_
          exact oc g_mv on
        intro u8 HB8 sz8 K8
        simp only [fX, nK, nP, Wr.f, aK, pM] at K8
        simp only [setG, setN, List.set_cons_zero, List.set_cons_succ]
        clear HB7
        go_wp2
        refine ⟨⟨j + 1, by omega, rfl, .inr ⟨b6, c6, zs6, rfl, hw6, (K8.lt 1), hb6', hc6, hz6, (by rw [hf.out]; exact (K8.cv 1))⟩, HB8, (K8.cv 0), (K8.lt 0)⟩, ?_⟩
        simp [intOf] <;> omega
      · by_cases hrm : j + 1 ≤ c5
        · have hC5 : CV wr b5 (flC (stp ns j) ++ zs.take 12 ++ zs.drop 12) := by rw [add_drop (news := [])]; exact hC5.out
          have K4_2 : Bk w.heap.size wr [(false, bL, flN ns), (true, b5, flC (stp ns j) ++ zs.take 12 ++ zs.drop 12)] := ⟨.c hLr hKL.out <| .o hl5 (by omega) hC5 <| trivial, by simp; omega⟩
          go_upto_region 6 with fail
          refine rgP K4_2 HBr HBr.size [] [] [(0, 17, .bool true)] [] [] [] ?_ ?_
          · exact oc (g_bn (fun uZ => lss_i _ _ (j : Int) ((ns.length - 1 : Nat) : Int) _ uZ hl)) on
          intro u5 HB5 sz5 K5
          simp only [fX, nK, nP, Wr.f, aK, pM] at K5
          simp only [setG, setN, List.set_cons_zero, List.set_cons_succ]
          go_upto_region 7 with fail
          refine rgP K5 HB5 HB5.size [] [(3, 7, L0s, some (5, LN y))] [(0, 18, .int .i64 (j : Int)), (1, 19, .pointer (some ⟨bL, 4 + 4 * j, none⟩)), (2, 20, NV y), (4, 6, .int .i64 (j : Int))] [(5, 3)] [] [] ?_ ?_
          · refine oc g_mv ?_
            refine oc (g_ix (fun uZ => ixS bL 4 (ns.length - 1) (cL - 1) j hjl uZ)) ?_
            refine oc (g_lR 0 (4 + 4 * j) (cs := LN y) ((by rw [show 4 + 4 * j = 4 * (j + 1) by omega]; exact hy.out)) uN iN) ?_
            refine oc (g_al 0 aN) ?_
            refine oc g_as ?_
            exact oc (g_sn 0 iN) on
          intro u6 b6_3 HB6 sz6 K6
          simp only [fX, nK, nP, Wr.f, aK, pM] at K6
          simp only [setG, setN, List.set_cons_zero, List.set_cons_succ]
          clear K5 HB5
          go_upto_region 8 with fail
          refine rgE K6 HB6 HB6.size [.no, .all 9 (flC (stp ns j) ++ CE y z 2 ++ zs.drop 12)] [] [(0, 21, .slice (some ⟨b5, 0, none⟩) j c5), (1, 22, NV y), (2, 23, .slice (some ⟨bL, 0, none⟩) ns.length cL), (3, 24, .int .i64 (j : Int)), (4, 25, .pointer (some ⟨bL, 0 + 4 * j, none⟩)), (5, 26, NV z), (6, 27, NV 2), (7, 28, CX (y) (z) (2)), (9, 30, .slice (some ⟨b5, 0, none⟩) (j + 1) c5), (10, 5, .slice (some ⟨b5, 0, none⟩) (j + 1) c5)] [(10, 0)] [(10, 5)] [⟨8, 29, some 9, P1 (CE y z 2)⟩] [true, true, false] (.cons (fun _ _ _ h1 h2 => h2.stab h1) <| Stab.nil) ?_ ?_
          · refine oc g_mv ?_
            refine oc (g_ld 2 uN iN) ?_
            refine oc g_mv ?_
            refine oc g_mv ?_
            refine oc (g_ix (fun uZ => ixS bL 0 ns.length cL j (by omega) uZ)) ?_
            refine oc (g_lR 0 (0 + 4 * j) (cs := LN z) ((by rw [Nat.zero_add]; exact hz.out)) uN iN) ?_
            refine oc (g_cl ent_limb_Of (fun uZ => nOf 2 uZ (by omega) (by omega))) ?_
            refine oc (g_bd (fun uZ => bdC _ _ _ uZ)) ?_
            refine oc (g_bR 0 (P1 (CE y z 2)) [0] [CX y z 2] (CE y z 2) (bsC1 _ _ _) (fun u hu => P1.new _ _ u)) ?_
            refine oc (g_pI 1 0 (P1 (CE y z 2)) (xs := flC (stp ns j)) (ys := zs.take 12) (zs := zs.drop 12) (news := CE y z 2) Try.underlying31 hti P1.at CE_one hsz.symm (by rw [hsz]; exact hsl) (by rw [List.length_take]; simp; omega) hrm) ?_
            exact oc g_as on
          intro u7 v7_8 hv7_8 HB7 sz7 K7
          simp only [fX, nK, nP, Wr.f, aK, pM] at K7
          simp only [setG, setN, setE, List.set_cons_zero, List.set_cons_succ]
          clear K6 HB6
          go_upto_region 9 with fail
          refine rgP K7 HB7 HB7.size [] [] [(0, 31, .int .i64 ((j + 1 : Nat) : Int)), (1, 16, .int .i64 ((j + 1 : Nat) : Int))] [(1, 0)] [(1, 16)] [] ?_ ?_
          · refine oc (g_bn (fun uZ => add_i _ _ (j : Int) 1 ((j + 1 : Nat) : Int) uZ (by omega) (by omega) (by omega))) ?_
            exact oc g_mv on
          intro u8 HB8 sz8 K8
          simp only [fX, nK, nP, Wr.f, aK, pM] at K8
          simp only [setG, setN, List.set_cons_zero, List.set_cons_succ]
          clear K7 HB7
          go_wp2
          refine ⟨⟨j + 1, by omega, rfl, .inr ⟨b5, c5, zs.drop 12, rfl, hb5, (K8.lt 1), hbl, hrm, (by rw [List.length_drop]; omega), (by rw [hf.out]; exact (K8.cv 1))⟩, HB8, (K8.cv 0), (K8.lt 0)⟩, ?_⟩
          simp [intOf] <;> omega
        · have ec : j = c5 := by omega
          subst ec
          have K4_2 : Bk w.heap.size wr [(false, bL, flN ns), (false, b5, flC (stp ns j) ++ zs)] := ⟨.c hLr hKL.out <| .c hl5 hC5.out <| trivial, by simp; omega⟩
          go_upto_region 6 with fail
          refine rgP K4_2 HBr HBr.size [] [] [(0, 17, .bool true)] [] [] [] ?_ ?_
          · exact oc (g_bn (fun uZ => lss_i _ _ (j : Int) ((ns.length - 1 : Nat) : Int) _ uZ hl)) on
          intro u5 HB5 sz5 K5
          simp only [fX, nK, nP, Wr.f, aK, pM] at K5
          simp only [setG, setN, List.set_cons_zero, List.set_cons_succ]
          go_upto_region 7 with fail
          refine rgP K5 HB5 HB5.size [] [(3, 7, L0s, some (5, LN y))] [(0, 18, .int .i64 (j : Int)), (1, 19, .pointer (some ⟨bL, 4 + 4 * j, none⟩)), (2, 20, NV y), (4, 6, .int .i64 (j : Int))] [(5, 3)] [] [] ?_ ?_
          · refine oc g_mv ?_
            refine oc (g_ix (fun uZ => ixS bL 4 (ns.length - 1) (cL - 1) j hjl uZ)) ?_
            refine oc (g_lR 0 (4 + 4 * j) (cs := LN y) ((by rw [show 4 + 4 * j = 4 * (j + 1) by omega]; exact hy.out)) uN iN) ?_
            refine oc (g_al 0 aN) ?_
            refine oc g_as ?_
            exact oc (g_sn 0 iN) on
          intro u6 b6_3 HB6 sz6 K6
          simp only [fX, nK, nP, Wr.f, aK, pM] at K6
          simp only [setG, setN, List.set_cons_zero, List.set_cons_succ]
          clear K5 HB5
          go_upto_region 8 with fail
          refine rgE K6 HB6 HB6.size [] [] [(0, 21, .slice (some ⟨b5, 0, none⟩) j j), (1, 22, NV y), (2, 23, .slice (some ⟨bL, 0, none⟩) ns.length cL), (3, 24, .int .i64 (j : Int)), (4, 25, .pointer (some ⟨bL, 0 + 4 * j, none⟩)), (5, 26, NV z), (6, 27, NV 2), (7, 28, CX (y) (z) (2))] [(10, 0)] [(10, 5)] [⟨8, 29, some 9, P1 (CE y z 2)⟩, ⟨9, 30, some 10, PG u6.heap.size ti.size (j + 1) (flC (stp ns j) ++ CE y z 2)⟩, ⟨10, 5, none, PG u6.heap.size ti.size (j + 1) (flC (stp ns j) ++ CE y z 2)⟩] [true, false, false] (.cons (fun _ _ _ h1 h2 => h2.stab h1) <| .cons (fun _ _ _ h1 h2 => h2.stab h1) <| .cons (fun _ _ _ h1 h2 => h2.stab h1) <| Stab.nil) ?_ ?_
          · refine oc g_mv ?_
            refine oc (g_ld 2 uN iN) ?_
            refine oc g_mv ?_
            refine oc g_mv ?_
            refine oc (g_ix (fun uZ => ixS bL 0 ns.length cL j (by omega) uZ)) ?_
            refine oc (g_lR 0 (0 + 4 * j) (cs := LN z) ((by rw [Nat.zero_add]; exact hz.out)) uN iN) ?_
            refine oc (g_cl ent_limb_Of (fun uZ => nOf 2 uZ (by omega) (by omega))) ?_
            refine oc (g_bd (fun uZ => bdC _ _ _ uZ)) ?_
            refine oc (g_bR 0 (P1 (CE y z 2)) [0] [CX y z 2] (CE y z 2) (bsC1 _ _ _) (fun u hu => P1.new _ _ u)) ?_
            refine oc (g_pG 0 1 (P1 (CE y z 2)) (xs := flC (stp ns j)) (news := CE y z 2) Try.underlying31 hti hzv (by rw [hsz]; rfl) P1.at hsz.symm (fun f u kZ => ⟨by rw [hsz]; exact hsl, .inr ⟨b5, rfl, (KC.cv kZ 1).pre2⟩⟩) (by rw [hby]; omega) (by omega)) ?_
            exact oc (g_sE 1 2 (PG u6.heap.size ti.size (j + 1) (flC (stp ns j) ++ CE y z 2))) on
          intro u7 v7_8 hv7_8 v7_9 hv7_9 v7_10 hv7_10 HB7 sz7 K7
          simp only [fX, nK, nP, Wr.f, aK, pM] at K7
          simp only [setG, setN, setE, List.set_cons_zero, List.set_cons_succ]
          clear HB6
          obtain ⟨b6, c6, zs6, rfl, ho1, ho2, hc6, hz6, hoC⟩ := hv7_10 rfl
          have K7xrow6 := Bk.more3 K6 K7 ho1 ho2 hoC (by intro x hx; first | (simp at hx; done) | (simp at hx ⊢; omega))
          simp only [aK] at K7xrow6
          clear K7
          rw [hsz] at hz6
          have hb6' : b6 ≠ bL := by have := (K6.lt 0); omega
          have hw6 : w.heap.size ≤ b6 := by omega
          go_upto_region 9 with fail
          refine rgP K7xrow6 HB7 HB7.size [] [] [(0, 31, .int .i64 ((j + 1 : Nat) : Int)), (1, 16, .int .i64 ((j + 1 : Nat) : Int))] [(1, 0)] [(1, 16)] [] ?_ ?_
          · refine oc (g_bn (fun uZ => add_i _ _ (j : Int) 1 ((j + 1 : Nat) : Int) uZ (by omega) (by omega) (by omega))) ?_
            exact oc g_mv on
          intro u8 HB8 sz8 K8
          simp only [fX, nK, nP, Wr.f, aK, pM] at K8
          simp only [setG, setN, List.set_cons_zero, List.set_cons_succ]
          clear HB7
          go_wp2
          refine ⟨⟨j + 1, by omega, rfl, .inr ⟨b6, c6, zs6, rfl, hw6, (K8.lt 1), hb6', hc6, hz6, (by rw [hf.out]; exact (K8.cv 1))⟩, HB8, (K8.cv 0), (K8.lt 0)⟩, ?_⟩
          simp [intOf] <;> omega
    · have hl : decide ((j : Int) < ((ns.length - 1 : Nat) : Int)) = false := by simp; omega
      have hjn : j = ns.length - 1 := by omega
      rcases hrow with ⟨hj0, rfl⟩ | ⟨b5, c5, zs, rfl, hb5, hl5, hbl, hjc, hzl, hC5⟩
      · omega
      have K4_2 : Bk w.heap.size wr [(false, b5, flC (stp ns j) ++ zs)] := ⟨.c hl5 hC5.out <| trivial, by simp⟩
      go_upto_region 6 with fail
      refine rgP K4_2 HBr HBr.size [] [] [(0, 17, .bool false)] [] [] [] ?_ ?_
      · exact oc (g_bn (fun uZ => lss_i _ _ (j : Int) ((ns.length - 1 : Nat) : Int) _ uZ hl)) on
      intro u5 HB5 sz5 K5
      simp only [fX, nK, nP, Wr.f, aK, pM] at K5
      simp only [setG, setN, List.set_cons_zero, List.set_cons_succ]
      go_upto_region 10 with fail
      refine rgP K5 HB5 HB5.size [] [] [(0, 32, .slice (some ⟨b5, 0, none⟩) j c5), (1, 2, .slice (some ⟨b5, 0, none⟩) j c5), (2, 3, (Go.Value.int Go.IntKind.i64 0))] [] [] [] ?_ ?_
      · refine oc g_mv ?_
        refine oc g_as ?_
        exact oc g_as on
      intro u6 HB6 sz6 K6
      simp only [fX, nK, nP, Wr.f, aK, pM] at K6
      simp only [setG, setN, List.set_cons_zero, List.set_cons_succ]
      clear K5 HB5
      go_wp2
      refine bodyPost_ret (v := .tuple #[.slice (some ⟨b5, 0, none⟩) j c5, .int .i64 0]) (by simp [results, Try.results25, go_sem]) rfl ⟨_, rfl, ⟨_, rfl, b5, c5, by rw [hjn], hb5, K6.lt 0, by omega, by rw [← hjn]; exact (K6.cv 0).pre2⟩, HB6⟩
end Go.Proofs.Ytgfggkinmhhdnaa
/- Primes that are certified: Check. -/
namespace Go.Proofs.Ytgfggkinmhhdnaa
open Go.RowKit
set_option linter.unusedVariables false
set_option linter.unusedSimpArgs false
theorem ent_cert_Check (vs : Array Value) (w : World) : (callFunc 15 vs).run Try.prog w = .ok (.enter 15 vs) w := by kernel_rfl
set_option maxRecDepth 100000 in
set_option maxHeartbeats 4000000 in
theorem cCheck_false (cs : List (Int × Int × Int)) (n : Int) (sl : Option Addr) (gb go cap : Nat) (w : World) (hb : cfB cs = false) (hlast : (cat cs (cs.length - 1)).1 = n) (hcs : cs.length ≤ 256) (hin : Hid (∀ j, j < cs.length → In (cat cs j).1 ∧ In (cat cs j).2.1 ∧ In (cat cs j).2.2)) (hix : Hid (∀ j, j < cs.length → ∀ W, (Instr.indexAt 31 (.slice sl cs.length cap) (.int .i64 j)).run Try.prog W = .ok (.pointer (some ⟨gb, go + 12 * j, none⟩)) W)) (hg : cs.length = 0 ∨ gb < w.heap.size) (hS : Hid (SCt w gb go cs)) :
    Calls Try.prog 15 #[.slice sl cs.length cap] w fun e w' => e = .returned (.tuple #[A4 0 0 0 0, .int .i64 30]) ∧ Below w.heap.size w w' := by
  go_enter Try.func15, Try.ntmps15
  go_upto_region 1 with fail
  generalize hC : (w.alloc (.cells (L0s : List Value).toArray 24)) = v0 at *
  have HB0 : Below w.heap.size w v0 := by rw [← hC]; exact balloc (bself w) _
  have K0 : Bk w.heap.size v0 [(true, w.heap.size, L0s)] := by rw [← hC]; exact (Bk.nil _ w).ad
  clear hC
  have hl : decide (256 < (cs.length : Int)) = false := by simp; omega
  refine rgP K0 HB0 HB0.size [] [] [(0, 5, .slice sl cs.length cap), (1, 6, .int .i64 (cs.length : Int)), (2, 7, .bool false), (3, 4, .bool false)] [] [] [] ?_ ?_
  · refine oc g_mv ?_
    refine oc (g_ln Try.underlying31) ?_
    refine oc (g_bn (fun uZ => gtr_i _ _ (cs.length : Int) 256 _ uZ hl)) ?_
    exact oc g_as on
  intro u1 HB1 sz1 K1
  simp only [fX, nK, nP, Wr.f, aK, pM] at K1
  simp only [setG, setN, List.set_cons_zero, List.set_cons_succ]
  clear K0 HB0
  go_upto_region 3 with fail
  refine rgP K1 HB1 HB1.size [] [] [(0, 10, .slice sl cs.length cap), (1, 11, .bool false), (2, 12, .bool true), (3, 9, .bool true)] [] [] [] ?_ ?_
  · refine oc g_mv ?_
    refine oc (g_cb ent_cert_certify (fun uZ bZ => by have := cCertify cs sl gb go cap uZ (by omega) hin hix (hg.imp id (fun h => Nat.lt_of_lt_of_le h bZ.size)) (hS.out.below2 bZ hg); rw [hb] at this; exact this)) ?_
    refine oc (g_un (fun uZ => rfl)) ?_
    exact oc g_as on
  intro u2 HB2 sz2 K2
  simp only [fX, nK, nP, Wr.f, aK, pM] at K2
  simp only [setG, setN, List.set_cons_zero, List.set_cons_succ]
  clear K1 HB1
  go_upto_region 4 with fail
  refine rgP K2 HB2 HB2.size [.all 1 ([.int .u64 (0), .int .u64 (0), .int .u64 (0), .int .u64 (0)])] [] [(0, 13, A4 (0) (0) (0) (0)), (2, 3, (Go.Value.int Go.IntKind.i64 30))] [] [] [] ?_ ?_
  · refine oc (g_bd zN) ?_
    refine oc (g_st 0 iN) ?_
    exact oc g_as on
  intro u3 HB3 sz3 K3
  simp only [fX, nK, nP, Wr.f, aK, pM] at K3
  simp only [setG, setN, List.set_cons_zero, List.set_cons_succ]
  clear K2 HB2
  have c2_0 := ((K3.cv 0) 0 _ rfl).1
  have c2_1 := ((K3.cv 0) 1 _ rfl).1
  have c2_2 := ((K3.cv 0) 2 _ rfl).1
  have c2_3 := ((K3.cv 0) 3 _ rfl).1
  go_wp2
  refine bodyPost_ret (v := .tuple #[A4 0 0 0 0, .int .i64 30]) (by simp [results, Try.results15, go_sem, c2_0, c2_1, c2_2, c2_3]) rfl ⟨rfl, HB3⟩
set_option maxRecDepth 100000 in
set_option maxHeartbeats 4000000 in
theorem cCheck_true (cs : List (Int × Int × Int)) (n : Int) (sl : Option Addr) (gb go cap : Nat) (w : World) (hb : cfB cs = true) (hlast : (cat cs (cs.length - 1)).1 = n) (hcs : cs.length ≤ 256) (hin : Hid (∀ j, j < cs.length → In (cat cs j).1 ∧ In (cat cs j).2.1 ∧ In (cat cs j).2.2)) (hix : Hid (∀ j, j < cs.length → ∀ W, (Instr.indexAt 31 (.slice sl cs.length cap) (.int .i64 j)).run Try.prog W = .ok (.pointer (some ⟨gb, go + 12 * j, none⟩)) W)) (hg : cs.length = 0 ∨ gb < w.heap.size) (hS : Hid (SCt w gb go cs)) :
    Calls Try.prog 15 #[.slice sl cs.length cap] w fun e w' => e = .returned (.tuple #[NV n, .int .i64 0]) ∧ Below w.heap.size w w' := by
  go_enter Try.func15, Try.ntmps15
  go_upto_region 1 with fail
  generalize hC : (w.alloc (.cells (L0s : List Value).toArray 24)) = v0 at *
  have HB0 : Below w.heap.size w v0 := by rw [← hC]; exact balloc (bself w) _
  have K0 : Bk w.heap.size v0 [(true, w.heap.size, L0s)] := by rw [← hC]; exact (Bk.nil _ w).ad
  clear hC
  have hl : decide (256 < (cs.length : Int)) = false := by simp; omega
  refine rgP K0 HB0 HB0.size [] [] [(0, 5, .slice sl cs.length cap), (1, 6, .int .i64 (cs.length : Int)), (2, 7, .bool false), (3, 4, .bool false)] [] [] [] ?_ ?_
  · refine oc g_mv ?_
    refine oc (g_ln Try.underlying31) ?_
    refine oc (g_bn (fun uZ => gtr_i _ _ (cs.length : Int) 256 _ uZ hl)) ?_
    exact oc g_as on
  intro u1 HB1 sz1 K1
  simp only [fX, nK, nP, Wr.f, aK, pM] at K1
  simp only [setG, setN, List.set_cons_zero, List.set_cons_succ]
  clear K0 HB0
  go_upto_region 3 with fail
  refine rgP K1 HB1 HB1.size [] [] [(0, 10, .slice sl cs.length cap), (1, 11, .bool true), (2, 12, .bool false), (3, 9, .bool false)] [] [] [] ?_ ?_
  · refine oc g_mv ?_
    refine oc (g_cb ent_cert_certify (fun uZ bZ => by have := cCertify cs sl gb go cap uZ (by omega) hin hix (hg.imp id (fun h => Nat.lt_of_lt_of_le h bZ.size)) (hS.out.below2 bZ hg); rw [hb] at this; exact this)) ?_
    refine oc (g_un (fun uZ => rfl)) ?_
    exact oc g_as on
  intro u2 HB2 sz2 K2
  simp only [fX, nK, nP, Wr.f, aK, pM] at K2
  simp only [setG, setN, List.set_cons_zero, List.set_cons_succ]
  clear K1 HB1
  have h0 : 0 < cs.length := by
    have := hb; rw [cfB, Bool.and_eq_true] at this; simpa using this.2
  have hR := range_N (hS.out.at (cs.length - 1) (by omega))
  rw [hlast] at hR
  have hR : Hid _ := hR
  have hg' := hg.resolve_left (by omega)
  have hX := hix.out (cs.length - 1) (by omega)
  have hX : Hid _ := hX
  have hz3 : (cs.length : Int) - 1 = ((cs.length - 1 : Nat) : Int) := by omega
  clear hlast
  go_upto_region 5 with fail
  refine rgP K2 HB2 HB2.size [.all 7 (LN n)] [] [(0, 14, .slice sl cs.length cap), (1, 15, .slice sl cs.length cap), (2, 16, .int .i64 (cs.length : Int)), (3, 17, .int .i64 ((cs.length - 1 : Nat) : Int)), (4, 18, .pointer (some ⟨gb, go + 12 * (cs.length - 1), none⟩)), (5, 19, .pointer (some ⟨gb, go + 12 * (cs.length - 1), none⟩)), (6, 20, NV n), (8, 3, (Go.Value.int Go.IntKind.i64 0))] [] [] [] ?_ ?_
  · refine oc g_mv ?_
    refine oc g_mv ?_
    refine oc (g_ln Try.underlying31) ?_
    refine oc (g_bn (fun uZ => sub_i _ _ (cs.length : Int) 1 ((cs.length - 1 : Nat) : Int) uZ hz3 (by omega) (by omega))) ?_
    refine oc (g_ix (fun uZ => hX.out uZ)) ?_
    refine oc (g_fd (fun uZ => fdCx _ _ uZ)) ?_
    refine oc (g_lf hR.out hg' uN iN) ?_
    refine oc (g_st 0 iN) ?_
    exact oc g_as on
  intro u3 HB3 sz3 K3
  simp only [fX, nK, nP, Wr.f, aK, pM] at K3
  simp only [setG, setN, List.set_cons_zero, List.set_cons_succ]
  clear K2 HB2
  have c2_0 := ((K3.cv 0) 0 _ rfl).1
  have c2_1 := ((K3.cv 0) 1 _ rfl).1
  have c2_2 := ((K3.cv 0) 2 _ rfl).1
  have c2_3 := ((K3.cv 0) 3 _ rfl).1
  go_wp2
  refine bodyPost_ret (v := .tuple #[NV n, .int .i64 0]) (by simp [results, Try.results15, go_sem, c2_0, c2_1, c2_2, c2_3]) rfl ⟨rfl, HB3⟩
end Go.Proofs.Ytgfggkinmhhdnaa
/- Plain numbers: powers modulo one by squaring, so that the kernel can reckon them. -/
namespace Go.Proofs.Ytgfggkinmhhdnaa
/-- a to the e modulo m, by squaring, e having at most so many bits. -/
def pwm : Nat → Nat → Nat → Nat → Nat
  | 0, _, _, m => 1 % m
  | k + 1, a, e, m => cond (Nat.beq (e % 2) 1) (a * pwm k (a * a % m) (e / 2) m % m) (pwm k (a * a % m) (e / 2) m)
theorem pwm_eq : ∀ (k a e m : Nat), e < 2 ^ k → pwm k a e m = a ^ e % m
  | 0, a, e, m, h => by
    have : e = 0 := by simpa using h
    rw [pwm, this, Nat.pow_zero]
  | k + 1, a, e, m, h => by
    have h2 : e / 2 < 2 ^ k := by rw [Nat.pow_succ] at h; omega
    have ih := pwm_eq k (a * a % m) (e / 2) m h2
    have e1 : (a * a % m) ^ (e / 2) % m = a ^ (2 * (e / 2)) % m := by
      rw [← Nat.pow_mod, Nat.pow_mul, Nat.pow_two]
    rw [pwm, ih, e1]
    by_cases he : e % 2 = 1
    · rw [show Nat.beq (e % 2) 1 = true by rw [he]; rfl, cond_true]
      rw [Nat.mul_mod, Nat.mod_mod, ← Nat.mul_mod]
      have : a * a ^ (2 * (e / 2)) = a ^ e := by
        rw [Nat.mul_comm, ← Nat.pow_succ]; congr 1; omega
      rw [this]
    · have h0 : e % 2 = 0 := by omega
      rw [show Nat.beq (e % 2) 1 = false by rw [h0]; rfl, cond_false]
      congr 2; omega
theorem pow_of_pwm {a e m r : Nat} (k : Nat) (he : e < 2 ^ k) (h : pwm k a e m = r) : a ^ e % m = r := by rw [← pwm_eq k a e m he, h]
end Go.Proofs.Ytgfggkinmhhdnaa
/- Primes that are certified: how a step and a small prime are shown by reckoning. -/
namespace Go.Proofs.Ytgfggkinmhhdnaa
set_option linter.unusedVariables false
theorem StR.of (N F A q k x : Nat) (h1 : N % 2 = 1) (h2 : 3 ≤ N) (h3 : 2 ≤ F) (h4 : F * q + 1 = N) (h5 : q < F) (hk : N < 2 ^ k) (h6 : pwm k A (N - 1) N = 1) (h7 : pwm k A q N = x) (hx : 1 ≤ x) (h8 : Nat.gcd (x - 1) N = 1) : StR N F A := by
  have hq : q < 2 ^ k := by
    have : 1 * q ≤ F * q := Nat.mul_le_mul_right q (by omega)
    omega
  have k6 := pow_of_pwm k (by omega) h6
  have k7 := pow_of_pwm k hq h7
  have xl : x < N := by rw [← k7]; exact Nat.mod_lt _ (by omega)
  have e1 : ((N : Int) - 1) = ((N - 1 : Nat) : Int) := by omega
  have e2 : N - 1 = F * q := by omega
  have e3 : ((N : Int) - 1) / F = ((q : Nat) : Int) := by
    rw [e1, ← Int.natCast_ediv, e2, Nat.mul_div_cancel_left q (by omega)]
  refine ⟨by omega, by omega, by omega, ?_, by rw [e3]; omega, ?_, ?_⟩
  · rw [e1, ← Int.natCast_emod, e2, Nat.mul_mod_right]; rfl
  · rw [e1, Int.toNat_natCast, ← Int.natCast_pow, ← Int.natCast_emod, k6]; rfl
  · rw [e3, Int.toNat_natCast, ← Int.natCast_pow, ← Int.natCast_emod, k7]
    have e4 : ((x : Int) - 1) % (N : Int) = ((x - 1 : Nat) : Int) := by
      have : ((x : Int) - 1) = ((x - 1 : Nat) : Int) := by omega
      rw [this, ← Int.natCast_emod, Nat.mod_eq_of_lt (by omega)]
    rw [e4]
    unfold gI
    rw [Int.toNat_natCast, Int.toNat_natCast, h8]; rfl
theorem Sm.of (n b : Nat) (h2 : 2 ≤ n) (hl : n < 1048576) (hb : n < b * b) (h : (List.range b).all (fun d => Nat.blt d 2 || !(Nat.beq (n % d) 0)) = true) : Sm n := by
  refine ⟨by omega, by omega, fun d hd hq he => ?_⟩
  obtain ⟨e, rfl⟩ : ∃ e : Nat, d = e := ⟨d.toNat, by omega⟩
  have hq' : e * e ≤ n := by
    have : ((e * e : Nat) : Int) ≤ n := by rw [Int.natCast_mul]; exact hq
    omega
  have he' : n % e = 0 := by
    have : ((n % e : Nat) : Int) = 0 := by rw [Int.natCast_emod]; exact he
    omega
  have hlt : e < b := Nat.lt_of_not_le fun hn => by
    have := Nat.mul_le_mul hn hn
    omega
  have := List.all_eq_true.1 h e (List.mem_range.2 hlt)
  rw [he'] at this
  simp [Nat.blt] at this
  omega
theorem step_7 : stB 7 3 2 = true := stB_iff.2 (StR.of 7 3 2 2 3 4 rfl (by omega) (by omega) rfl (by omega) (by omega) rfl rfl (by omega) rfl)
theorem step_9 : stB 9 4 2 = false := by
  rw [Bool.eq_false_iff]
  intro h
  have := (stB_iff.1 h).2.2.2.2.2.1
  simp at this
theorem small_7 : smB 7 = true := smB_t (Sm.of 7 3 (by omega) (by omega) (by omega) rfl)
theorem small_9 : smB 9 = false := smB_f fun h => h.2.2 3 (by omega) (by omega) (by omega)
theorem small_131101 : smB 131101 = true := smB_t (Sm.of 131101 363 (by omega) (by omega) (by omega) (by decide +kernel))
theorem chain0_1 : stB 581039633 131101 2 = true := stB_iff.2 (StR.of 581039633 131101 2 4432 30 554694791 (by decide +kernel) (by decide +kernel) (by decide +kernel) (by decide +kernel) (by decide +kernel) (by decide +kernel) (by decide +kernel) (by decide +kernel) (by decide +kernel) (by decide +kernel))
theorem chain0_2 : stB 1162079267 581039633 2 = true := stB_iff.2 (StR.of 1162079267 581039633 2 2 31 4 (by decide +kernel) (by decide +kernel) (by decide +kernel) (by decide +kernel) (by decide +kernel) (by decide +kernel) (by decide +kernel) (by decide +kernel) (by decide +kernel) (by decide +kernel))
end Go.Proofs.Ytgfggkinmhhdnaa
/- The chapter's examples, and the first chain: works. -/
namespace Go.Proofs.Ytgfggkinmhhdnaa
open Go.RowKit
set_option linter.unusedVariables false
set_option linter.unusedSimpArgs false
theorem CV.sct {w : World} {b : Nat} {cs : List (Int × Int × Int)} (h : CV w b (flC cs)) : SCt w b 0 cs := fun j v hj => by rw [Nat.zero_add]; exact (h j v hj).1
theorem cCheck_own_t (cs : List (Int × Int × Int)) (n : Int) (b cap m : Nat) (w : World) (hm : m = cs.length) (hb : cfB cs = true) (hlast : (cat cs (cs.length - 1)).1 = n) (hcs : cs.length ≤ 256) (hin : Hid (∀ j, j < cs.length → In (cat cs j).1 ∧ In (cat cs j).2.1 ∧ In (cat cs j).2.2)) (hlt : b < w.heap.size) (hcv : CV w b (flC cs)) :
    Calls Try.prog 15 #[.slice (some ⟨b, 0, none⟩) m cap] w fun e w' => e = .returned (.tuple #[NV n, .int .i64 0]) ∧ Below w.heap.size w w' := by
  subst hm
  exact cCheck_true cs n (some ⟨b, 0, none⟩) b 0 cap w hb hlast hcs hin (fun j hj W => ixC b 0 _ cap j hj W) (.inr hlt) hcv.sct
def chain0 : List (Int × Int × Int) := [(581039633, 131101, 2), (1162079267, 581039633, 2)]
theorem chain0_ok : cfB chain0 = true := by simp [cfB, crB, knB, cat, chain0, small_131101, chain0_1, chain0_2]
theorem chain0_in : ∀ j, j < chain0.length → In (cat chain0 j).1 ∧ In (cat chain0 j).2.1 ∧ In (cat chain0 j).2.2 := fun j hj => by
  have : j = 0 ∨ j = 1 := by have : chain0.length = 2 := rfl; omega
  rcases this with rfl | rfl <;> exact ⟨⟨by decide, by decide⟩, ⟨by decide, by decide⟩, ⟨by decide, by decide⟩⟩
theorem cChain0 (w : World) : Calls Try.prog 25 #[.int .i64 0] w fun e w' => ∃ v, e = .returned v ∧ PT 0 w.heap.size 2 (flC chain0) w' v ∧ Below w.heap.size w w' :=
  cChain 0 [131101, 581039633, 1162079267] w (by decide) (by decide) (fun j hj => by
    have : j = 0 ∨ j = 1 ∨ j = 2 := by have : ([131101, 581039633, 1162079267] : List Int).length = 3 := rfl; omega
    rcases this with rfl | rfl | rfl <;> exact ⟨by decide, by decide⟩) (fun u => cPrimes0 u)
theorem ent_base_Nat (vs : Array Value) (w : World) : (callFunc 20 vs).run Try.prog w = .ok (.enter 20 vs) w := by kernel_rfl
set_option maxRecDepth 100000 in
set_option maxHeartbeats 4000000 in
theorem bNat_any (n : Int) (w : World) (h0 : 0 ≤ n) (h1 : n < 9223372036854775808) : Calls Try.prog 20 #[.int .i64 n] w fun e w' => e = .returned (NV n) ∧ Below w.heap.size w w' := by
  rw [NV_small h0 (by omega)]
  have hw : IntKind.u64.wrap n = n := by simp [IntKind.wrap, IntKind.signed, IntKind.bits]; omega
  go_enter Try.func20, Try.ntmps20
  go_wp2
  go_returns
  exact ⟨by simp, by go_grown⟩
theorem small_is (n : Int) (b : Bool) (w : World) (hn : In n) (h : smB n = b) : Calls Try.prog 9 #[NV n] w fun e w' => e = .returned (.bool b) ∧ Below w.heap.size w w' := by rw [← h]; exact cSmall n w hn
theorem step_is (n f a : Int) (b : Bool) (w : World) (hn : In n) (hf : In f) (ha : In a) (h : stB n f a = b) : Calls Try.prog 11 #[CX n f a] w fun e w' => e = .returned (.bool b) ∧ Below w.heap.size w w' := by rw [← h]; exact cStep n f a w hn hf ha
theorem In_k7 : In 7 := ⟨by decide, by decide⟩
theorem In_k9 : In 9 := ⟨by decide, by decide⟩
theorem In_k4 : In 4 := ⟨by decide, by decide⟩
set_option maxRecDepth 100000 in
set_option maxHeartbeats 4000000 in
theorem works3 (w : World) : Calls Try.prog 13 #[] w fun e w' => e = .returned (.bool true) ∧ Below w.heap.size w w' := by
  go_enter Try.func13, Try.ntmps13
  have HB0 : Below w.heap.size w w := Below.refl _ _
  have K0_1 := Bk.nil (w.heap.size) w
  go_upto_region 1 with fail
  refine rgP K0_1 HB0 HB0.size [] [] [(0, 1, .func (.func 20) #[] #[])] [] [] [] ?_ ?_
  · exact oc g_as on
  intro u1 HB1 sz1 K1
  simp only [fX, nK, nP, Wr.f, aK, pM] at K1
  simp only [setG, setN, List.set_cons_zero, List.set_cons_succ]
  clear HB0
  go_upto_region 2 with fail
  refine rgF K1 HB1 HB1.size [] [] [(3, 9, .int .i64 0), (5, 3, .int .i64 0)] [] [] [⟨0, 7, none, PT 0 u1.heap.size 2 (flC chain0)⟩, ⟨1, 6, none, PT 0 u1.heap.size 2 (flC chain0)⟩, ⟨2, 8, some 4, PS u1.heap.size 2 (flC chain0)⟩, ⟨4, 2, none, PS u1.heap.size 2 (flC chain0)⟩] [] (.cons (fun _ _ _ h1 h2 => h2.stab h1) <| .cons (fun _ _ _ h1 h2 => h2.stab h1) <| .cons (fun _ _ _ h1 h2 => h2.stab h1) <| .cons (fun _ _ _ h1 h2 => h2.stab h1) <| Stab.nil) ?_ ?_
  · refine oc (g_cE 0 (PT 0 u1.heap.size 2 (flC chain0)) ent_cert_Chain (fun u hB hs => (cChain0 u).mono fun e u2 ⟨v, e1, h1, h2⟩ => ⟨v, e1, h1.mono hs, h2⟩)) ?_
    refine oc (g_mE 0 1 (PT 0 u1.heap.size 2 (flC chain0))) ?_
    refine oc (g_xE 1 2 (PT 0 u1.heap.size 2 (flC chain0)) (PS u1.heap.size 2 (flC chain0)) PT.fst) ?_
    refine oc (g_xV 1 (PT 0 u1.heap.size 2 (flC chain0)) PT.snd) ?_
    refine oc (g_sE 2 3 (PS u1.heap.size 2 (flC chain0))) ?_
    exact oc g_as on
  intro u2 v2_0 hv2_0 v2_1 hv2_1 v2_2 hv2_2 v2_4 hv2_4 HB2 sz2 K2
  simp only [fX, nK, nP, Wr.f, aK, pM] at K2
  simp only [setG, setN, setE, List.set_cons_zero, List.set_cons_succ]
  clear HB1
  obtain ⟨bO, cO, rfl, ho1, ho2, hcap, hoC⟩ := hv2_4 rfl
  have K2xoth := Bk.more3 K1 K2 ho1 ho2 hoC (by intro x hx; first | (simp at hx; done) | (simp at hx ⊢; omega))
  simp only [aK] at K2xoth
  clear K2
  go_upto_region 3 with fail
  refine rgP K2xoth HB2 HB2.size [] [(5, 4, L0s, some (6, LN 1162079267))] [(0, 11, .slice (some ⟨bO, 0, none⟩) 2 cO), (1, 12, .tuple #[NV 1162079267, .int .i64 0]), (2, 10, .tuple #[NV 1162079267, .int .i64 0]), (3, 13, NV 1162079267), (4, 14, .int .i64 0), (7, 5, .int .i64 0)] [(6, 5)] [] [false] ?_ ?_
  · refine oc g_mv ?_
    refine oc (g_ck ent_cert_Check (fun fZ uZ kZ sZ => cCheck_own_t chain0 1162079267 bO cO 2 uZ rfl chain0_ok rfl (by decide) chain0_in (kZ.lb sZ 0) (kZ.cv 0))) ?_
    refine oc g_mv ?_
    refine oc g_ex ?_
    refine oc g_ex ?_
    refine oc (g_al 0 aN) ?_
    refine oc (g_sn 0 iN) ?_
    exact oc g_as on
  intro u3 b3_5 HB3 sz3 K3
  simp only [fX, nK, nP, Wr.f, aK, pM] at K3
  simp only [setG, setN, List.set_cons_zero, List.set_cons_succ]
  clear HB2
  go_upto_region 4 with fail
  refine rgD K3 HB3 HB3.size [] [] [(0, 15, .func (.func 20) #[] #[]), (1, 16, NV 7), (2, 17, .func (.func 20) #[] #[]), (3, 18, NV 3), (4, 19, .func (.func 20) #[] #[]), (5, 20, NV 2), (6, 21, CX (7) (3) (2)), (7, 22, .bool true), (8, 23, .bool true), (9, 24, .func (.func 20) #[] #[]), (10, 25, NV 9), (11, 26, .func (.func 20) #[] #[]), (12, 27, NV 4), (13, 28, .func (.func 20) #[] #[]), (14, 29, NV 2), (15, 30, CX (9) (4) (2)), (16, 31, .bool false), (17, 32, .bool true), (18, 33, .bool true), (19, 34, .bool true), (20, 35, .func (.func 20) #[] #[]), (21, 36, NV 7), (22, 37, .bool true), (23, 38, .bool true), (24, 39, .bool true), (25, 40, .func (.func 20) #[] #[]), (26, 41, NV 9), (27, 42, .bool false), (28, 43, .bool true), (29, 44, .bool true), (30, 45, .bool true), (31, 46, .int .i64 0), (32, 47, .bool true), (33, 48, .bool true), (34, 49, .bool true), (35, 50, .int .i64 0), (36, 51, .bool true), (37, 52, .bool true), (38, 53, .bool true), (39, 54, NV 1162079267), (40, 55, .func (.func 20) #[] #[]), (41, 56, NV 1162079267), (42, 57, .bool true), (43, 58, .bool true), (44, 0, .bool true)] [] [] [false] ?_ ?_
  · refine oc g_mv ?_
    refine oc (g_cv (first := []) ent_base_Nat (fun fZ uZ kZ sZ => bNat_any 7 uZ (by omega) (by omega))) ?_
    refine oc g_mv ?_
    refine oc (g_cv (first := []) ent_base_Nat (fun fZ uZ kZ sZ => bNat_any 3 uZ (by omega) (by omega))) ?_
    refine oc g_mv ?_
    refine oc (g_cv (first := []) ent_base_Nat (fun fZ uZ kZ sZ => bNat_any 2 uZ (by omega) (by omega))) ?_
    refine oc (g_bd (fun uZ => bdC _ _ _ uZ)) ?_
    refine oc (g_cl ent_cert_Step (fun uZ => step_is 7 3 2 true uZ In_k7 In_3 In_2 step_7)) ?_
    refine oc g_mv ?_
    refine oc g_mv ?_
    refine oc (g_cv (first := []) ent_base_Nat (fun fZ uZ kZ sZ => bNat_any 9 uZ (by omega) (by omega))) ?_
    refine oc g_mv ?_
    refine oc (g_cv (first := []) ent_base_Nat (fun fZ uZ kZ sZ => bNat_any 4 uZ (by omega) (by omega))) ?_
    refine oc g_mv ?_
    refine oc (g_cv (first := []) ent_base_Nat (fun fZ uZ kZ sZ => bNat_any 2 uZ (by omega) (by omega))) ?_
    refine oc (g_bd (fun uZ => bdC _ _ _ uZ)) ?_
    refine oc (g_cl ent_cert_Step (fun uZ => step_is 9 4 2 false uZ In_k9 In_k4 In_2 step_9)) ?_
    refine oc (g_un (fun uZ => rfl)) ?_
    refine oc g_pk ?_
    refine oc g_mv ?_
    refine oc g_mv ?_
    refine oc (g_cv (first := []) ent_base_Nat (fun fZ uZ kZ sZ => bNat_any 7 uZ (by omega) (by omega))) ?_
    refine oc (g_cl ent_cert_Small (fun uZ => small_is 7 true uZ In_k7 small_7)) ?_
    refine oc g_pk ?_
    refine oc g_mv ?_
    refine oc g_mv ?_
    refine oc (g_cv (first := []) ent_base_Nat (fun fZ uZ kZ sZ => bNat_any 9 uZ (by omega) (by omega))) ?_
    refine oc (g_cl ent_cert_Small (fun uZ => small_is 9 false uZ In_k9 small_9)) ?_
    refine oc (g_un (fun uZ => rfl)) ?_
    refine oc g_pk ?_
    refine oc g_mv ?_
    refine oc g_mv ?_
    refine oc (g_bn (fun uZ => eql_i _ _ _ 0 0 _ uZ rfl)) ?_
    refine oc g_pk ?_
    refine oc g_mv ?_
    refine oc g_mv ?_
    refine oc (g_bn (fun uZ => eql_i _ _ _ 0 0 _ uZ rfl)) ?_
    refine oc g_pk ?_
    refine oc g_mv ?_
    refine oc (g_ld 0 uN iN) ?_
    refine oc g_mv ?_
    refine oc (g_cv (first := []) ent_base_Nat (fun fZ uZ kZ sZ => bNat_any 1162079267 uZ (by omega) (by omega))) ?_
    refine oc (g_bn (fun uZ => eql_same _ _ (1162079267) uZ)) ?_
    refine oc g_pk ?_
    exact oc g_as on
  intro u4 HB4 sz4 K4
  simp only [fX, nK, nP, Wr.f, aK, pM] at K4
  simp only [setG, setN, List.set_cons_zero, List.set_cons_succ]
  clear K3 HB3
  go_wp2
  refine bodyPost_ret (v := .bool true) (by simp [results, Try.results13, go_sem, ]) rfl ⟨rfl, HB4⟩
end Go.Proofs.Ytgfggkinmhhdnaa
