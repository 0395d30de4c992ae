/- The reference's padding. -/
import Derived.Test.YtbgdcgboomdimaaDoorRP0
namespace Go.Proofs.YtbgdcgboomdimaaDoor
open Go.RowKit
set_option linter.unusedVariables false
set_option linter.unusedSimpArgs false
theorem ent_seneschalref04_Pad (vs : Array Value) (w : World) : (callFunc 18 vs).run Tryd.prog w = .ok (.enter 18 vs) w := by kernel_rfl
theorem bsB0 (x : Nat) (w : World) : (Instr.buildSlice 22 1 ([0].zip [.int .u8 (x : Int)]).toArray).run Tryd.prog w = .ok (.slice (some ⟨w.heap.size, 0, none⟩) 1 1) (w.alloc (.cells (U8 [x]).toArray 5)) := by kernel_rfl
theorem PS_NW {lo n : Nat} {xs : List Nat} {u : World} {y : Value} (h : PS lo n (U8 xs) u y) : NW n (U8 xs) u y := by
  obtain ⟨b, cap, rfl, _, h2, h3, h4⟩ := h
  exact ⟨_, cap, rfl, .inr ⟨_, rfl, fun j v hj => by rw [Addr.add0]; exact (h4 j v hj).1⟩⟩
theorem neq_it (p q : Operand) (x y : Int) (b : Bool) (w : World) (h : decide (x ≠ y) = b) : (do eqGuard .neq 3 p q (.int .i64 x) (.int .i64 y); binOp .neq 3 (.int .i64 x) (.int .i64 y) : Sem Value).run Tryd.prog w = .ok (.bool b) w := by
  subst h; go_simp
  first | done | (by_cases e : x = y <;> simp [e])
theorem geq_i (p q : Operand) (x y : Int) (b : Bool) (w : World) (h : decide (y ≤ x) = b) : (do eqGuard .geq 3 p q (.int .i64 x) (.int .i64 y); binOp .geq 3 (.int .i64 x) (.int .i64 y) : Sem Value).run Tryd.prog w = .ok (.bool b) w := by
  subst h; go_simp
theorem quo64 (p q : Operand) (x y : Nat) (w : World) (h1 : x < 18446744073709551616) (h2 : 0 < y) : (do eqGuard .quo 27 p q (.int .u64 x) (.int .u64 y); binOp .quo 27 (.int .u64 x) (.int .u64 y) : Sem Value).run Tryd.prog w = .ok (.int .u64 ((x / y : Nat) : Int)) w := by
  have e0 : ((x : Int)).tdiv y = ((x / y : Nat) : Int) := by rw [Int.tdiv_eq_ediv_of_nonneg (Int.natCast_nonneg _)]; simp
  have hle : x / y ≤ x := Nat.div_le_self _ _
  obtain ⟨z, hz⟩ : ∃ z, x / y = z := ⟨_, rfl⟩
  rw [hz] at e0 hle ⊢
  have e : IntKind.u64.wrap (z : Int) = (z : Int) := wraps_u64 _ (by omega) (by omega)
  have hy : (y : Int) ≠ 0 := by omega
  have hy2 : ¬ y = 0 := by omega
  go_simp
def lenV2 : Value → Nat
  | .slice _ n _ => n
  | _ => 0
theorem ixB0 (g n cap j : Nat) (h : j < n) (w : World) : (Instr.indexAt 22 (.slice (some ⟨g, 0, none⟩) n cap) (.int .i64 j)).run Tryd.prog w = .ok (.pointer (some ⟨g, j, none⟩)) w := by
  have := ixB g 0 n cap j h w
  rwa [Nat.zero_add] at this
theorem NW_full {u : World} {b n cap : Nat} {xs : List Nat} (hl : xs.length = n) (h : CV u b (U8 xs)) : NW n (U8 xs) u (.slice (some ⟨b, 0, none⟩) n cap) :=
  ⟨_, cap, rfl, .inr ⟨_, rfl, fun j v hj => by rw [Addr.add0]; exact (h j v hj).1⟩⟩
set_option maxRecDepth 100000 in
set_option maxHeartbeats 4000000 in
theorem cPadR_core (n cap no N : Nat) (sl : Option Addr) (xs ps : List Nat) (tF : Nat → List Nat) (nF : Nat → Nat) (w : World) (hn : n ≤ 100000) (hno64 : no < 64) (hxs : xs.length = n) (hN : N = n + 1 + no + 8) (hno : Hid (∀ k, k ≤ no → ((n + 1 + k) % 64 = 56 ↔ k = no))) (ht0 : Hid (tF 0 = List.replicate 8 0)) (hts : Hid (∀ j, tF (j + 1) = (tF j).set (7 - j) (nF j % 256))) (htB : Hid (∀ j, BB 8 (tF j))) (hn0 : Hid (nF 0 = n * 8)) (hns : Hid (∀ j, nF (j + 1) = nF j / 256)) (hnl : Hid (∀ j, nF j < 18446744073709551616)) (hpad : Hid (ps = xs ++ [128] ++ List.replicate no 0 ++ tF 8))
    (happ : Hid (∀ (u : World) (vs : Value), Below w.heap.size w u → PZ w.heap.size u vs → ∃ v u', (Builtin.append_ #[22, 22] 22 #[vs, (.slice sl n cap)]).run Tryd.prog u = .ok v u' ∧ Below u.heap.size u u' ∧ PG w.heap.size 1 n (U8 (xs)) u' v)) :
    Calls Tryd.prog 18 #[(.slice sl n cap)] w fun e w' => ∃ v, e = .returned v ∧ PG w.heap.size 1 N (U8 (ps)) w' v ∧ Below w.heap.size w w' := by
  go_enter Tryd.func18, Tryd.ntmps18
  have HB0 : Below w.heap.size w w := Below.refl _ _
  obtain ⟨ti, hti, htm⟩ := Option.map_eq_some_iff.1 infoB
  simp only [Prod.mk.injEq] at htm
  obtain ⟨hzv, hsz, hby⟩ := htm
  have K0_1 := Bk.nil (w.heap.size) w
  go_upto_region 1 with fail
  refine rgF K0_1 HB0 HB0.size [] [] [(1, 8, (.slice sl n cap))] [(5, 4)] [] [⟨0, 7, some 2, PZ w.heap.size⟩, ⟨2, 9, some 4, PG w.heap.size 1 n (U8 (xs))⟩, ⟨3, 10, some 4, PS w.heap.size 1 (U8 [128])⟩, ⟨4, 11, some 5, PG w.heap.size 1 (n + 1) (U8 (xs ++ [128]))⟩, ⟨5, 3, none, PG w.heap.size 1 (n + 1) (U8 (xs ++ [128]))⟩] [] (.cons (fun _ _ _ h1 h2 => h2.stab h1) <| .cons (fun _ _ _ h1 h2 => h2.stab h1) <| .cons (fun _ _ _ h1 h2 => h2.stab h1) <| .cons (fun _ _ _ h1 h2 => h2.stab h1) <| .cons (fun _ _ _ h1 h2 => h2.stab h1) <| Stab.nil) ?_ ?_
  · refine oc (g_bs 0 (PZ w.heap.size) bs0b (fun u hu => PZ.new hu)) ?_
    refine oc g_mv ?_
    refine oc (g_a1 0 1 (PZ w.heap.size) (PG w.heap.size 1 n (U8 (xs))) (fun u vs hB hs hv => happ.out u vs hB hv)) ?_
    refine oc (g_bR 2 (PS w.heap.size 1 (U8 [128])) [0] [.int .u8 128] (U8 [128]) (bsB0 128) (fun u hu => PS.new 1 _ _ u hu)) ?_
    refine oc (g_aEE 1 2 3 (PG w.heap.size 1 n (U8 (xs))) (PS w.heap.size 1 (U8 [128])) (PG w.heap.size 1 (n + 1) (U8 (xs ++ [128]))) (fun f u vs ys kZ bZ hs hv hy => app_PG hs hxs rfl (by omega) (PS_NW hy) hv)) ?_
    exact oc (g_sE 3 4 (PG w.heap.size 1 (n + 1) (U8 (xs ++ [128])))) on
  intro u1 v1_0 hv1_0 v1_2 hv1_2 v1_3 hv1_3 v1_4 hv1_4 v1_5 hv1_5 HB1 sz1 K1
  simp only [fX, nK, nP, Wr.f, aK, pM] at K1
  simp only [setG, setN, setE, List.set_cons_zero, List.set_cons_succ]
  clear HB0
  obtain ⟨b3, c3, zs, rfl, ho1, ho2, hc3, hz3, hoC⟩ := hv1_5 rfl
  rw [Nat.mul_one] at hz3
  go_wp2_with fail
  go_loopw [3] (fun s3 wr => ∃ (k b3 c3 : Nat) (zs : List Value), k ≤ no ∧ s3 = .slice (some ⟨b3, 0, none⟩) (n + 1 + k) c3 ∧ n + 1 + k ≤ c3 ∧ zs.length = c3 - (n + 1 + k) ∧ w.heap.size ≤ b3 ∧ b3 < wr.heap.size ∧ Hid (CV wr b3 (U8 (xs ++ [128] ++ List.replicate k 0) ++ zs)) ∧ Below w.heap.size w wr) (fun s3 _ => n + 1 + no - lenV2 s3)
  case atStart => exact ⟨0, b3, c3, zs, by omega, rfl, hc3, hz3, ho1, ho2, (by rw [List.replicate_zero, List.append_nil]; exact hoC), HB1⟩
  case round =>
    clear ho1 ho2 hc3 hz3 hoC
    obtain ⟨k, b3, c3, zs, hk, rfl, hc3, hz3, hb3, hl3, Kv, HBr⟩ := hrel
    clear HB1
    have h56 := hno.out k hk
    have e64 : (n + 1 + k) % 64 < 64 := Nat.mod_lt _ (by decide)
    by_cases hj : k < no
    · have hl1 : decide ((((n + 1 + k) % 64 : Nat) : Int) ≠ 56) = true := by simp; omega
      have hxl : (xs ++ [128] ++ List.replicate k 0).length = n + 1 + k := by rw [List.length_append, List.length_append, List.length_replicate, hxs]; rfl
      have K1_2 : Bk w.heap.size wr [(true, b3, U8 (xs ++ [128] ++ List.replicate k 0) ++ zs)] := ⟨.o hl3 (by omega) Kv.out <| trivial, by simp⟩
      go_upto_region 2 with fail
      refine rgP K1_2 HBr HBr.size [] [] [(0, 12, .slice (some ⟨b3, 0, none⟩) (n + 1 + k) c3), (1, 13, .int .i64 ((n + 1 + k : Nat) : Int)), (2, 14, .int .i64 (((n + 1 + k) % 64 : Nat) : Int)), (3, 15, .bool true)] [] [] [] ?_ ?_
      · refine oc g_mv ?_
        refine oc (g_ln Tryd.underlying22) ?_
        refine oc (g_bn (fun uZ => rem_n _ _ (n + 1 + k) 64 uZ (by omega) (by decide))) ?_
        exact oc (g_bn (fun uZ => neq_it _ _ (((n + 1 + k) % 64 : Nat) : Int) 56 true uZ hl1)) on
      intro u2 HB2 sz2 K2
      simp only [fX, nK, nP, Wr.f, aK, pM] at K2
      simp only [setG, setN, List.set_cons_zero, List.set_cons_succ]
      go_upto_region 3 with fail
      refine rgF K2 HB2 HB2.size [.all 2 ([])] [] [(0, 16, .slice (some ⟨b3, 0, none⟩) (n + 1 + k) c3)] [(3, 0), (3, 2)] [(3, 3)] [⟨1, 17, some 2, PS w.heap.size 1 (U8 [0])⟩, ⟨2, 18, some 3, PH u2.heap.size b3 ti.size (n + 1 + k + 1) (U8 (xs ++ [128] ++ List.replicate k 0) ++ U8 [0])⟩, ⟨3, 3, none, PH u2.heap.size b3 ti.size (n + 1 + k + 1) (U8 (xs ++ [128] ++ List.replicate k 0) ++ U8 [0])⟩] [false] (.cons (fun _ _ _ h1 h2 => h2.stab h1) <| .cons (fun _ _ _ h1 h2 => h2.stab h1) <| .cons (fun _ _ _ h1 h2 => h2.stab h1) <| Stab.nil) ?_ ?_
      · refine oc g_mv ?_
        refine oc (g_bR 0 (PS w.heap.size 1 (U8 [0])) [0] [.int .u8 0] (U8 [0]) (bsB0 0) (fun u hu => PS.new 1 _ _ u (Nat.le_trans HB2.size hu))) ?_
        refine oc (g_pE 0 0 1 (PS w.heap.size 1 (U8 [0])) (U8 (xs ++ [128] ++ List.replicate k 0)) zs (U8 [0]) Tryd.underlying22 hti hzv (by rw [hsz]; rfl) rfl (fun u y hy => PS_NW hy) U8_mem (by rw [hsz]; rfl) (by rw [hsz, U8_len, hxl]; omega) (by rw [hsz]; omega) hc3 (by rw [hby]; omega) (by omega)) ?_
        exact oc (g_sE 1 2 (PH u2.heap.size b3 ti.size (n + 1 + k + 1) (U8 (xs ++ [128] ++ List.replicate k 0) ++ U8 [0]))) on
      intro u3 v3_1 hv3_1 v3_2 hv3_2 v3_3 hv3_3 HB3 sz3 K3
      simp only [fX, nK, nP, Wr.f, aK, pM] at K3
      simp only [setG, setN, setE, List.set_cons_zero, List.set_cons_succ]
      clear K2 HB2
      obtain ⟨b6, c6, zs6, rfl, hb6, hl6, hc6, hz6, Kv6⟩ := hv3_3 rfl
      rw [hsz] at hz6
      rw [← U8_app, List.append_assoc, show ([0] : List Nat) = List.replicate 1 0 from rfl, List.replicate_append_replicate] at Kv6
      go_wp2
      refine ⟨⟨k + 1, b6, c6, zs6, by omega, rfl, hc6, by omega, by omega, hl6, Kv6, HB3⟩, ?_⟩
      simp [lenV2] <;> omega
    · have hkn : k = no := by omega
      subst hkn
      have hl1 : decide ((((n + 1 + k) % 64 : Nat) : Int) ≠ 56) = false := by simp; omega
      have K1_2 : Bk w.heap.size wr [(true, b3, U8 (xs ++ [128] ++ List.replicate k 0) ++ zs)] := ⟨.o hl3 (by omega) Kv.out <| trivial, by simp⟩
      go_upto_region 2 with fail
      refine rgP K1_2 HBr HBr.size [] [] [(0, 12, .slice (some ⟨b3, 0, none⟩) (n + 1 + k) c3), (1, 13, .int .i64 ((n + 1 + k : Nat) : Int)), (2, 14, .int .i64 (((n + 1 + k) % 64 : Nat) : Int)), (3, 15, .bool false)] [] [] [] ?_ ?_
      · refine oc g_mv ?_
        refine oc (g_ln Tryd.underlying22) ?_
        refine oc (g_bn (fun uZ => rem_n _ _ (n + 1 + k) 64 uZ (by omega) (by decide))) ?_
        exact oc (g_bn (fun uZ => neq_it _ _ (((n + 1 + k) % 64 : Nat) : Int) 56 false uZ hl1)) on
      intro u2 HB2 sz2 K2
      simp only [fX, nK, nP, Wr.f, aK, pM] at K2
      simp only [setG, setN, List.set_cons_zero, List.set_cons_succ]
      go_upto_region 4 with fail
      refine rgP K2 HB2 HB2.size [] [] [(0, 19, (.slice sl n cap)), (1, 20, .int .i64 ((n : Nat) : Int)), (2, 21, .int .u64 ((n : Nat) : Int)), (3, 22, .int .u64 ((n * 8 : Nat) : Int)), (4, 4, .int .u64 ((n * 8 : Nat) : Int))] [] [] [] ?_ ?_
      · refine oc g_mv ?_
        refine oc (g_ln Tryd.underlying22) ?_
        refine oc (g_op (fun ev uZ he => cvi64 uZ (by omega) rfl (he _ _ rfl))) ?_
        refine oc (g_bn (fun uZ => mul64 _ _ n 8 (n * 8) uZ rfl (by omega))) ?_
        exact oc g_as on
      intro u3 HB3 sz3 K3
      simp only [fX, nK, nP, Wr.f, aK, pM] at K3
      simp only [setG, setN, List.set_cons_zero, List.set_cons_succ]
      clear K2 HB2
      have hlt3 := (K3.lt 0)
      have hlo3 := HB3.size
      go_upto_region 5 with fail
      refine rgF K3 HB3 HB3.size [] [] [] [] [] [⟨0, 23, some 1, PF u3.heap.size 8 (U8 (List.replicate 8 0))⟩, ⟨1, 5, none, PF u3.heap.size 8 (U8 (List.replicate 8 0))⟩] [] (.cons (fun _ _ _ h1 h2 => h2.stab h1) <| .cons (fun _ _ _ h1 h2 => h2.stab h1) <| Stab.nil) ?_ ?_
      · refine oc (g_ms 0 (PF u3.heap.size 8 (U8 (List.replicate 8 0))) (mkB .i64 8 (by decide)) (fun u hu => PF.new 8 _ _ u hu)) ?_
        exact oc (g_sE 0 1 (PF u3.heap.size 8 (U8 (List.replicate 8 0)))) on
      intro u4 v4_0 hv4_0 v4_1 hv4_1 HB4 sz4 K4
      simp only [fX, nK, nP, Wr.f, aK, pM] at K4
      simp only [setG, setN, setE, List.set_cons_zero, List.set_cons_succ]
      clear HB3
      obtain ⟨bt, rfl, hot1, hot2, hotC⟩ := hv4_1 rfl
      have K4_3 : Bk w.heap.size u4 [(true, b3, U8 (xs ++ [128] ++ List.replicate k 0) ++ zs), (true, bt, U8 (List.replicate 8 0))] := ⟨.o (K4.lt 0) (by omega) (K4.cv 0) <| .o hot2 (by omega) hotC <| trivial, by simp; omega⟩
      go_upto_region 6 with fail
      refine rgP K4_3 HB4 HB4.size [] [] [(0, 6, (Go.Value.int Go.IntKind.i64 7))] [] [] [] ?_ ?_
      · exact oc g_as on
      intro u5 HB5 sz5 K5
      simp only [fX, nK, nP, Wr.f, aK, pM] at K5
      simp only [setG, setN, List.set_cons_zero, List.set_cons_succ]
      clear HB4
      have hlb := (K5.lt 0)
      have hlt := (K5.lt 1)
      go_wp2_with fail
      go_loopw [6, 4] (fun s6 s4 wr => ∃ (j : Nat), j ≤ 8 ∧ s6 = .int .i64 (7 - (j : Int)) ∧ s4 = .int .u64 ((nF j : Nat) : Int) ∧ b3 < wr.heap.size ∧ Hid (CV wr b3 (U8 (xs ++ [128] ++ List.replicate k 0) ++ zs)) ∧ bt < wr.heap.size ∧ Hid (CV wr bt (U8 (tF j))) ∧ Below w.heap.size w wr) (fun s6 _ _ => (intOf s6 + 1).toNat)
      case atStart => exact ⟨0, by omega, rfl, (by rw [hn0.out]; simp), (K5.lt 0), (K5.cv 0), (K5.lt 1), (by rw [ht0.out]; exact (K5.cv 1)), HB5⟩
      case round =>
        clear Kv HBr hl1 hl3 hot2 hotC
        obtain ⟨j, hj8, rfl, rfl, hl3, Kv, hlt, Kt, HBr⟩ := hrel
        clear HB5
        by_cases hj : j < 8
        · have hl1 : decide ((0 : Int) ≤ 7 - (j : Int)) = true := by simp; omega
          have hS := hts.out j
          have hN := hns.out j
          have hnl := hnl.out j
          have htl := (htB.out j).len
          obtain ⟨tl, etl⟩ : ∃ x, tF j = x := ⟨_, rfl⟩
          obtain ⟨q, eq⟩ : ∃ x, nF j = x := ⟨_, rfl⟩
          rw [etl] at hS htl Kt
          rw [eq] at hS hN hnl
          try rw [eq]
          have gi := U8_get tl (7 - j) (by omega)
          obtain ⟨y, ey⟩ : ∃ x, tl.getD (7 - j) 0 = x := ⟨_, rfl⟩
          rw [ey] at gi
          have e7 : (7 : Int) - (j : Int) = ((7 - j : Nat) : Int) := by omega
          try rw [e7]
          have e71 : ((7 - j : Nat) : Int) - 1 = 7 - ((j + 1 : Nat) : Int) := by omega
          have e256 : q % 256 % 256 = q % 256 := by omega
          rw [e7] at hl1
          have hS : Hid _ := hS
          have hN : Hid _ := hN
          clear etl eq ey
          have hnK := K5.n
          simp at hnK
          have hoK0 := K5.lo 0
          have hoK1 := K5.lo 1
          have K5_4 : Bk w.heap.size wr [(true, b3, U8 (xs ++ [128] ++ List.replicate k 0) ++ zs), (true, bt, U8 (tl))] := ⟨.o hl3 (K5.lo 0) Kv.out <| .o hlt (K5.lo 1) Kt.out <| trivial, by simp; omega⟩
          go_upto_region 7 with fail
          refine rgP K5_4 HBr HBr.size [] [] [(0, 24, .int .i64 ((7 - j : Nat) : Int)), (1, 25, .bool true)] [] [] [] ?_ ?_
          · refine oc g_mv ?_
            exact oc (g_bn (fun uZ => geq_i _ _ ((7 - j : Nat) : Int) 0 _ uZ hl1)) on
          intro u6 HB6 sz6 K6
          simp only [fX, nK, nP, Wr.f, aK, pM] at K6
          simp only [setG, setN, List.set_cons_zero, List.set_cons_succ]
          go_upto_region 9 with fail
          refine rgP K6 HB6 HB6.size [.no, .all 6 (U8 (tl.set (7 - j) (q % 256)))] [] [(0, 28, .slice (some ⟨bt, 0, none⟩) 8 8), (1, 29, .int .i64 ((7 - j : Nat) : Int)), (2, 30, .int .u64 ((q : Nat) : Int)), (3, 31, .int .u64 ((q % 256 : Nat) : Int)), (4, 32, .int .u8 ((q % 256 : Nat) : Int)), (5, 33, .pointer (some ⟨bt, 7 - j, none⟩))] [] [] [] ?_ ?_
          · refine oc g_mv ?_
            refine oc g_mv ?_
            refine oc g_mv ?_
            refine oc (g_bn (fun uZ => rem64 _ _ q 256 uZ hnl (by decide))) ?_
            refine oc (g_op (fun ev uZ he => (cv648 uZ rfl (he _ _ rfl)).trans (by rw [e256]))) ?_
            refine oc (g_ix (fun uZ => ixB0 bt 8 8 (7 - j) (by omega) uZ)) ?_
            exact oc (g_sw 1 (7 - j) s8 (gi) (U8_set _ _ _)) on
          intro u7 HB7 sz7 K7
          simp only [fX, nK, nP, Wr.f, aK, pM] at K7
          simp only [setG, setN, List.set_cons_zero, List.set_cons_succ]
          clear K6 HB6
          go_upto_region 10 with fail
          refine rgP K7 HB7 HB7.size [] [] [(0, 34, .int .u64 ((q : Nat) : Int)), (1, 35, .int .u64 ((q / 256 : Nat) : Int)), (2, 4, .int .u64 ((q / 256 : Nat) : Int))] [(2, 0)] [(2, 4)] [] ?_ ?_
          · refine oc g_mv ?_
            refine oc (g_bn (fun uZ => quo64 _ _ q 256 uZ hnl (by decide))) ?_
            exact oc g_as on
          intro u8 HB8 sz8 K8
          simp only [fX, nK, nP, Wr.f, aK, pM] at K8
          simp only [setG, setN, List.set_cons_zero, List.set_cons_succ]
          clear K7 HB7
          go_upto_region 8 with fail
          refine rgP K8 HB8 HB8.size [] [] [(0, 26, .int .i64 ((7 - j : Nat) : Int)), (1, 27, .int .i64 (7 - ((j + 1 : Nat) : Int))), (2, 6, .int .i64 (7 - ((j + 1 : Nat) : Int)))] [(2, 0)] [(2, 6)] [] ?_ ?_
          · refine oc g_mv ?_
            refine oc (g_bn (fun uZ => sub_i _ _ ((7 - j : Nat) : Int) 1 (7 - ((j + 1 : Nat) : Int)) uZ e71 (by omega) (by omega))) ?_
            exact oc g_as on
          intro u9 HB9 sz9 K9
          simp only [fX, nK, nP, Wr.f, aK, pM] at K9
          simp only [setG, setN, List.set_cons_zero, List.set_cons_succ]
          clear K8 HB8
          go_wp2
          refine ⟨⟨j + 1, by omega, rfl, by rw [hN.out], (K9.lt 0), (K9.cv 0), (K9.lt 1), (by rw [hS.out]; exact (K9.cv 1)), HB9⟩, ?_⟩
          simp [intOf] <;> omega
        · have hj8 : j = 8 := by omega
          subst hj8
          have hl1 : decide ((0 : Int) ≤ 7 - ((8 : Nat) : Int)) = false := by decide
          have htl := (htB.out 8).len
          have hnK := K5.n
          simp at hnK
          have hoK0 := K5.lo 0
          have hoK1 := K5.lo 1
          have hxl : (xs ++ [128] ++ List.replicate k 0).length = n + 1 + k := by rw [List.length_append, List.length_append, List.length_replicate, hxs]; rfl
          have K5_4 : Bk w.heap.size wr [(true, b3, U8 (xs ++ [128] ++ List.replicate k 0) ++ zs), (false, bt, U8 (tF 8))] := ⟨.o hl3 (K5.lo 0) Kv.out <| .c hlt Kt.out <| trivial, by simp; omega⟩
          go_upto_region 7 with fail
          refine rgP K5_4 HBr HBr.size [] [] [(0, 24, .int .i64 (7 - ((8 : Nat) : Int))), (1, 25, .bool false)] [] [] [] ?_ ?_
          · refine oc g_mv ?_
            exact oc (g_bn (fun uZ => geq_i _ _ (7 - ((8 : Nat) : Int)) 0 _ uZ hl1)) on
          intro u6 HB6 sz6 K6
          simp only [fX, nK, nP, Wr.f, aK, pM] at K6
          simp only [setG, setN, List.set_cons_zero, List.set_cons_succ]
          go_upto_region 11 with fail
          refine rgF K6 HB6 HB6.size [.all 2 ([])] [] [(0, 36, .slice (some ⟨b3, 0, none⟩) (n + 1 + k) c3), (1, 37, .slice (some ⟨bt, 0, none⟩) 8 8)] [(3, 2)] [] [⟨2, 38, some 3, PH u6.heap.size b3 ti.size (n + 1 + k + 8) (U8 (xs ++ [128] ++ List.replicate k 0) ++ U8 (tF 8))⟩, ⟨3, 2, none, PH u6.heap.size b3 ti.size (n + 1 + k + 8) (U8 (xs ++ [128] ++ List.replicate k 0) ++ U8 (tF 8))⟩] [false] (.cons (fun _ _ _ h1 h2 => h2.stab h1) <| .cons (fun _ _ _ h1 h2 => h2.stab h1) <| Stab.nil) ?_ ?_
          · refine oc g_mv ?_
            refine oc g_mv ?_
            refine oc (g_pV 0 0 (U8 (xs ++ [128] ++ List.replicate k 0)) zs (U8 (tF 8)) Tryd.underlying22 hti hzv (by rw [hsz]; rfl) rfl (fun f u kZ bZ => NW_full htl (kZ.cv 1)) U8_mem (by rw [hsz, U8_len, htl]) (by rw [hsz, U8_len, hxl]; omega) (by rw [hsz]; omega) hc3 (by rw [hby]; omega) (by omega)) ?_
            exact oc (g_sE 0 1 (PH u6.heap.size b3 ti.size (n + 1 + k + 8) (U8 (xs ++ [128] ++ List.replicate k 0) ++ U8 (tF 8)))) on
          intro u7 v7_2 hv7_2 v7_3 hv7_3 HB7 sz7 K7
          simp only [fX, nK, nP, Wr.f, aK, pM] at K7
          simp only [setG, setN, setE, List.set_cons_zero, List.set_cons_succ]
          clear K6 HB6
          obtain ⟨b6, c6, zs6, rfl, hb6, hl6, hc6, hz6, Kv6⟩ := hv7_3 rfl
          rw [hsz] at hz6
          rw [← U8_app, ← hpad.out] at Kv6
          have Kv6 : Hid _ := Kv6
          have e6 : (Value.slice (some ⟨b6, 0, none⟩) (n + 1 + k + 8) c6) = .slice (some ⟨b6, 0, none⟩) N c6 := by rw [hN]
          clear hpad
          have e6 : Hid _ := e6
          have hc6 : N ≤ c6 := by omega
          have hz6 : zs6.length = c6 - N := by omega
          clear hN
          go_wp2
          refine bodyPost_ret (v := .slice (some ⟨b6, 0, none⟩) (n + 1 + k + 8) c6) (by simp [results, Tryd.results18, go_sem]) rfl ⟨_, rfl, ⟨b6, c6, zs6, (by first | rfl | exact e6.out), by omega, hl6, (by omega), by omega, Kv6.out⟩, HB7⟩
theorem cPadR (xs : List Nat) (v : Value) (w : World) (hin : IN w w.heap.size v xs) (hl : xs.length ≤ 100000) :
    Calls Tryd.prog 18 #[v] w fun e w' => ∃ v, e = .returned v ∧ PG w.heap.size 1 (pad xs).length (U8 (pad xs)) w' v ∧ Below w.heap.size w w' := by
  have hin0 := hin
  obtain ⟨sl, cap, gb, go, rfl, h1, h2, h3, h4⟩ := hin
  exact cPadR_core xs.length cap (nou xs.length) (pad xs).length sl xs (pad xs) (tlF xs.length) (fun j => (xs.length * 8) >>> (8 * j)) w hl (nou_lt _) rfl (by rw [pad_len]; omega) (fun k hk => nou_56 _ k (by omega) hk) rfl (fun _ => rfl) (tlF_B _) rfl (fun j => (shr_next _ j).symm) (fun j => by
    have : (xs.length * 8) >>> (8 * j) ≤ xs.length * 8 := by rw [Nat.shiftRight_eq_div_pow]; exact Nat.div_le_self _ _
    omega) (pad_is xs) (fun u vs hB hv => app_PZ hB.size (by omega) ((hin0.below hB).mono hB.size) hv)
end Go.Proofs.YtbgdcgboomdimaaDoor
