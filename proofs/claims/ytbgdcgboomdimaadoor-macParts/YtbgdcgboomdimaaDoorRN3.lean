/- The reference's HMAC of parts; the law MacParts. -/
import Derived.Test.YtbgdcgboomdimaaDoorRN1
import Derived.Test.YtbgdcgboomdimaaDoorLSP
namespace Go.Proofs.YtbgdcgboomdimaaDoor
open Go.RowKit
set_option linter.unusedVariables false
set_option linter.unusedSimpArgs false
theorem cvi8 {o : Oper} {ev : Operand → Value} {x : Operand} {n : Nat} (u : World) (h1 : n < 256) (ho : o.op = .convert 3 5 x) (hx : ev x = .int .i64 (n : Int)) : (execOp ev o).run Tryd.prog u = .ok (.value (.int .u8 (n : Int))) u := by
  have e1 : IntKind.u8.wrap (n : Int) = (n : Int) := wraps_u8 _ (by omega) (by omega)
  unfold execOp; rw [ho]; simp only [hx]; go_simp
theorem lnB_div (n : Nat) : lnB n = [n / 16777216 % 256, n / 65536 % 256, n / 256 % 256, n % 256] := by
  unfold lnB; rw [Nat.shiftRight_eq_div_pow, Nat.shiftRight_eq_div_pow, Nat.shiftRight_eq_div_pow]
theorem PF_NW {lo n : Nat} {xs : List Nat} {u : World} {y : Value} (h : PF lo n (U8 xs) u y) : NW n (U8 xs) u y := by
  obtain ⟨b, rfl, _, h2, h4⟩ := h
  exact ⟨_, n, rfl, .inr ⟨_, rfl, fun j v hj => by rw [Addr.add0]; exact (h4 j v hj).1⟩⟩
set_option maxRecDepth 100000 in
set_option maxHeartbeats 8000000 in
theorem cPartsR_core (n gcap : Nat) (gsl : Option Addr) (kv : Value) (pS : Nat → List Nat) (aF : Nat → List Nat) (ds : List Nat) (w : World) (hn : n ≤ 1000) (hds : ds.length = 32)
    (hrow : Hid (0 < n → ∃ gl go, gsl = some ⟨gl, go, none⟩ ∧ gl < w.heap.size ∧ ∀ i, i < n → ∃ sv cv, w.cell? ⟨gl, go + i, none⟩ = some (.slice sv (pS i).length cv) ∧ IN w w.heap.size (.slice sv (pS i).length cv) (pS i))) (hln : Hid (∀ i, i < n → (pS i).length ≤ 1000)) (hpb : Hid (∀ i, i < n → True)) (ha0 : Hid (aF 0 = [])) (has : Hid (∀ i, i < n → aF (i + 1) = (aF i ++ lnB (pS i).length) ++ pS i)) (hab : Hid (∀ i, i ≤ n → (aF i).length ≤ 500000))
    (hSu : Hid (∀ (u : World) (b m c : Nat) (zs : List Value), Below w.heap.size w u → CV u b (U8 (aF n) ++ zs) → b < u.heap.size → m ≤ c → (aF n).length = m → Calls Tryd.prog 28 #[kv, .slice (some ⟨b, 0, none⟩) m c] u fun e u' => e = .returned (.agg (U8 (ds)).toArray) ∧ Below u.heap.size u u')) :
    Calls Tryd.prog 33 #[kv, (.slice gsl n gcap)] w fun e w' => e = .returned (.agg (U8 (ds)).toArray) ∧ Below w.heap.size w w' := by
  go_enter Tryd.func33, Tryd.ntmps33
  go_upto_region 1 with fail
  generalize hC : (w.alloc (.cells (Z32b : List Value).toArray 24)) = v0 at *
  have HB0 : Below w.heap.size w v0 := by rw [← hC]; exact balloc (bself w) _
  have K0 : Bk w.heap.size v0 [(true, w.heap.size, U8 (z32))] := by rw [← hC]; exact (Bk.nil _ w).ad
  clear hC
  obtain ⟨ti, hti, htm⟩ := Option.map_eq_some_iff.1 infoB
  simp only [Prod.mk.injEq] at htm
  obtain ⟨hzv, hsz, hby⟩ := htm
  have hlt4 := (K0.lt 0)
  have hlo4 := HB0.size
  refine rgF K0 HB0 HB0.size [] [] [] [] [] [⟨0, 8, some 1, PZ v0.heap.size⟩, ⟨1, 5, none, PZ v0.heap.size⟩] [] (.cons (fun _ _ _ h1 h2 => h2.stab h1) <| .cons (fun _ _ _ h1 h2 => h2.stab h1) <| Stab.nil) ?_ ?_
  · refine oc (g_bs 0 (PZ v0.heap.size) bs0b (fun u hu => PZ.new hu)) ?_
    exact oc (g_sE 0 1 (PZ v0.heap.size)) on
  intro u1 v1_0 hv1_0 v1_1 hv1_1 HB1 sz1 K1
  simp only [fX, nK, nP, Wr.f, aK, pM] at K1
  simp only [setG, setN, setE, List.set_cons_zero, List.set_cons_succ]
  clear K0 HB0
  obtain ⟨b5, rfl, ho1, ho2⟩ := hv1_1 rfl
  have K1_1 : Bk w.heap.size u1 [(false, w.heap.size, U8 (z32)), (false, b5, [])] := ⟨.c (K1.lt 0) (K1.cv 0) <| .c ho2 (fun j v h => by simp at h) <| trivial, by simp; omega⟩
  go_upto_region 2 with fail
  refine rgP K1_1 HB1 HB1.size [] [] [(0, 6, (Go.Value.int Go.IntKind.i64 0))] [] [] [] ?_ ?_
  · exact oc g_as on
  intro u2 HB2 sz2 K2
  simp only [fX, nK, nP, Wr.f, aK, pM] at K2
  simp only [setG, setN, List.set_cons_zero, List.set_cons_succ]
  clear HB1
  go_wp2_with fail
  go_loopw [6, 5] (fun s6 s5 wr => ∃ (i b5 n5 c5 : Nat) (zs : List Value), i ≤ n ∧ s6 = .int .i64 ((i : Nat) : Int) ∧ s5 = .slice (some ⟨b5, 0, none⟩) n5 c5 ∧ (aF i).length = n5 ∧ n5 ≤ c5 ∧ zs.length = c5 - n5 ∧ w.heap.size + 1 ≤ b5 ∧ b5 < wr.heap.size ∧ Hid (CV wr b5 (U8 (aF i) ++ zs)) ∧ Hid (CV wr w.heap.size (U8 (z32))) ∧ Below w.heap.size w wr) (fun s6 _ _ => n - (intOf s6).toNat)
  case atStart => exact ⟨0, b5, 0, 0, [], by omega, rfl, rfl, by rw [ha0.out]; rfl, by omega, rfl, by omega, (K2.lt 1), (by rw [ha0.out]; exact fun j v h => by simp [U8] at h), (K2.cv 0), HB2⟩
  case round =>
    clear ho1 ho2
    obtain ⟨i, b5, n5, c5, zs, hi, rfl, rfl, hal, hcc, hzl, hb5, hl5, Kv, K4, HBr⟩ := hrel
    clear HB2
    have hab := hab.out i hi
    by_cases hj : i < n
    · have hl1 : decide ((i : Int) < (n : Int)) = true := by simp; omega
      obtain ⟨gl, go, rfl, hgl, hcl⟩ := hrow.out (by omega)
      obtain ⟨sv, cv, hc, hinp⟩ := hcl i hj
      have hS := has.out i hj
      have hnl := hln.out i hj
    
      have hlb := lnB_div (pS i).length
      obtain ⟨ps, eps⟩ : ∃ x, pS i = x := ⟨_, rfl⟩
      rw [eps] at hc hinp hS hnl hlb
      obtain ⟨ln, eln⟩ : ∃ x, ps.length = x := ⟨_, rfl⟩
      rw [eln] at hc hnl hlb hS hinp
      obtain ⟨al, eal⟩ : ∃ x, aF i = x := ⟨_, rfl⟩
      rw [eal] at hS Kv hal hab
      rw [hlb] at hS
      have y3 : ln / 16777216 % 256 < 256 := Nat.mod_lt _ (by decide)
      have y2 : ln / 65536 % 256 < 256 := Nat.mod_lt _ (by decide)
      have y1 : ln / 256 % 256 < 256 := Nat.mod_lt _ (by decide)
      have y0 : ln % 256 < 256 := Nat.mod_lt _ (by decide)
      have d3 : ln / 16777216 ≤ ln := Nat.div_le_self _ _
      have d2 : ln / 65536 ≤ ln := Nat.div_le_self _ _
      have d1 : ln / 256 ≤ ln := Nat.div_le_self _ _
      obtain ⟨q3, eq3⟩ : ∃ q, ln / 16777216 = q := ⟨_, rfl⟩
      obtain ⟨q2, eq2⟩ : ∃ q, ln / 65536 = q := ⟨_, rfl⟩
      obtain ⟨q1, eq1⟩ : ∃ q, ln / 256 = q := ⟨_, rfl⟩
      rw [eq3] at hS y3 d3
      rw [eq2] at hS y2 d2
      rw [eq1] at hS y1 d1
      have hS : Hid _ := hS
      have hinp : Hid (∀ u, Below w.heap.size w u → NW ln (U8 ps) u (.slice sv ln cv)) := fun u hB => by
        have := IN_NW (IN.below hinp hB)
        rwa [eln] at this
      have eq3 : Hid _ := eq3
      have eq2 : Hid _ := eq2
      have eq1 : Hid _ := eq1
      clear eps eal hcl hlb
      have hnK := K2.n
      simp at hnK
      have K2_2 : Bk w.heap.size wr [(false, w.heap.size, U8 (z32)), (true, b5, U8 (al) ++ zs)] := ⟨.c (by omega) K4.out <| .o hl5 (by omega) Kv.out <| trivial, by simp; omega⟩
      go_upto_region 3 with fail
      refine rgP K2_2 HBr HBr.size [] [] [(0, 9, .int .i64 ((i : Nat) : Int)), (1, 10, .slice (some ⟨gl, go, none⟩) n gcap), (2, 11, .int .i64 ((n : Nat) : Int)), (3, 12, .bool true)] [] [] [] ?_ ?_
      · refine oc g_mv ?_
        refine oc g_mv ?_
        refine oc (g_ln Tryd.underlying37) ?_
        exact oc (g_bn (fun uZ => lss_i _ _ (i : Int) (n : Int) _ uZ hl1)) on
      intro u3 HB3 sz3 K3
      simp only [fX, nK, nP, Wr.f, aK, pM] at K3
      simp only [setG, setN, List.set_cons_zero, List.set_cons_succ]
      go_upto_region 5 with fail
      refine rgP K3 HB3 HB3.size [] [] [(0, 15, .slice (some ⟨gl, go, none⟩) n gcap), (1, 16, .int .i64 ((i : Nat) : Int)), (2, 17, .pointer (some ⟨gl, go + i, none⟩)), (3, 18, .slice sv ln cv), (4, 19, .int .i64 ((ln : Nat) : Int)), (5, 7, .int .i64 ((ln : Nat) : Int))] [] [] [] ?_ ?_
      · refine oc g_mv ?_
        refine oc g_mv ?_
        refine oc (g_ix (fun uZ => ixSl gl go n gcap i uZ hj)) ?_
        refine oc (g_lg gl (go + i) lSl (hc) (hgl)) ?_
        refine oc (g_ln Tryd.underlying22) ?_
        exact oc g_as on
      intro u4 HB4 sz4 K4
      simp only [fX, nK, nP, Wr.f, aK, pM] at K4
      simp only [setG, setN, List.set_cons_zero, List.set_cons_succ]
      clear K3 HB3
      go_upto_region 6 with fail
      refine rgF K4 HB4 HB4.size [.no, .all 17 ([])] [] [(0, 20, .slice (some ⟨b5, 0, none⟩) n5 c5), (1, 21, .int .i64 ((ln : Nat) : Int)), (2, 22, .int .i64 ((q3 : Nat) : Int)), (3, 23, .int .i64 ((q3 % 256 : Nat) : Int)), (4, 24, .int .u8 ((q3 % 256 : Nat) : Int)), (5, 25, .int .i64 ((ln : Nat) : Int)), (6, 26, .int .i64 ((q2 : Nat) : Int)), (7, 27, .int .i64 ((q2 % 256 : Nat) : Int)), (8, 28, .int .u8 ((q2 % 256 : Nat) : Int)), (9, 29, .int .i64 ((ln : Nat) : Int)), (10, 30, .int .i64 ((q1 : Nat) : Int)), (11, 31, .int .i64 ((q1 % 256 : Nat) : Int)), (12, 32, .int .u8 ((q1 % 256 : Nat) : Int)), (13, 33, .int .i64 ((ln : Nat) : Int)), (14, 34, .int .i64 ((ln % 256 : Nat) : Int)), (15, 35, .int .u8 ((ln % 256 : Nat) : Int))] [(18, 0), (18, 17)] [(18, 5)] [⟨16, 36, some 17, PF w.heap.size 4 (U8 [q3 % 256, q2 % 256, q1 % 256, ln % 256])⟩, ⟨17, 37, some 18, PH u4.heap.size b5 ti.size (n5 + 4) (U8 (al) ++ U8 [q3 % 256, q2 % 256, q1 % 256, ln % 256])⟩, ⟨18, 5, none, PH u4.heap.size b5 ti.size (n5 + 4) (U8 (al) ++ U8 [q3 % 256, q2 % 256, q1 % 256, ln % 256])⟩] [true, false] (.cons (fun _ _ _ h1 h2 => h2.stab h1) <| .cons (fun _ _ _ h1 h2 => h2.stab h1) <| .cons (fun _ _ _ h1 h2 => h2.stab h1) <| Stab.nil) ?_ ?_
      · refine oc g_mv ?_
        refine oc g_mv ?_
        refine oc (g_bn (fun uZ => (quo_n _ _ ln 16777216 uZ (by omega) (by decide)).trans (by rw [eq3.out]))) ?_
        refine oc (g_bn (fun uZ => rem_n _ _ q3 256 uZ (by omega) (by decide))) ?_
        refine oc (g_op (fun ev uZ he => cvi8 uZ y3 rfl (he _ _ rfl))) ?_
        refine oc g_mv ?_
        refine oc (g_bn (fun uZ => (quo_n _ _ ln 65536 uZ (by omega) (by decide)).trans (by rw [eq2.out]))) ?_
        refine oc (g_bn (fun uZ => rem_n _ _ q2 256 uZ (by omega) (by decide))) ?_
        refine oc (g_op (fun ev uZ he => cvi8 uZ y2 rfl (he _ _ rfl))) ?_
        refine oc g_mv ?_
        refine oc (g_bn (fun uZ => (quo_n _ _ ln 256 uZ (by omega) (by decide)).trans (by rw [eq1.out]))) ?_
        refine oc (g_bn (fun uZ => rem_n _ _ q1 256 uZ (by omega) (by decide))) ?_
        refine oc (g_op (fun ev uZ he => cvi8 uZ y1 rfl (he _ _ rfl))) ?_
        refine oc g_mv ?_
        refine oc (g_bn (fun uZ => rem_n _ _ ln 256 uZ (by omega) (by decide))) ?_
        refine oc (g_op (fun ev uZ he => cvi8 uZ y0 rfl (he _ _ rfl))) ?_
        refine oc (g_bR 0 (PF w.heap.size 4 (U8 [q3 % 256, q2 % 256, q1 % 256, ln % 256])) [0, 1, 2, 3] [.int .u8 ((q3 % 256 : Nat) : Int), .int .u8 ((q2 % 256 : Nat) : Int), .int .u8 ((q1 % 256 : Nat) : Int), .int .u8 ((ln % 256 : Nat) : Int)] (U8 [q3 % 256, q2 % 256, q1 % 256, ln % 256]) (bsB4 _ _ _ _) (fun u hu => PF.new 4 _ _ u (Nat.le_trans HB4.size hu))) ?_
        refine oc (g_pE 1 0 1 (PF w.heap.size 4 (U8 [q3 % 256, q2 % 256, q1 % 256, ln % 256])) (U8 (al)) zs (U8 [q3 % 256, q2 % 256, q1 % 256, ln % 256]) Tryd.underlying22 hti hzv (by rw [hsz]; rfl) rfl (fun u y hy => PF_NW hy) U8_mem (by rw [hsz]; rfl) (by rw [hsz, U8_len, hal]; omega) (by rw [hsz]; omega) hcc (by rw [hby]; omega) (by omega)) ?_
        exact oc (g_sE 1 2 (PH u4.heap.size b5 ti.size (n5 + 4) (U8 (al) ++ U8 [q3 % 256, q2 % 256, q1 % 256, ln % 256]))) on
      intro u5 v5_16 hv5_16 v5_17 hv5_17 v5_18 hv5_18 HB5 sz5 K5
      simp only [fX, nK, nP, Wr.f, aK, pM] at K5
      simp only [setG, setN, setE, List.set_cons_zero, List.set_cons_succ]
      clear K4 HB4
      obtain ⟨b6, c6, zs6, rfl, hb6, hl6, hc6, hz6, Kv6⟩ := hv5_18 rfl
      rw [hsz] at hz6
      rw [← U8_app] at Kv6
      have hb6b : w.heap.size + 1 ≤ b6 := by omega
      have hal6 : (al ++ [q3 % 256, q2 % 256, q1 % 256, ln % 256]).length = n5 + 4 := by rw [List.length_append, hal]; rfl
      have K5_3 : Bk w.heap.size u5 [(false, w.heap.size, U8 (z32)), (true, b6, U8 (al ++ [q3 % 256, q2 % 256, q1 % 256, ln % 256]) ++ zs6)] := ⟨.c (K5.lt 0) (K5.cv 0) <| .o hl6 (by omega) Kv6 <| trivial, by simp; omega⟩
      go_upto_region 7 with fail
      refine rgF K5_3 HB5 HB5.size [.no, .all 5 ([])] [] [(0, 38, .slice (some ⟨b6, 0, none⟩) (n5 + 4) c6), (1, 39, .slice (some ⟨gl, go, none⟩) n gcap), (2, 40, .int .i64 ((i : Nat) : Int)), (3, 41, .pointer (some ⟨gl, go + i, none⟩)), (4, 42, .slice sv ln cv)] [(6, 0), (6, 5)] [(6, 5)] [⟨5, 43, some 6, PH u5.heap.size b6 ti.size (n5 + 4 + ln) (U8 (al ++ [q3 % 256, q2 % 256, q1 % 256, ln % 256]) ++ U8 (ps))⟩, ⟨6, 5, none, PH u5.heap.size b6 ti.size (n5 + 4 + ln) (U8 (al ++ [q3 % 256, q2 % 256, q1 % 256, ln % 256]) ++ U8 (ps))⟩] [true, false] (.cons (fun _ _ _ h1 h2 => h2.stab h1) <| .cons (fun _ _ _ h1 h2 => h2.stab h1) <| Stab.nil) ?_ ?_
      · refine oc g_mv ?_
        refine oc g_mv ?_
        refine oc g_mv ?_
        refine oc (g_ix (fun uZ => ixSl gl go n gcap i uZ hj)) ?_
        refine oc (g_lg gl (go + i) lSl (hc) (hgl)) ?_
        refine oc (g_pV 1 0 (U8 (al ++ [q3 % 256, q2 % 256, q1 % 256, ln % 256])) zs6 (U8 (ps)) Tryd.underlying22 hti hzv (by rw [hsz]; rfl) rfl (fun f u kZ bZ => hinp.out u bZ) U8_mem (by rw [hsz, U8_len]; omega) (by rw [hsz, U8_len, hal6]; omega) (by rw [hsz]; omega) hc6 (by rw [hby]; omega) (by omega)) ?_
        exact oc (g_sE 0 1 (PH u5.heap.size b6 ti.size (n5 + 4 + ln) (U8 (al ++ [q3 % 256, q2 % 256, q1 % 256, ln % 256]) ++ U8 (ps)))) on
      intro u6 v6_5 hv6_5 v6_6 hv6_6 HB6 sz6 K6
      simp only [fX, nK, nP, Wr.f, aK, pM] at K6
      simp only [setG, setN, setE, List.set_cons_zero, List.set_cons_succ]
      clear HB5
      obtain ⟨b7, c7, zs7, rfl, hb7, hl7, hc7, hz7, Kv7⟩ := hv6_6 rfl
      rw [hsz] at hz7
      rw [← U8_app, ← hS.out] at Kv7
      have hal7 : (aF (i + 1)).length = n5 + 4 + ln := by rw [hS.out, List.length_append, hal6, eln]
      have Kv7 : Hid _ := Kv7
      have K6_4 : Bk w.heap.size u6 [(false, w.heap.size, U8 (z32)), (false, b7, U8 (aF (i + 1)) ++ zs7)] := ⟨.c (K6.lt 0) (K6.cv 0) <| .c hl7 Kv7.out <| trivial, by simp; omega⟩
      go_upto_region 4 with fail
      refine rgP K6_4 HB6 HB6.size [] [] [(0, 13, .int .i64 ((i : Nat) : Int)), (1, 14, .int .i64 ((i + 1 : Nat) : Int)), (2, 6, .int .i64 ((i + 1 : Nat) : Int))] [(2, 0)] [(2, 6)] [] ?_ ?_
      · refine oc g_mv ?_
        refine oc (g_bn (fun uZ => add_i _ _ ((i : Nat) : Int) 1 ((i + 1 : Nat) : Int) uZ (by omega) (by omega) (by omega))) ?_
        exact oc g_as on
      intro u7 HB7 sz7 K7
      simp only [fX, nK, nP, Wr.f, aK, pM] at K7
      simp only [setG, setN, List.set_cons_zero, List.set_cons_succ]
      clear HB6
      go_wp2
      refine ⟨⟨i + 1, b7, n5 + 4 + ln, c7, zs7, by omega, rfl, rfl, hal7, hc7, by omega, by omega, (K7.lt 1), (K7.cv 1), (K7.cv 0), HB7⟩, ?_⟩
      simp [intOf] <;> omega
    · have hl1 : decide ((i : Int) < (n : Int)) = false := by simp; omega
      have hin : i = n := by omega
      subst hin
      have hnK := K2.n
      simp at hnK
      have K2_2 : Bk w.heap.size wr [(true, w.heap.size, U8 (z32)), (false, b5, U8 (aF i) ++ zs)] := ⟨.o (by omega) (by omega) K4.out <| .c hl5 Kv.out <| trivial, by simp; omega⟩
      go_upto_region 3 with fail
      refine rgP K2_2 HBr HBr.size [] [] [(0, 9, .int .i64 ((i : Nat) : Int)), (1, 10, (.slice gsl i gcap)), (2, 11, .int .i64 ((i : Nat) : Int)), (3, 12, .bool false)] [] [] [] ?_ ?_
      · refine oc g_mv ?_
        refine oc g_mv ?_
        refine oc (g_ln Tryd.underlying37) ?_
        exact oc (g_bn (fun uZ => lss_i _ _ (i : Int) (i : Int) _ uZ hl1)) on
      intro u3 HB3 sz3 K3
      simp only [fX, nK, nP, Wr.f, aK, pM] at K3
      simp only [setG, setN, List.set_cons_zero, List.set_cons_succ]
      go_upto_region 8 with fail
      refine rgP K3 HB3 HB3.size [.all 3 (U8 (ds))] [] [(0, 44, kv), (1, 45, .slice (some ⟨b5, 0, none⟩) n5 c5), (2, 46, .agg (U8 (ds)).toArray)] [] [] [] ?_ ?_
      · refine oc g_mv ?_
        refine oc g_mv ?_
        refine oc (g_cK ent_seneschalref05_Sum (fun fZ uZ kZ sZ bZ => hSu.out uZ b5 n5 c5 zs bZ (kZ.cv 1) (kZ.lb sZ 1) hcc hal)) ?_
        exact oc (g_st 0 info__32_uint8 (h1 := U8_one _) (hm := by rw [U8_len, hds]) (hl := by first | rw [U8_len, U8_len, hds, show z32.length = 32 from rfl] | rfl)) on
      intro u4 HB4 sz4 K4
      simp only [fX, nK, nP, Wr.f, aK, pM] at K4
      simp only [setG, setN, List.set_cons_zero, List.set_cons_succ]
      clear K3 HB3
      go_wp2
      refine bodyPost_ret (res_cell Tryd.results33 rfl (K4.cv 0) Tryd.underlying24 rfl (by rw [U8_len, hds]; exact info__32_uint8)) rfl ⟨rfl, HB4⟩
theorem cPartsR (ks : List Nat) (ps : List (List Nat)) (v y : Value) (w : World) (hin : IN w w.heap.size v ks) (hk : ∀ x ∈ ks, x < 256) (hkl : ks.length ≤ 1000) (hy : LV w y ps) (hn : ps.length ≤ 80) (hx : ∀ p ∈ ps, ∀ x ∈ p, x < 256) (hl : ∀ p ∈ ps, p.length ≤ 1000) :
    Calls Tryd.prog 33 #[v, y] w fun e w' => e = .returned (.agg (U8 (mac ks (lnP ps).flatten)).toArray) ∧ Below w.heap.size w w' := by
  obtain ⟨gsl, gcap, gl, go, rfl, h1, h2, h3⟩ := hy
  have hgd : ∀ i, i < ps.length → ps.getD i [] ∈ ps := fun i hi => by
    have e2 : ps.getD i [] = ps[i] := by rw [List.getD_eq_getElem?_getD, List.getElem?_eq_getElem hi]; rfl
    rw [e2]; exact List.getElem_mem hi
  refine cPartsR_core ps.length gcap gsl v (fun i => ps.getD i []) (fun i => (lnP (ps.take i)).flatten) (mac ks (lnP ps).flatten) w (by omega) (mac_B _ _).len (fun h0 => ⟨gl, go, h1.resolve_left (by omega), h2, fun i hi => ?_⟩) (fun i hi => hl _ (hgd i hi)) (fun _ _ => trivial) rfl (fun i hi => ?_) (fun i hi => ?_) (fun u b m c zs hB hc hb hm hal => ?_)
  · have e2 : ps.getD i [] = ps[i] := by rw [List.getD_eq_getElem?_getD, List.getElem?_eq_getElem hi]; rfl
    obtain ⟨x, hx1, hx2⟩ := h3 i _ (List.getElem?_eq_getElem hi)
    have hx3 := hx2
    obtain ⟨sl, cap, gb, g2, q1, _⟩ := hx2
    simp only [e2]
    rw [q1] at hx1 hx3
    exact ⟨sl, cap, hx1, hx3⟩
  · simp only [lnP_step hi, List.flatten_append]
    simp
  · have := lnP_f (a := ps.take i) (fun p hp => hl p (List.mem_of_mem_take hp))
    rw [List.length_take] at this
    show (lnP (ps.take i)).flatten.length ≤ 500000
    omega
  · simp only [List.take_length] at hc hal
    have hf := lnP_f hl
    exact cMacR ks (lnP ps).flatten v _ u ((hin.below hB).mono hB.size) (by
      subst hal
      refine ⟨_, c, b, 0, rfl, hm, .inr rfl, hb, fun j hj => ?_⟩
      rw [Nat.zero_add]; exact (hc.pre2 j _ (U8_get _ j hj)).1) hk (flat_mem (lnP_m hx)) hkl (by omega)
/-- Slices of few bytes that came in. -/
def SQp (w : World) (v : Value) (p : List Nat) : Prop := IN w w.heap.size v p ∧ p.length ≤ 300 ∧ ∀ x ∈ p, x < 256
def SQ (w : World) (vs : List Value) : Prop := ∃ ps : List (List Nat), ps.length = vs.length ∧ ∀ (i : Nat) (v : Value) (p : List Nat), vs[i]? = some v → ps[i]? = some p → SQp w v p
theorem SQ.nil (w : World) : SQ w [] := ⟨[], rfl, fun i v p h => by simp at h⟩
theorem SQ.more {w : World} {vs : List Value} {v : Value} (h : SQ w vs) (hv : ∃ p, SQp w v p) : SQ w (vs ++ [v]) := by
  obtain ⟨ps, h1, h2⟩ := h
  obtain ⟨p, hp⟩ := hv
  refine ⟨ps ++ [p], by simp [h1], fun i x q hx hq => ?_⟩
  by_cases hi : i < vs.length
  · rw [List.getElem?_append_left hi] at hx
    rw [List.getElem?_append_left (by omega)] at hq
    exact h2 i x q hx hq
  · have hi2 : i = vs.length := by
      have := (List.getElem?_eq_some_iff.1 hx).1
      simp at this; omega
    subst hi2
    simp at hx
    rw [List.getElem?_append_right (by omega), h1] at hq
    simp at hq
    subst hx hq
    exact hp
set_option maxRecDepth 100000 in
set_option maxHeartbeats 8000000 in
theorem macParts_core (n cap m cn ccap : Nat) (sl cs : Option Addr) (dF : List (List Nat) → List Nat) (w : World) (hdB : Hid (∀ ps, BB 32 (dF ps)))
    (hcu : Hid (0 < cn → ∃ cb co, cs = some ⟨cb, co, none⟩ ∧ cb < w.heap.size ∧ ∀ j, j < cn → ∃ sv nv cv mv, w.cell? ⟨cb, co + j, none⟩ = some (.slice sv nv cv) ∧ (∀ u, Calls Tryd.prog 26 #[.slice sv nv cv] u fun e u' => e = .returned (.slice sv mv cv) ∧ Below u.heap.size u u') ∧ ∃ p, SQp w (.slice sv mv cv) p))
    (hSh : Hid (∀ (u : World), Calls Tryd.prog 26 #[(.slice sl n cap)] u fun e u' => e = .returned (.slice sl m cap) ∧ Below u.heap.size u u')) (hW : Hid (∀ (u : World), Below w.heap.size w u → Calls Tryd.prog 31 #[] u fun e u' => e = .returned (.bool true) ∧ Below u.heap.size u u')) (hP1 : Hid (∀ (u : World) (b c k : Nat) (vs zs : List Value) (ps : List (List Nat)), Below w.heap.size w u → CV u b (vs ++ zs) → b < u.heap.size → vs.length = k → k ≤ 20 → ps.length = vs.length → (∀ (i : Nat) (v : Value) (p : List Nat), vs[i]? = some v → ps[i]? = some p → SQp w v p) → Calls Tryd.prog 32 #[(.slice sl m cap), .slice (some ⟨b, 0, none⟩) k c] u fun e u' => e = .returned (.agg (U8 (dF ps)).toArray) ∧ Below u.heap.size u u')) (hP2 : Hid (∀ (u : World) (b c k : Nat) (vs zs : List Value) (ps : List (List Nat)), Below w.heap.size w u → CV u b (vs ++ zs) → b < u.heap.size → vs.length = k → k ≤ 20 → ps.length = vs.length → (∀ (i : Nat) (v : Value) (p : List Nat), vs[i]? = some v → ps[i]? = some p → SQp w v p) → Calls Tryd.prog 33 #[(.slice sl m cap), .slice (some ⟨b, 0, none⟩) k c] u fun e u' => e = .returned (.agg (U8 (dF ps)).toArray) ∧ Below u.heap.size u u')) :
    Calls Tryd.prog 7 #[(.slice sl n cap), (.slice cs cn ccap)] w fun e w' => e = .returned (.bool true) ∧ Below w.heap.size w w' := by
  go_enter Tryd.func7, Tryd.ntmps7
  have HB0 : Below w.heap.size w w := Below.refl _ _
  have K0_1 := Bk.nil (w.heap.size) w
  go_upto_region 1 with fail
  refine rgP K0_1 HB0 HB0.size [] [] [(0, 7, (.slice sl n cap)), (1, 8, (.slice sl m cap)), (2, 0, (.slice sl m cap))] [(2, 0)] [(2, 0)] [] ?_ ?_
  · refine oc g_mv ?_
    refine oc (g_cl ent_seneschallaw05_short (fun uZ => hSh.out uZ)) ?_
    exact oc g_as on
  intro u1 HB1 sz1 K1
  simp only [fX, nK, nP, Wr.f, aK, pM] at K1
  simp only [setG, setN, List.set_cons_zero, List.set_cons_succ]
  clear HB0
  have hlo4 := HB1.size
  go_upto_region 2 with fail
  refine rgF K1 HB1 HB1.size [] [] [] [] [] [⟨0, 9, some 1, PZ u1.heap.size⟩, ⟨1, 5, none, PZ u1.heap.size⟩] [] (.cons (fun _ _ _ h1 h2 => h2.stab h1) <| .cons (fun _ _ _ h1 h2 => h2.stab h1) <| Stab.nil) ?_ ?_
  · refine oc (g_bs 0 (PZ u1.heap.size) bs0 (fun u hu => PZ.new hu)) ?_
    exact oc (g_sE 0 1 (PZ u1.heap.size)) on
  intro u2 v2_0 hv2_0 v2_1 hv2_1 HB2 sz2 K2
  simp only [fX, nK, nP, Wr.f, aK, pM] at K2
  simp only [setG, setN, setE, List.set_cons_zero, List.set_cons_succ]
  clear K1 HB1
  obtain ⟨b5, rfl, ho1, ho2⟩ := hv2_1 rfl
  have hb5 : w.heap.size ≤ b5 := by omega
  have K2_2 : Bk w.heap.size u2 [(false, b5, [])] := ⟨.c ho2 (fun j v h => by simp at h) <| trivial, by simp⟩
  go_upto_region 3 with fail
  refine rgP K2_2 HB2 HB2.size [] [] [(0, 6, (Go.Value.int Go.IntKind.i64 0))] [] [] [] ?_ ?_
  · exact oc g_as on
  intro u3 HB3 sz3 K3
  simp only [fX, nK, nP, Wr.f, aK, pM] at K3
  simp only [setG, setN, List.set_cons_zero, List.set_cons_succ]
  clear HB2
  go_wp2_with fail
  go_loopw [6, 5] (fun s6 s5 wr => ∃ (j b5 c5 : Nat) (vs zs : List Value), j ≤ 20 ∧ j ≤ cn ∧ s6 = .int .i64 (j : Int) ∧ s5 = .slice (some ⟨b5, 0, none⟩) j c5 ∧ vs.length = j ∧ j ≤ c5 ∧ zs.length = c5 - j ∧ w.heap.size ≤ b5 ∧ b5 < wr.heap.size ∧ Hid (CV wr b5 (vs ++ zs)) ∧ Hid (SQ w vs) ∧ Below w.heap.size w wr) (fun s6 _ _ => 20 - (intOf s6).toNat)
  case atStart => exact ⟨0, b5, 0, [], [], by omega, by omega, rfl, rfl, rfl, by omega, rfl, hb5, (K3.lt 0), (fun j v h => by simp at h), SQ.nil w, HB3⟩
  case round =>
    clear hb5 ho1 ho2
    obtain ⟨j, b5, c5, vs, zs, hj20, hjc, rfl, rfl, hvl, hc5, hzl, hb5, hl5, Kv, hpp, HBr⟩ := hrel
    clear HB3
    obtain ⟨ti, hti, htm⟩ := Option.map_eq_some_iff.1 infoS
    simp only [Prod.mk.injEq] at htm
    obtain ⟨hzv, hsz, hby⟩ := htm
    by_cases hq : j < cn
    · have hq1 : decide ((j : Int) < (cn : Int)) = true := by simp; omega
      by_cases hq2 : j < 20
      · have hq3 : decide ((j : Int) < 20) = true := by simp; omega
        obtain ⟨cb, co, rfl, hcb, hcell⟩ := hcu.out (by omega)
        obtain ⟨sv, nv, cv, mv, hcx, hsv, hmv⟩ := hcell j hq
        have hpp2 := hpp.out.more hmv
        have hsv : Hid _ := hsv
        have hpp2 : Hid _ := hpp2
        clear hcell hmv
        have K3_3 : Bk w.heap.size wr [(true, b5, vs ++ zs)] := ⟨.o hl5 (by omega) Kv.out <| trivial, by simp⟩
        go_upto_region 4 with fail
        refine rgP K3_3 HBr HBr.size [] [] [(0, 10, .int .i64 ((j : Nat) : Int)), (1, 11, (.slice (some ⟨cb, co, none⟩) cn ccap)), (2, 12, .int .i64 ((cn : Nat) : Int)), (3, 13, .bool true), (4, 14, .bool true), (5, 15, .int .i64 ((j : Nat) : Int)), (6, 16, .bool true), (7, 17, .bool true)] [] [] [] ?_ ?_
        · refine oc g_mv ?_
          refine oc g_mv ?_
          refine oc (g_ln Tryd.underlying37) ?_
          refine oc (g_bn (fun uZ => lss_i _ _ (j : Int) (cn : Int) _ uZ hq1)) ?_
          refine oc g_mv ?_
          refine oc g_mv ?_
          refine oc (g_bn (fun uZ => lss_i _ _ (j : Int) 20 _ uZ hq3)) ?_
          exact oc g_pk on
        intro u4 HB4 sz4 K4
        simp only [fX, nK, nP, Wr.f, aK, pM] at K4
        simp only [setG, setN, List.set_cons_zero, List.set_cons_succ]
        go_upto_region 6 with fail
        refine rgF K4 HB4 HB4.size [.all 7 ([])] [] [(0, 20, .slice (some ⟨b5, 0, none⟩) j c5), (1, 21, (.slice (some ⟨cb, co, none⟩) cn ccap)), (2, 22, .int .i64 ((j : Nat) : Int)), (3, 23, .pointer (some ⟨cb, co + j, none⟩)), (4, 24, .slice sv nv cv), (5, 25, (.slice sv mv cv))] [(8, 0), (8, 7)] [(8, 5)] [⟨6, 26, some 7, P1 [(.slice sv mv cv)]⟩, ⟨7, 27, some 8, PH u4.heap.size b5 ti.size (j + 1) (vs ++ [(.slice sv mv cv)])⟩, ⟨8, 5, none, PH u4.heap.size b5 ti.size (j + 1) (vs ++ [(.slice sv mv cv)])⟩] [false] (.cons (fun _ _ _ h1 h2 => h2.stab h1) <| .cons (fun _ _ _ h1 h2 => h2.stab h1) <| .cons (fun _ _ _ h1 h2 => h2.stab h1) <| Stab.nil) ?_ ?_
        · refine oc g_mv ?_
          refine oc g_mv ?_
          refine oc g_mv ?_
          refine oc (g_ix (fun uZ => ixSl cb co cn ccap j uZ hq)) ?_
          refine oc (g_lg cb (co + j) lSl (hcx) (hcb)) ?_
          refine oc (g_cl ent_seneschallaw05_short (fun uZ => hsv.out uZ)) ?_
          refine oc (g_bR 0 (P1 [(.slice sv mv cv)]) [0] [(.slice sv mv cv)] [(.slice sv mv cv)] (bsSl _ _ _) (fun u hu => P1.new _ _ u)) ?_
          refine oc (g_pE 0 0 1 (P1 [(.slice sv mv cv)]) vs zs [(.slice sv mv cv)] Tryd.underlying37 hti hzv (by rw [hsz]; rfl) rfl P1.nw one_slice (by rw [hsz]; rfl) (by rw [hsz]; omega) (by rw [hsz]; omega) hc5 (by rw [hby]; omega) (by omega)) ?_
          exact oc (g_sE 1 2 (PH u4.heap.size b5 ti.size (j + 1) (vs ++ [(.slice sv mv cv)]))) on
        intro u5 v5_6 hv5_6 v5_7 hv5_7 v5_8 hv5_8 HB5 sz5 K5
        simp only [fX, nK, nP, Wr.f, aK, pM] at K5
        simp only [setG, setN, setE, List.set_cons_zero, List.set_cons_succ]
        clear K4 HB4
        obtain ⟨b6, c6, zs6, rfl, hb6, hl6, hc6, hz6, Kv6⟩ := hv5_8 rfl
        rw [hsz] at hz6
        have K5_4 : Bk w.heap.size u5 [(false, b6, (vs ++ [(.slice sv mv cv)]) ++ zs6)] := ⟨.c hl6 Kv6 <| trivial, by simp⟩
        go_upto_region 5 with fail
        refine rgP K5_4 HB5 HB5.size [] [] [(0, 18, .int .i64 ((j : Nat) : Int)), (1, 19, .int .i64 ((j + 1 : Nat) : Int)), (2, 6, .int .i64 ((j + 1 : Nat) : Int))] [(2, 0)] [(2, 6)] [] ?_ ?_
        · refine oc g_mv ?_
          refine oc (g_bn (fun uZ => add_i _ _ ((j : Nat) : Int) 1 ((j + 1 : Nat) : Int) uZ (by omega) (by omega) (by omega))) ?_
          exact oc g_as on
        intro u6 HB6 sz6 K6
        simp only [fX, nK, nP, Wr.f, aK, pM] at K6
        simp only [setG, setN, List.set_cons_zero, List.set_cons_succ]
        clear HB5
        go_wp2
        refine ⟨⟨j + 1, b6, c6, vs ++ [Value.slice sv mv cv], zs6, by omega, by omega, rfl, rfl, by simp [hvl], hc6, by omega, by omega, (K6.lt 0), (K6.cv 0), hpp2, HB6⟩, ?_⟩
        simp [intOf] <;> omega
      · have hq3 : decide ((j : Int) < 20) = false := by simp; omega
        have K3_3 : Bk w.heap.size wr [(false, b5, vs ++ zs)] := ⟨.c hl5 Kv.out <| trivial, by simp⟩
        go_upto_region 4 with fail
        refine rgP K3_3 HBr HBr.size [] [] [(0, 10, .int .i64 ((j : Nat) : Int)), (1, 11, (.slice cs cn ccap)), (2, 12, .int .i64 ((cn : Nat) : Int)), (3, 13, .bool true), (4, 14, .bool true), (5, 15, .int .i64 ((j : Nat) : Int)), (6, 16, .bool false), (7, 17, .bool false)] [] [] [] ?_ ?_
        · refine oc g_mv ?_
          refine oc g_mv ?_
          refine oc (g_ln Tryd.underlying37) ?_
          refine oc (g_bn (fun uZ => lss_i _ _ (j : Int) (cn : Int) _ uZ hq1)) ?_
          refine oc g_mv ?_
          refine oc g_mv ?_
          refine oc (g_bn (fun uZ => lss_i _ _ (j : Int) 20 _ uZ hq3)) ?_
          exact oc g_pk on
        intro u4 HB4 sz4 K4
        simp only [fX, nK, nP, Wr.f, aK, pM] at K4
        simp only [setG, setN, List.set_cons_zero, List.set_cons_succ]
        obtain ⟨ps, hp1, hp2⟩ := hpp.out
        have hp : Hid _ := hp2
        go_upto_region 7 with fail
        refine rgP K4 HB4 HB4.size [] [] [(0, 28, (.slice sl m cap)), (1, 29, .slice (some ⟨b5, 0, none⟩) j c5), (2, 30, .agg (U8 (dF ps)).toArray), (3, 31, (.slice sl m cap)), (4, 32, .slice (some ⟨b5, 0, none⟩) j c5), (5, 33, .agg (U8 (dF ps)).toArray), (6, 34, .bool true), (7, 35, .bool true), (8, 36, .bool true), (9, 37, .bool true), (10, 4, .bool true)] [] [] [] ?_ ?_
        · refine oc g_mv ?_
          refine oc g_mv ?_
          refine oc (g_cK ent_mac_Parts (fun fZ uZ kZ sZ bZ => hP1.out uZ b5 c5 j vs zs ps bZ (kZ.cv 0) (kZ.lb sZ 0) hvl (by omega) hp1 hp.out)) ?_
          refine oc g_mv ?_
          refine oc g_mv ?_
          refine oc (g_cK ent_seneschalref05_Parts (fun fZ uZ kZ sZ bZ => hP2.out uZ b5 c5 j vs zs ps bZ (kZ.cv 0) (kZ.lb sZ 0) hvl (by omega) hp1 hp.out)) ?_
          refine oc (g_bn (fun uZ => eql_A8 (dF ps) (hdB.out ps) _ _ uZ)) ?_
          refine oc g_mv ?_
          refine oc (g_cb ent_seneschallaw05_works (fun uZ bZ => hW.out uZ bZ)) ?_
          refine oc g_pk ?_
          exact oc g_as on
        intro u5 HB5 sz5 K5
        simp only [fX, nK, nP, Wr.f, aK, pM] at K5
        simp only [setG, setN, List.set_cons_zero, List.set_cons_succ]
        clear K4 HB4
        go_wp2
        refine bodyPost_ret (v := .bool true) (by simp [results, Tryd.results7, go_sem, ]) rfl ⟨rfl, HB5⟩
    · have hq1 : decide ((j : Int) < (cn : Int)) = false := by simp; omega
      have K3_3 : Bk w.heap.size wr [(false, b5, vs ++ zs)] := ⟨.c hl5 Kv.out <| trivial, by simp⟩
      go_upto_region 4 with fail
      refine rgP K3_3 HBr HBr.size [] [] [(0, 10, .int .i64 ((j : Nat) : Int)), (1, 11, (.slice cs cn ccap)), (2, 12, .int .i64 ((cn : Nat) : Int)), (3, 13, .bool false), (4, 14, .bool false), (5, 15, undef), (6, 16, undef), (7, 17, (Go.Value.bool Bool.false))] [] [] [] ?_ ?_
      · refine oc g_mv ?_
        refine oc g_mv ?_
        refine oc (g_ln Tryd.underlying37) ?_
        refine oc (g_bn (fun uZ => lss_i _ _ (j : Int) (cn : Int) _ uZ hq1)) ?_
        refine oc g_mv ?_
        refine oc g_sk ?_
        refine oc g_sk ?_
        exact oc g_pk on
      intro u4 HB4 sz4 K4
      simp only [fX, nK, nP, Wr.f, aK, pM] at K4
      simp only [setG, setN, List.set_cons_zero, List.set_cons_succ]
      obtain ⟨ps, hp1, hp2⟩ := hpp.out
      have hp : Hid _ := hp2
      go_upto_region 7 with fail
      refine rgP K4 HB4 HB4.size [] [] [(0, 28, (.slice sl m cap)), (1, 29, .slice (some ⟨b5, 0, none⟩) j c5), (2, 30, .agg (U8 (dF ps)).toArray), (3, 31, (.slice sl m cap)), (4, 32, .slice (some ⟨b5, 0, none⟩) j c5), (5, 33, .agg (U8 (dF ps)).toArray), (6, 34, .bool true), (7, 35, .bool true), (8, 36, .bool true), (9, 37, .bool true), (10, 4, .bool true)] [] [] [] ?_ ?_
      · refine oc g_mv ?_
        refine oc g_mv ?_
        refine oc (g_cK ent_mac_Parts (fun fZ uZ kZ sZ bZ => hP1.out uZ b5 c5 j vs zs ps bZ (kZ.cv 0) (kZ.lb sZ 0) hvl (by omega) hp1 hp.out)) ?_
        refine oc g_mv ?_
        refine oc g_mv ?_
        refine oc (g_cK ent_seneschalref05_Parts (fun fZ uZ kZ sZ bZ => hP2.out uZ b5 c5 j vs zs ps bZ (kZ.cv 0) (kZ.lb sZ 0) hvl (by omega) hp1 hp.out)) ?_
        refine oc (g_bn (fun uZ => eql_A8 (dF ps) (hdB.out ps) _ _ uZ)) ?_
        refine oc g_mv ?_
        refine oc (g_cb ent_seneschallaw05_works (fun uZ bZ => hW.out uZ bZ)) ?_
        refine oc g_pk ?_
        exact oc g_as on
      intro u5 HB5 sz5 K5
      simp only [fX, nK, nP, Wr.f, aK, pM] at K5
      simp only [setG, setN, List.set_cons_zero, List.set_cons_succ]
      clear K4 HB4
      go_wp2
      refine bodyPost_ret (v := .bool true) (by simp [results, Tryd.results7, go_sem, ]) rfl ⟨rfl, HB5⟩
end Go.Proofs.YtbgdcgboomdimaaDoor
