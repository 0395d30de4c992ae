/- The reference's List: lists as bytes. -/
import Derived.Test.YtjekkdckjnlkcaaDoorWB
namespace Go.Proofs.YtjekkdckjnlkcaaDoor
open Go.RowKit
set_option linter.unusedVariables false
set_option linter.unusedSimpArgs false
theorem bsB2 (a b : Nat) (w : World) : (Instr.buildSlice 24 2 ([0, 1].zip [.int .u8 (a : Int), .int .u8 (b : Int)]).toArray).run Tryd.prog w = .ok (.slice (some ⟨w.heap.size, 0, none⟩) 2 2) (w.alloc (.cells (U8 [a, b]).toArray 5)) := by kernel_rfl
theorem PF_NWw {lo n : Nat} {xs : List Nat} {u : World} {y : Value} (h : PF lo n (U8 xs) u y) : NW n (U8 xs) u y := by
  obtain ⟨b, rfl, _, h2, h4⟩ := h
  exact ⟨_, n, rfl, .inr ⟨_, rfl, fun j v hj => by rw [Addr.add0]; exact (h4 j v hj).1⟩⟩
set_option maxRecDepth 100000 in
set_option maxHeartbeats 8000000 in
theorem cListR_core (n gcap : Nat) (gsl : Option Addr) (pS oS : Nat → List Nat) (ev : Int) (xs : List Nat) (w : World) (hz : 0 < w.heap.size)
    (hrow : Hid (0 < n → ∃ gl go, gsl = some ⟨gl, go, none⟩ ∧ gl < w.heap.size ∧ ∀ i, i < n → ∃ sv cv, w.cell? ⟨gl, go + i, none⟩ = some (.slice sv (pS i).length cv) ∧ IN w w.heap.size (.slice sv (pS i).length cv) (pS i)))
    (ho0 : Hid (oS 0 = [])) (hos : Hid (∀ i, i < n → oS (i + 1) = (oS i ++ [(pS i).length / 256, (pS i).length % 256]) ++ pS i))
    (hE1 : 256 < n → ev = 3 ∧ xs = []) (hE2 : Hid (∀ i, i < n → n ≤ 256 → 4096 < (pS i).length → ev = 3 ∧ xs = []))
    (hE3 : Hid (∀ i, i < n → n ≤ 256 → 4096 < (oS (i + 1)).length → ev = 3 ∧ xs = []))
    (hE4 : Hid (n ≤ 256 → (oS n).length ≤ 4096 → ev = 0 ∧ xs = oS n)) :
    Calls Tryd.prog 30 #[.slice gsl n gcap] w fun e w' => ∃ v, e = .returned v ∧ PTX ev xs w' v ∧ Below w.heap.size w w' := by
  have hbs := bs0b
  by_cases hn : 256 < n
  · have hn1 : (256 : Int) < (n : Int) := by omega
    obtain ⟨rfl, rfl⟩ := hE1 hn
    go_enter Tryd.func30, Tryd.ntmps30
    go_wp2
    exact bodyPost_ret (v := .tuple #[.slice none 0 0, .int .i64 3]) (by simp [results, Tryd.results30, go_sem]) rfl ⟨_, rfl, ⟨_, rfl, IN_nil w hz⟩, Below.refl _ _⟩
  · have hn1 : ¬ (256 : Int) < (n : Int) := by omega
    go_enter Tryd.func30, Tryd.ntmps30
    go_wp2_with fail
    go_loopw [5, 4] (fun s5 s4 wr => ∃ (j bo m co : Nat) (zs : List Value), j ≤ n ∧ s5 = .int .i64 (j : Int) ∧ s4 = .slice (some ⟨bo, 0, none⟩) m co ∧ (oS j).length = m ∧ m ≤ 4096 ∧ m ≤ co ∧ zs.length = co - m ∧ w.heap.size ≤ bo ∧ bo < wr.heap.size ∧ Hid (CV wr bo (U8 (oS j) ++ zs)) ∧ Below w.heap.size w wr) (fun s5 _ _ => n - (intOf s5).toNat)
    case atStart => exact ⟨0, w.heap.size, 0, 0, [], by omega, rfl, rfl, by rw [ho0.out]; rfl, by omega, by omega, rfl, Nat.le_refl _, by simp, (by rw [ho0.out]; exact fun j v h => by simp [U8] at h), balloc (bself w) _⟩
    case round =>
      obtain ⟨j, bo, m, co, zs, hji, rfl, rfl, hml, hm4, hmc, hzl, hlo, hlt, Kv, HBr⟩ := hrel
      by_cases hj2 : j < n
      · have hl3 : (j : Int) < (n : Int) := by omega
        have hl1 : decide ((j : Int) < (n : Int)) = true := by simp; omega
        obtain ⟨ti, hti, htm⟩ := Option.map_eq_some_iff.1 infoB
        simp only [Prod.mk.injEq] at htm
        obtain ⟨hzv, hsz, hby⟩ := htm
        obtain ⟨gl, go, rfl, hgl, hcl⟩ := hrow.out (by omega)
        obtain ⟨sv, cv, hc2, hinp⟩ := hcl j hj2
        have hE := hE3.out j hj2 (by omega)
        have hEb := hE2.out j hj2 (by omega)
        have hO := hos.out j hj2
        obtain ⟨ps, eps⟩ : ∃ x, pS j = x := ⟨_, rfl⟩
        obtain ⟨ol, eol⟩ : ∃ x, oS j = x := ⟨_, rfl⟩
        rw [eps] at hO hc2 hinp hEb
        rw [eol] at hO hml Kv
        obtain ⟨k, ek⟩ : ∃ x, ps.length = x := ⟨_, rfl⟩
        rw [ek] at hO hc2 hinp hEb
        have hsw := HBr.size
        by_cases hkb : 4096 < k
        · have hkb2 : (4096 : Int) < (k : Int) := by omega
          have hd2 : wr.cell? ⟨gl, go + j, none⟩ = some (.slice sv k cv) := (HBr.cell (p := ⟨gl, go + j, none⟩) hgl).trans hc2
          obtain ⟨rfl, rfl⟩ := hEb hkb
          go_wp2
          exact bodyPost_ret (v := .tuple #[.slice none 0 0, .int .i64 3]) (by simp [results, Tryd.results30, go_sem]) rfl ⟨_, rfl, ⟨_, rfl, IN_nil _ (by omega)⟩, HBr⟩
        have hkd : decide ((4096 : Int) < (k : Int)) = false := by simp; omega
        have hk : k ≤ 4096 := by omega
        have hinn : Hid (∀ u, Below w.heap.size w u → NW k (U8 ps) u (.slice sv k cv)) := fun u hB => by
          have := IN_NW (IN.below hinp hB)
          rwa [ek] at this
        have hO : Hid _ := hO
        clear hcl eps eol hEb hinp
        have K0_1 : Bk w.heap.size wr [(true, bo, U8 (ol) ++ zs)] := ⟨.o hlt (by omega) Kv.out <| trivial, by simp⟩
        go_upto_region 5 with fail
        refine rgP K0_1 HBr HBr.size [] [] [(0, 10, .int .i64 ((j : Nat) : Int)), (1, 11, .slice (some ⟨gl, go, none⟩) n gcap), (2, 12, .int .i64 ((n : Nat) : Int)), (3, 13, .bool true)] [] [] [] ?_ ?_
        · refine oc g_mv ?_
          refine oc g_mv ?_
          refine oc (g_ln Tryd.underlying38) ?_
          exact oc (g_bn (fun uZ => lss_i _ _ (j : Int) (n : Int) _ uZ hl1)) on
        intro u1 HB1 sz1 K1
        simp only [fX, nK, nP, Wr.f, aK, pM] at K1
        simp only [setG, setN, List.set_cons_zero, List.set_cons_succ]
        go_upto_region 7 with fail
        refine rgP K1 HB1 HB1.size [] [] [(0, 16, .slice (some ⟨gl, go, none⟩) n gcap), (1, 17, .int .i64 ((j : Nat) : Int)), (2, 18, .pointer (some ⟨gl, go + j, none⟩)), (3, 19, .slice sv k cv), (4, 20, .int .i64 ((k : Nat) : Int)), (5, 21, .bool false)] [] [] [] ?_ ?_
        · refine oc g_mv ?_
          refine oc g_mv ?_
          refine oc (g_ix (fun uZ => ixSl gl go n gcap j uZ hj2)) ?_
          refine oc (g_lg gl (go + j) lSl (hc2) (hgl)) ?_
          refine oc (g_ln Tryd.underlying24) ?_
          exact oc (g_bn (fun uZ => gtr_i _ _ (k : Int) 4096 _ uZ hkd)) on
        intro u2 HB2 sz2 K2
        simp only [fX, nK, nP, Wr.f, aK, pM] at K2
        simp only [setG, setN, List.set_cons_zero, List.set_cons_succ]
        clear K1 HB1
        go_upto_region 9 with fail
        refine rgE K2 HB2 HB2.size [.all 16 ([])] [] [(0, 22, .slice (some ⟨bo, 0, none⟩) m co), (1, 23, .slice (some ⟨gl, go, none⟩) n gcap), (2, 24, .int .i64 ((j : Nat) : Int)), (3, 25, .pointer (some ⟨gl, go + j, none⟩)), (4, 26, .slice sv k cv), (5, 27, .int .i64 ((k : Nat) : Int)), (6, 28, .int .i64 ((k / 256 : Nat) : Int)), (7, 29, .int .u8 ((k / 256 : Nat) : Int)), (8, 30, .slice (some ⟨gl, go, none⟩) n gcap), (9, 31, .int .i64 ((j : Nat) : Int)), (10, 32, .pointer (some ⟨gl, go + j, none⟩)), (11, 33, .slice sv k cv), (12, 34, .int .i64 ((k : Nat) : Int)), (13, 35, .int .i64 ((k % 256 : Nat) : Int)), (14, 36, .int .u8 ((k % 256 : Nat) : Int))] [(17, 0), (17, 16)] [(17, 4)] [⟨15, 37, some 16, PF w.heap.size 2 (U8 [k / 256, k % 256])⟩, ⟨16, 38, some 17, PH u2.heap.size bo ti.size (m + 2) (U8 (ol) ++ U8 [k / 256, k % 256])⟩, ⟨17, 4, none, PH u2.heap.size bo ti.size (m + 2) (U8 (ol) ++ U8 [k / 256, k % 256])⟩] [false] (.cons (fun _ _ _ h1 h2 => h2.stab h1) <| .cons (fun _ _ _ h1 h2 => h2.stab h1) <| .cons (fun _ _ _ h1 h2 => h2.stab h1) <| Stab.nil) ?_ ?_
        · refine oc g_mv ?_
          refine oc g_mv ?_
          refine oc g_mv ?_
          refine oc (g_ix (fun uZ => ixSl gl go n gcap j uZ hj2)) ?_
          refine oc (g_lg gl (go + j) lSl (hc2) (hgl)) ?_
          refine oc (g_ln Tryd.underlying24) ?_
          refine oc (g_bn (fun uZ => quo_n _ _ k 256 uZ (by omega) (by decide))) ?_
          refine oc (g_op (fun ev uZ he => cvi8z uZ (by omega) rfl (he _ _ rfl))) ?_
          refine oc g_mv ?_
          refine oc g_mv ?_
          refine oc (g_ix (fun uZ => ixSl gl go n gcap j uZ hj2)) ?_
          refine oc (g_lg gl (go + j) lSl (hc2) (hgl)) ?_
          refine oc (g_ln Tryd.underlying24) ?_
          refine oc (g_bn (fun uZ => rem_n _ _ k 256 uZ (by omega) (by decide))) ?_
          refine oc (g_op (fun ev uZ he => cvi8z uZ (by omega) rfl (he _ _ rfl))) ?_
          refine oc (g_bR 0 (PF w.heap.size 2 (U8 [k / 256, k % 256])) [0, 1] [.int .u8 ((k / 256 : Nat) : Int), .int .u8 ((k % 256 : Nat) : Int)] (U8 [k / 256, k % 256]) (bsB2 _ _) (fun u hu => PF.new 2 _ _ u (Nat.le_trans HB2.size hu))) ?_
          refine oc (g_pE 0 0 1 (PF w.heap.size 2 (U8 [k / 256, k % 256])) (U8 (ol)) zs (U8 [k / 256, k % 256]) Tryd.underlying24 hti hzv (by rw [hsz]; rfl) rfl (fun u y hy => PF_NWw hy) U8_mem (by rw [hsz]; rfl) (by rw [hsz, U8_len, hml]; omega) (by rw [hsz]; omega) hmc (by rw [hby]; omega) (by omega)) ?_
          exact oc (g_sE 1 2 (PH u2.heap.size bo ti.size (m + 2) (U8 (ol) ++ U8 [k / 256, k % 256]))) on
        intro u3 v3_15 hv3_15 v3_16 hv3_16 v3_17 hv3_17 HB3 sz3 K3
        simp only [fX, nK, nP, Wr.f, aK, pM] at K3
        simp only [setG, setN, setE, List.set_cons_zero, List.set_cons_succ]
        clear K2 HB2
        obtain ⟨b6, c6, zs6, rfl, hb6, hl6, hc6, hz6, Kv6⟩ := hv3_17 rfl
        rw [hsz] at hz6
        rw [← U8_app] at Kv6
        have hb6b : w.heap.size ≤ b6 := by omega
        have hal6 : (ol ++ [k / 256, k % 256]).length = m + 2 := by rw [List.length_append, hml]; rfl
        have K3_2 : Bk w.heap.size u3 [(true, b6, U8 (ol ++ [k / 256, k % 256]) ++ zs6)] := ⟨.o hl6 (by omega) Kv6 <| trivial, by simp⟩
        go_upto_region 10 with fail
        refine rgF K3_2 HB3 HB3.size [.all 5 ([])] [] [(0, 39, .slice (some ⟨b6, 0, none⟩) (m + 2) c6), (1, 40, .slice (some ⟨gl, go, none⟩) n gcap), (2, 41, .int .i64 ((j : Nat) : Int)), (3, 42, .pointer (some ⟨gl, go + j, none⟩)), (4, 43, .slice sv k cv)] [(6, 0), (6, 5)] [(6, 4)] [⟨5, 44, some 6, PH u3.heap.size b6 ti.size (m + 2 + k) (U8 (ol ++ [k / 256, k % 256]) ++ U8 (ps))⟩, ⟨6, 4, none, PH u3.heap.size b6 ti.size (m + 2 + k) (U8 (ol ++ [k / 256, k % 256]) ++ U8 (ps))⟩] [false] (.cons (fun _ _ _ h1 h2 => h2.stab h1) <| .cons (fun _ _ _ h1 h2 => h2.stab h1) <| Stab.nil) ?_ ?_
        · refine oc g_mv ?_
          refine oc g_mv ?_
          refine oc g_mv ?_
          refine oc (g_ix (fun uZ => ixSl gl go n gcap j uZ hj2)) ?_
          refine oc (g_lg gl (go + j) lSl (hc2) (hgl)) ?_
          refine oc (g_pV 0 0 (U8 (ol ++ [k / 256, k % 256])) zs6 (U8 (ps)) Tryd.underlying24 hti hzv (by rw [hsz]; rfl) rfl (fun f u kZ bZ => hinn.out u bZ) U8_mem (by rw [hsz, U8_len]; omega) (by rw [hsz, U8_len, hal6]; omega) (by rw [hsz]; omega) hc6 (by rw [hby]; omega) (by omega)) ?_
          exact oc (g_sE 0 1 (PH u3.heap.size b6 ti.size (m + 2 + k) (U8 (ol ++ [k / 256, k % 256]) ++ U8 (ps)))) on
        intro u4 v4_5 hv4_5 v4_6 hv4_6 HB4 sz4 K4
        simp only [fX, nK, nP, Wr.f, aK, pM] at K4
        simp only [setG, setN, setE, List.set_cons_zero, List.set_cons_succ]
        clear HB3
        obtain ⟨b7, c7, zs7, rfl, hb7, hl7, hc7, hz7, Kv7⟩ := hv4_6 rfl
        rw [hsz] at hz7
        rw [← U8_app, ← hO.out] at Kv7
        have hal7 : (oS (j + 1)).length = m + 2 + k := by rw [hO.out, List.length_append, hal6, ek]
        have Kv7 : Hid _ := Kv7
        by_cases hbig : 4096 < m + 2 + k
        · have hbi : decide ((4096 : Int) < (((m + 2 + k : Nat)) : Int)) = true := by simp; omega
          obtain ⟨rfl, rfl⟩ := hE (by omega)
          have K4_3 : Bk w.heap.size u4 [(false, b7, U8 (oS (j + 1)) ++ zs7)] := ⟨.c hl7 Kv7.out <| trivial, by simp⟩
          go_upto_region 11 with fail
          refine rgP K4_3 HB4 HB4.size [] [] [(0, 45, .slice (some ⟨b7, 0, none⟩) (m + 2 + k) c7), (1, 46, .int .i64 ((m + 2 + k : Nat) : Int)), (2, 47, .bool true)] [] [] [] ?_ ?_
          · refine oc g_mv ?_
            refine oc (g_ln Tryd.underlying24) ?_
            exact oc (g_bn (fun uZ => gtr_i _ _ ((m + 2 + k : Nat) : Int) 4096 _ uZ hbi)) on
          intro u5 HB5 sz5 K5
          simp only [fX, nK, nP, Wr.f, aK, pM] at K5
          simp only [setG, setN, List.set_cons_zero, List.set_cons_succ]
          clear HB4
          have hszz := HB5.size
          go_wp2
          exact bodyPost_ret (v := .tuple #[.slice none 0 0, .int .i64 3]) (by simp [results, Tryd.results30, go_sem]) rfl ⟨_, rfl, ⟨_, rfl, IN_nil _ (by omega)⟩, HB5⟩
        · have hbi : decide ((4096 : Int) < (((m + 2 + k : Nat)) : Int)) = false := by simp; omega
          have K4_3 : Bk w.heap.size u4 [(false, b7, U8 (oS (j + 1)) ++ zs7)] := ⟨.c hl7 Kv7.out <| trivial, by simp⟩
          go_upto_region 11 with fail
          refine rgP K4_3 HB4 HB4.size [] [] [(0, 45, .slice (some ⟨b7, 0, none⟩) (m + 2 + k) c7), (1, 46, .int .i64 ((m + 2 + k : Nat) : Int)), (2, 47, .bool false)] [] [] [] ?_ ?_
          · refine oc g_mv ?_
            refine oc (g_ln Tryd.underlying24) ?_
            exact oc (g_bn (fun uZ => gtr_i _ _ ((m + 2 + k : Nat) : Int) 4096 _ uZ hbi)) on
          intro u5 HB5 sz5 K5
          simp only [fX, nK, nP, Wr.f, aK, pM] at K5
          simp only [setG, setN, List.set_cons_zero, List.set_cons_succ]
          clear HB4
          go_upto_region 6 with fail
          refine rgP K5 HB5 HB5.size [] [] [(0, 14, .int .i64 ((j : Nat) : Int)), (1, 15, .int .i64 ((j + 1 : Nat) : Int)), (2, 5, .int .i64 ((j + 1 : Nat) : Int))] [(2, 0)] [(2, 5)] [] ?_ ?_
          · refine oc g_mv ?_
            refine oc (g_bn (fun uZ => add_i _ _ ((j : Nat) : Int) 1 ((j + 1 : Nat) : Int) uZ (by omega) (by omega) (by omega))) ?_
            exact oc g_as on
          intro u6 HB6 sz6 K6
          simp only [fX, nK, nP, Wr.f, aK, pM] at K6
          simp only [setG, setN, List.set_cons_zero, List.set_cons_succ]
          clear K5 HB5
          go_wp2
          refine ⟨⟨j + 1, b7, m + 2 + k, c7, zs7, by omega, rfl, rfl, hal7, by omega, hc7, by omega, by omega, (K6.lt 0), (K6.cv 0), HB6⟩, ?_⟩
          simp [intOf] <;> omega
      · have hl3 : ¬ (j : Int) < (n : Int) := by omega
        have hin : j = n := by omega
        subst hin
        obtain ⟨rfl, rfl⟩ := hE4.out (by omega) (by omega)
        go_wp2
        exact bodyPost_ret (v := .tuple #[.slice (some ⟨bo, 0, none⟩) m co, .int .i64 0]) (by simp [results, Tryd.results30, go_sem]) rfl ⟨_, rfl, ⟨_, rfl, _, co, bo, 0, by rw [hml], by rw [hml]; exact hmc, .inr rfl, hlt, fun x hx => by rw [Nat.zero_add]; exact ((CV.pre2 Kv.out) x _ (U8_get _ x hx)).1⟩, HBr⟩
def putLE (ps : List (List Nat)) : Int := if 256 < ps.length then 3 else if (ps.any fun p => decide (4096 < p.length)) = true then 3 else if 4096 < (putL ps).length then 3 else 0
def putLX (ps : List (List Nat)) : List Nat := if putLE ps = 0 then putL ps else []
theorem putL_app : ∀ (a b : List (List Nat)), putL (a ++ b) = putL a ++ putL b
  | [], b => rfl
  | x :: a, b => by rw [List.cons_append, putL, putL, putL_app a b]; simp
theorem putL_step {ps : List (List Nat)} {i : Nat} (h : i < ps.length) : putL (ps.take (i + 1)) = (putL (ps.take i) ++ [(ps.getD i []).length / 256, (ps.getD i []).length % 256]) ++ ps.getD i [] := by
  have e : ps.getD i [] = ps[i] := by rw [List.getD_eq_getElem?_getD, List.getElem?_eq_getElem h]; rfl
  rw [List.take_succ_eq_append_getElem h, putL_app, e]
  simp [putL]
theorem putL_le (ps : List (List Nat)) (i : Nat) : (putL (ps.take i)).length ≤ (putL ps).length := by
  have := putL_app (ps.take i) (ps.drop i)
  rw [List.take_append_drop] at this
  rw [this, List.length_append]; omega
theorem putL_one {ps : List (List Nat)} {p : List Nat} (h : p ∈ ps) : p.length ≤ (putL ps).length := by
  obtain ⟨a, b, rfl⟩ := List.append_of_mem h
  rw [putL_app, putL]; simp; omega
/-- The reference's List. -/
theorem cListR (ps : List (List Nat)) (v : Value) (w : World) (h : LV w v ps) :
    Calls Tryd.prog 30 #[v] w fun e w' => ∃ v, e = .returned v ∧ PTX (putLE ps) (putLX ps) w' v ∧ Below w.heap.size w w' := by
  obtain ⟨sl, cap, gl, go, rfl, h3, h4, h5⟩ := h
  have hgd : ∀ i, i < ps.length → ps.getD i [] ∈ ps := fun i hi => by
    have e2 : ps.getD i [] = ps[i] := by rw [List.getD_eq_getElem?_getD, List.getElem?_eq_getElem hi]; rfl
    rw [e2]; exact List.getElem_mem hi
  have hany : ∀ i, i < ps.length → 4096 < (ps.getD i []).length → (ps.any fun p => decide (4096 < p.length)) = true := fun i hi hb => List.any_eq_true.2 ⟨_, hgd i hi, by simpa using hb⟩
  refine cListR_core ps.length cap sl (fun i => ps.getD i []) (fun i => putL (ps.take i)) (putLE ps) (putLX ps) w (Nat.lt_of_le_of_lt (Nat.zero_le _) h4) (fun h0 => ⟨gl, go, h3.resolve_left (by omega), h4, fun i hi => ?_⟩) rfl (fun i hi => putL_step hi) (fun h => ?_) (fun i hi hn hb => ?_) (fun i hi hn hb => ?_) (fun hn hb => ?_)
  · have e : ps.getD i [] = ps[i] := by rw [List.getD_eq_getElem?_getD, List.getElem?_eq_getElem hi]; rfl
    obtain ⟨x, b, c⟩ := h5 i ps[i] (List.getElem?_eq_getElem hi)
    simp only [e]
    obtain ⟨s2, c2, g2, o2, q1, q2⟩ := c
    exact ⟨s2, c2, by rw [← q1]; exact b, s2, c2, g2, o2, rfl, q2⟩
  · simp [putLE, putLX, h]
  · have h1 : ¬ 256 < ps.length := by omega
    have := hany i hi hb
    have e : putLE ps = 3 := by unfold putLE; rw [if_neg h1, if_pos this]
    exact ⟨e, by unfold putLX; rw [if_neg (by rw [e]; decide)]⟩
  · have h1 : ¬ 256 < ps.length := by omega
    have hl := putL_le ps (i + 1)
    have hb : 4096 < (putL (ps.take (i + 1))).length := hb
    have h2 : 4096 < (putL ps).length := by omega
    simp [putLE, putLX, h1, h2]
  · have h1 : ¬ 256 < ps.length := by omega
    simp only [List.take_length] at hb ⊢
    have h2 : ¬ 4096 < (putL ps).length := by omega
    have h3 : ¬ (ps.any fun p => decide (4096 < p.length)) = true := fun hc => by
      obtain ⟨p, p1, p2⟩ := List.any_eq_true.1 hc
      have := putL_one p1
      simp at p2; omega
    have e : putLE ps = 0 := by unfold putLE; rw [if_neg h1, if_neg h3, if_neg h2]
    exact ⟨e, by unfold putLX; rw [if_pos e]⟩
end Go.Proofs.YtjekkdckjnlkcaaDoor
