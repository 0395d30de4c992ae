/- SHA-256: the state behind a block. -/

import Derived.Test.YtbgdcgboomdimaaDoorSH2
namespace Go.Proofs.YtbgdcgboomdimaaDoor
open Go.RowKit
set_option linter.unusedVariables false
set_option linter.unusedSimpArgs false
def kcs : List Nat := [1116352408, 1899447441, 3049323471, 3921009573, 961987163, 1508970993, 2453635748, 2870763221, 3624381080, 310598401, 607225278, 1426881987, 1925078388, 2162078206, 2614888103, 3248222580, 3835390401, 4022224774, 264347078, 604807628, 770255983, 1249150122, 1555081692, 1996064986, 2554220882, 2821834349, 2952996808, 3210313671, 3336571891, 3584528711, 113926993, 338241895, 666307205, 773529912, 1294757372, 1396182291, 1695183700, 1986661051, 2177026350, 2456956037, 2730485921, 2820302411, 3259730800, 3345764771, 3516065817, 3600352804, 4094571909, 275423344, 430227734, 506948616, 659060556, 883997877, 958139571, 1322822218, 1537002063, 1747873779, 1955562222, 2024104815, 2227730452, 2361852424, 2428436474, 2756734187, 3204031479, 3329325298]
def fst8 : List Nat := [1779033703, 3144134277, 1013904242, 2773480762, 1359893119, 2600822924, 528734635, 1541459225]
/-- The two variables hold what the text says. -/
structure GV (w : World) : Prop where
  sz : 1 < w.heap.size
  k : ∀ t, t < 64 → w.cell? ⟨0, t, none⟩ = some (.int .u32 ((kcs.getD t 0 : Nat) : Int))
  f : ∀ t, t < 8 → w.cell? ⟨1, t, none⟩ = some (.int .u32 ((fst8.getD t 0 : Nat) : Int))
theorem GV.below {w w' : World} {m : Nat} (h : GV w) (hB : Below m w w') (hm : 1 < m) : GV w' where
  sz := Nat.lt_of_lt_of_le h.sz hB.size
  k := fun t ht => (hB.cell (p := ⟨0, t, none⟩) (by show 0 < m; omega)).trans (h.k t ht)
  f := fun t ht => (hB.cell (p := ⟨1, t, none⟩) hm).trans (h.f t ht)
theorem kcs_lt : ∀ t, t < 64 → kcs.getD t 0 < M32 := by decide
def tw1 (s : List Nat) (k w : Nat) : Nat := ((((s.getD 7 0 + gs1 (s.getD 4 0)) % 4294967296 + chN (s.getD 4 0) (s.getD 5 0) (s.getD 6 0)) % 4294967296 + k) % 4294967296 + w) % 4294967296
def tw2 (s : List Nat) : Nat := (gs0 (s.getD 0 0) + maN (s.getD 0 0) (s.getD 1 0) (s.getD 2 0)) % 4294967296
/-- A step. -/
def st8 (s : List Nat) (k w : Nat) : List Nat := [(tw1 s k w + tw2 s) % 4294967296, s.getD 0 0, s.getD 1 0, s.getD 2 0, (s.getD 3 0 + tw1 s k w) % 4294967296, s.getD 4 0, s.getD 5 0, s.getD 6 0]
def rds (ss ws : List Nat) : Nat → List Nat
  | 0 => ss
  | i + 1 => st8 (rds ss ws i) (kcs.getD i 0) (ws.getD i 0)
def sms (ss vs : List Nat) : Nat → List Nat
  | 0 => ss
  | i + 1 => (sms ss vs i).set i (((sms ss vs i).getD i 0 + vs.getD i 0) % 4294967296)
def blk (ss bs : List Nat) : List Nat := sms ss (rds ss (spread bs) 64) 8
theorem st8_W {s : List Nat} (h : WW 8 s) (k w : Nat) : WW 8 (st8 s k w) where
  len := rfl
  lt := fun j => by
    rcases (by omega : j = 0 ∨ j = 1 ∨ j = 2 ∨ j = 3 ∨ j = 4 ∨ j = 5 ∨ j = 6 ∨ j = 7 ∨ 8 ≤ j) with rfl | rfl | rfl | rfl | rfl | rfl | rfl | rfl | h8
    · exact Nat.mod_lt _ (by decide)
    · exact h.lt 0
    · exact h.lt 1
    · exact h.lt 2
    · exact Nat.mod_lt _ (by decide)
    · exact h.lt 4
    · exact h.lt 5
    · exact h.lt 6
    · rw [List.getD_eq_getElem?_getD, List.getElem?_eq_none (by show 8 ≤ j; exact h8)]; decide
theorem rds_W {ss : List Nat} (h : WW 8 ss) (ws : List Nat) : ∀ i, WW 8 (rds ss ws i)
  | 0 => h
  | i + 1 => st8_W (rds_W h ws i) _ _
theorem sms_W {ss : List Nat} (h : WW 8 ss) (vs : List Nat) : ∀ i, WW 8 (sms ss vs i)
  | 0 => h
  | i + 1 => (sms_W h vs i).set _ _ (Nat.mod_lt _ (by decide))
theorem spread_W (bs : List Nat) (hb : ∀ j, bs.getD j 0 < 256) : WW 64 (spread bs) := spB_W (spA_W bs hb 64) 48
theorem blk_W {ss : List Nat} (h : WW 8 ss) (bs : List Nat) : WW 8 (blk ss bs) := sms_W h _ 8
theorem list8 {l : List Nat} (h : l.length = 8) : l = [l.getD 0 0, l.getD 1 0, l.getD 2 0, l.getD 3 0, l.getD 4 0, l.getD 5 0, l.getD 6 0, l.getD 7 0] := by
  match l, h with
  | [a, b, c, d, e, f, g, i], _ => rfl
theorem bd8 (a b c d e f g h : Nat) (w : World) : (Instr.build 32 [(0, .int .u32 (a : Int)), (1, .int .u32 (b : Int)), (2, .int .u32 (c : Int)), (3, .int .u32 (d : Int)), (4, .int .u32 (e : Int)), (5, .int .u32 (f : Int)), (6, .int .u32 (g : Int)), (7, .int .u32 (h : Int))].toArray).run Tryd.prog w = .ok (.agg (U32 ([a, b, c, d, e, f, g, h])).toArray) w := by kernel_rfl
theorem ix8w {o : Oper} {ev : Operand → Value} {T : TypeId} {x y : Operand} {l : List Nat} {k : Nat} (u : World) (hT : T = 32) (ho : o.op = .index T x y) (hx : ev x = .agg (U32 l).toArray) (hy : ev y = .int .i64 k) (hl : l.length = 8) (hk : k < 8) : (execOp ev o).run Tryd.prog u = .ok (.value (.int .u32 ((l.getD k 0 : Nat) : Int))) u := by
  subst hT
  have h2 : (k : Int) < 8 := by omega
  have h3 : (U32 l).toArray[k]? = some (.int .u32 ((l.getD k 0 : Nat) : Int)) := by rw [List.getElem?_toArray]; exact U32_get l k (by omega)
  have e : (Instr.index 32 (.agg (U32 l).toArray) (.int .i64 k)).run Tryd.prog u = .ok (.int .u32 ((l.getD k 0 : Nat) : Int)) u := by
    generalize ((l.getD k 0 : Nat) : Int) = z at *
    generalize (U32 l).toArray = cs at *
    have u3 := Tryd.underlying31
    have a3 := Tryd.isAgg31
    have z3 := Tryd.sizeOf31
    unfold Instr.index
    simp only [asIntOf, Sem.run_bind, Sem.run_pure, Result.andThen_ok, run_underlying Tryd.underlying32]
    go_simp
  unfold execOp; rw [ho]; simp only [hx, hy]
  rw [Sem.run_bind, e, Result.andThen_ok, Sem.run_pure]
set_option maxRecDepth 100000 in
set_option maxHeartbeats 4000000 in
theorem cBlock_core (ss bs ws vs : List Nat) (r : Nat → Nat → Nat) (sC : Nat → List Nat) (w : World) (hl : bs.length = 64) (hls : ss.length = 8) (hws : ws.length = 64) (hV : GV w) (hSp : Hid (∀ u, Calls Tryd.prog 42 #[.agg (U8 (bs)).toArray] u fun e u' => e = .returned (.agg (U32 (ws)).toArray) ∧ Below u.heap.size u u'))
    (hR0 : ∀ j, ss.getD j 0 = r 0 j) (hR : Hid (∀ i, i < 64 → r (i + 1) 0 = ((((((r i 7 + gs1 (r i 4)) % 4294967296 + chN (r i 4) (r i 5) (r i 6)) % 4294967296 + kcs.getD i 0) % 4294967296 + ws.getD i 0) % 4294967296) + (gs0 (r i 0) + maN (r i 0) (r i 1) (r i 2)) % 4294967296) % 4294967296 ∧ r (i + 1) 1 = r i 0 ∧ r (i + 1) 2 = r i 1 ∧ r (i + 1) 3 = r i 2 ∧ r (i + 1) 4 = (r i 3 + ((((r i 7 + gs1 (r i 4)) % 4294967296 + chN (r i 4) (r i 5) (r i 6)) % 4294967296 + kcs.getD i 0) % 4294967296 + ws.getD i 0) % 4294967296) % 4294967296 ∧ r (i + 1) 5 = r i 4 ∧ r (i + 1) 6 = r i 5 ∧ r (i + 1) 7 = r i 6)) (hRl : Hid (∀ i j, r i j < M32)) (hVs : Hid (vs = [r 64 0, r 64 1, r 64 2, r 64 3, r 64 4, r 64 5, r 64 6, r 64 7])) (hC0 : Hid (sC 0 = ss)) (hCs : Hid (∀ i, sC (i + 1) = (sC i).set i (((sC i).getD i 0 + vs.getD i 0) % 4294967296))) (hCW : Hid (∀ i, WW 8 (sC i))) :
    Calls Tryd.prog 22 #[.agg (U32 (ss)).toArray, .agg (U8 (bs)).toArray] w fun e w' => e = .returned (.agg (U32 (sC 8)).toArray) ∧ Below w.heap.size w w' := by
  have h0 : 0 < w.heap.size := by have := hV.sz; omega
  have g0 := U32_get ss 0 (by omega)
  rw [hR0 0] at g0
  have g1 := U32_get ss 1 (by omega)
  rw [hR0 1] at g1
  have g2 := U32_get ss 2 (by omega)
  rw [hR0 2] at g2
  have g3 := U32_get ss 3 (by omega)
  rw [hR0 3] at g3
  have g4 := U32_get ss 4 (by omega)
  rw [hR0 4] at g4
  have g5 := U32_get ss 5 (by omega)
  rw [hR0 5] at g5
  have g6 := U32_get ss 6 (by omega)
  rw [hR0 6] at g6
  have g7 := U32_get ss 7 (by omega)
  rw [hR0 7] at g7
  clear hR0
  go_enter Tryd.func22, Tryd.ntmps22
  go_upto_region 1 with fail
  generalize hC : (((w.alloc (.cells (U32 (ss) : List Value).toArray 32)).alloc (.cells (U8 (bs) : List Value).toArray 33)).alloc (.cells (Z8w : List Value).toArray 32)) = v0 at *
  have HB0 : Below w.heap.size w v0 := by rw [← hC]; exact balloc (balloc (balloc (bself w) _) _) _
  have K0 : Bk w.heap.size v0 [(true, w.heap.size, U32 (ss)), (true, w.heap.size + 1, U8 (bs)), (true, w.heap.size + 1 + 1, U32 (z8))] := by rw [← hC]; exact (Bk.nil _ w).ad.ad.ad
  clear hC
  refine rgP K0 HB0 HB0.size [] [(2, 5, U32 (z64), some (3, U32 (ws)))] [(0, 20, .agg (U8 (bs)).toArray), (1, 21, .agg (U32 (ws)).toArray)] [(3, 2)] [] [true, false] ?_ ?_
  · refine oc (g_lR 1 0 (cs := U8 (bs)) (fun j v h => by rw [Nat.zero_add]; exact h) Tryd.underlying33 (by rw [U8_len, hl]; exact info__64_uint8)) ?_
    refine oc (g_cl ent_sha_spread (fun uZ => hSp.out uZ)) ?_
    refine oc (g_al 0 al__64_uint32) ?_
    exact oc (g_sn 0 info__64_uint32 (h1 := U32_one _) (hm := by rw [U32_len, hws]) (hl := by rw [U32_len, U32_len, hws, show z64.length = 64 from rfl])) on
  intro u1 b1_2 HB1 sz1 K1
  simp only [fX, nK, nP, Wr.f, aK, pM] at K1
  simp only [setG, setN, List.set_cons_zero, List.set_cons_succ]
  clear K0 HB0
  go_upto_region 2 with fail
  refine rgD K1 HB1 HB1.size [] [] [(0, 22, .pointer (some ⟨w.heap.size, 0, none⟩)), (1, 23, .int .u32 ((r 0 0 : Nat) : Int)), (2, 24, .pointer (some ⟨w.heap.size, 1, none⟩)), (3, 25, .int .u32 ((r 0 1 : Nat) : Int)), (4, 26, .pointer (some ⟨w.heap.size, 2, none⟩)), (5, 27, .int .u32 ((r 0 2 : Nat) : Int)), (6, 28, .pointer (some ⟨w.heap.size, 3, none⟩)), (7, 29, .int .u32 ((r 0 3 : Nat) : Int)), (8, 30, .pointer (some ⟨w.heap.size, 4, none⟩)), (9, 31, .int .u32 ((r 0 4 : Nat) : Int)), (10, 32, .pointer (some ⟨w.heap.size, 5, none⟩)), (11, 33, .int .u32 ((r 0 5 : Nat) : Int)), (12, 34, .pointer (some ⟨w.heap.size, 6, none⟩)), (13, 35, .int .u32 ((r 0 6 : Nat) : Int)), (14, 36, .pointer (some ⟨w.heap.size, 7, none⟩)), (15, 37, .int .u32 ((r 0 7 : Nat) : Int)), (16, 6, .int .u32 ((r 0 0 : Nat) : Int)), (17, 7, .int .u32 ((r 0 1 : Nat) : Int)), (18, 8, .int .u32 ((r 0 2 : Nat) : Int)), (19, 9, .int .u32 ((r 0 3 : Nat) : Int)), (20, 10, .int .u32 ((r 0 4 : Nat) : Int)), (21, 11, .int .u32 ((r 0 5 : Nat) : Int)), (22, 12, .int .u32 ((r 0 6 : Nat) : Int)), (23, 13, .int .u32 ((r 0 7 : Nat) : Int))] [] [] [] ?_ ?_
  · refine oc (g_ix (fun uZ => x8 _ 0 uZ (by decide))) ?_
    refine oc (g_lw 0 (0) l32 (g0)) ?_
    refine oc (g_ix (fun uZ => x8 _ 1 uZ (by decide))) ?_
    refine oc (g_lw 0 (1) l32 (g1)) ?_
    refine oc (g_ix (fun uZ => x8 _ 2 uZ (by decide))) ?_
    refine oc (g_lw 0 (2) l32 (g2)) ?_
    refine oc (g_ix (fun uZ => x8 _ 3 uZ (by decide))) ?_
    refine oc (g_lw 0 (3) l32 (g3)) ?_
    refine oc (g_ix (fun uZ => x8 _ 4 uZ (by decide))) ?_
    refine oc (g_lw 0 (4) l32 (g4)) ?_
    refine oc (g_ix (fun uZ => x8 _ 5 uZ (by decide))) ?_
    refine oc (g_lw 0 (5) l32 (g5)) ?_
    refine oc (g_ix (fun uZ => x8 _ 6 uZ (by decide))) ?_
    refine oc (g_lw 0 (6) l32 (g6)) ?_
    refine oc (g_ix (fun uZ => x8 _ 7 uZ (by decide))) ?_
    refine oc (g_lw 0 (7) l32 (g7)) ?_
    refine oc g_as ?_
    refine oc g_as ?_
    refine oc g_as ?_
    refine oc g_as ?_
    refine oc g_as ?_
    refine oc g_as ?_
    refine oc g_as ?_
    exact oc g_as on
  intro u2 HB2 sz2 K2
  simp only [fX, nK, nP, Wr.f, aK, pM] at K2
  simp only [setG, setN, List.set_cons_zero, List.set_cons_succ]
  clear K1 HB1
  go_upto_region 3 with fail
  refine rgP K2 HB2 HB2.size [] [] [(0, 38, .agg (U32 (ws)).toArray), (1, 39, (Go.Value.int Go.IntKind.i64 0))] [] [] [true, true, false] ?_ ?_
  · refine oc (g_lR 2 0 (cs := U32 (ws)) (fun j v h => by rw [Nat.zero_add]; exact h) Tryd.underlying56 (by rw [U32_len, hws]; exact info__64_uint32)) ?_
    exact oc g_mv on
  intro u3 HB3 sz3 K3
  simp only [fX, nK, nP, Wr.f, aK, pM] at K3
  simp only [setG, setN, List.set_cons_zero, List.set_cons_succ]
  clear K2 HB2
  go_wp2_with fail
  go_loopw [39, 6, 7, 8, 9, 10, 11, 12, 13] (fun s39 s6 s7 s8 s9 s10 s11 s12 s13 wr => ∃ (i : Nat), i ≤ 64 ∧ s39 = .int .i64 (i : Int) ∧ s6 = .int .u32 ((r i 0 : Nat) : Int) ∧ s7 = .int .u32 ((r i 1 : Nat) : Int) ∧ s8 = .int .u32 ((r i 2 : Nat) : Int) ∧ s9 = .int .u32 ((r i 3 : Nat) : Int) ∧ s10 = .int .u32 ((r i 4 : Nat) : Int) ∧ s11 = .int .u32 ((r i 5 : Nat) : Int) ∧ s12 = .int .u32 ((r i 6 : Nat) : Int) ∧ s13 = .int .u32 ((r i 7 : Nat) : Int) ∧ Below w.heap.size w wr ∧ Hid (CV wr (w.heap.size) (U32 (ss))) ∧ Hid (CV wr (w.heap.size + 1 + 1) (U32 (z8))) ∧ w.heap.size + 1 + 1 < wr.heap.size) (fun s39 _ _ _ _ _ _ _ _ _ => 64 - (intOf s39).toNat)
  case atStart => exact ⟨0, by omega, rfl, rfl, rfl, rfl, rfl, rfl, rfl, rfl, rfl, HB3, (K3.cv 0), (K3.cv 1), (K3.lt 1)⟩
  case round =>
    obtain ⟨i, hi, rfl, rfl, rfl, rfl, rfl, rfl, rfl, rfl, rfl, HBr, Ks, Kr, lr⟩ := hrel
    clear HB3
    by_cases hj : i < 64
    · have hl1 : decide ((i : Int) < 64) = true := by simp; omega
      have hst := hR.out i hj
      have hlt := hRl.out i
      obtain ⟨y, ey⟩ : ∃ y, ws.getD i 0 = y := ⟨_, rfl⟩
      obtain ⟨kk, ek⟩ : ∃ kk, kcs.getD i 0 = kk := ⟨_, rfl⟩
      have hix := fun (o : Oper) (ev : Operand → Value) (x z : Operand) u => @ix32v o ev 56 x z ws i u rfl
      have hkc := hV.k i hj
      rw [ey] at hix hst
      rw [ek] at hkc hst
      have hix : Hid _ := hix
      have hst : Hid _ := hst
      clear ey ek
      obtain ⟨a, ea⟩ : ∃ a, r i 0 = a := ⟨_, rfl⟩
      have ha := hlt 0
      rw [ea] at ha
      obtain ⟨b, eb⟩ : ∃ b, r i 1 = b := ⟨_, rfl⟩
      have hb := hlt 1
      rw [eb] at hb
      obtain ⟨c, ec⟩ : ∃ c, r i 2 = c := ⟨_, rfl⟩
      have hc := hlt 2
      rw [ec] at hc
      obtain ⟨d, ed⟩ : ∃ d, r i 3 = d := ⟨_, rfl⟩
      have hd := hlt 3
      rw [ed] at hd
      obtain ⟨e, ee⟩ : ∃ e, r i 4 = e := ⟨_, rfl⟩
      have he := hlt 4
      rw [ee] at he
      obtain ⟨f, ef⟩ : ∃ f, r i 5 = f := ⟨_, rfl⟩
      have hf := hlt 5
      rw [ef] at hf
      obtain ⟨g, eg⟩ : ∃ g, r i 6 = g := ⟨_, rfl⟩
      have hg := hlt 6
      rw [eg] at hg
      obtain ⟨h, eh⟩ : ∃ h, r i 7 = h := ⟨_, rfl⟩
      have hh := hlt 7
      rw [eh] at hh
      have hst2 : Hid _ := hst.out
      rw [ea, eb, ec, ed, ee, ef, eg, eh] at hst2
      rw [ea, eb, ec, ed, ee, ef, eg, eh]
      clear hst hlt ea eb ec ed ee ef eg eh
      have hnK := K3.n
      simp at hnK
      have K3_1 : Bk w.heap.size wr [(false, w.heap.size, U32 (ss)), (false, w.heap.size + 1 + 1, U32 (z8))] := ⟨.c (by omega) Ks.out <| .c lr Kr.out <| trivial, by simp; omega⟩
      go_upto_region 4 with fail
      refine rgP K3_1 HBr HBr.size [] [] [(0, 40, .bool true)] [] [] [] ?_ ?_
      · exact oc (g_bn (fun uZ => lss_i _ _ (i : Int) 64 _ uZ hl1)) on
      intro u4 HB4 sz4 K4
      simp only [fX, nK, nP, Wr.f, aK, pM] at K4
      simp only [setG, setN, List.set_cons_zero, List.set_cons_succ]
      go_upto_region 5 with fail
      refine rgP K4 HB4 HB4.size [] [] [(0, 41, .int .i64 (i : Int)), (1, 42, .int .u32 ((y : Nat) : Int)), (2, 14, .int .i64 (i : Int)), (3, 15, .int .u32 ((y : Nat) : Int))] [] [] [] ?_ ?_
      · refine oc g_mv ?_
        refine oc (g_op (fun ev uZ he => hix.out _ ev _ _ uZ rfl (he _ _ rfl) (he _ _ rfl) hws hj)) ?_
        refine oc g_as ?_
        exact oc g_as on
      intro u5 HB5 sz5 K5
      simp only [fX, nK, nP, Wr.f, aK, pM] at K5
      simp only [setG, setN, List.set_cons_zero, List.set_cons_succ]
      clear K4 HB4
      go_upto_region 6 with fail
      refine rgD K5 HB5 HB5.size [] [] [(0, 43, .int .u32 ((h : Nat) : Int)), (1, 44, .int .u32 ((e : Nat) : Int)), (2, 45, .int .u32 ((gs1 e : Nat) : Int)), (3, 46, .int .u32 (((h + gs1 e) % 4294967296 : Nat) : Int)), (4, 47, .int .u32 ((e : Nat) : Int)), (5, 48, .int .u32 ((f : Nat) : Int)), (6, 49, .int .u32 ((g : Nat) : Int)), (7, 50, .int .u32 ((chN e f g : Nat) : Int)), (8, 51, .int .u32 ((((h + gs1 e) % 4294967296 + chN e f g) % 4294967296 : Nat) : Int)), (9, 52, .int .i64 (i : Int)), (10, 53, .pointer (some ⟨0, i, none⟩)), (11, 54, .int .u32 ((kk : Nat) : Int)), (12, 55, .int .u32 (((((h + gs1 e) % 4294967296 + chN e f g) % 4294967296 + kk) % 4294967296 : Nat) : Int)), (13, 56, .int .u32 ((y : Nat) : Int)), (14, 57, .int .u32 ((((((h + gs1 e) % 4294967296 + chN e f g) % 4294967296 + kk) % 4294967296 + y) % 4294967296 : Nat) : Int)), (15, 16, .int .u32 ((((((h + gs1 e) % 4294967296 + chN e f g) % 4294967296 + kk) % 4294967296 + y) % 4294967296 : Nat) : Int))] [] [] [] ?_ ?_
      · refine oc g_mv ?_
        refine oc g_mv ?_
        refine oc (g_cl ent_sha_great1 (fun uZ => cGreat1 e uZ he)) ?_
        refine oc (g_bn (fun uZ => add32 _ _ h (gs1 e) uZ)) ?_
        refine oc g_mv ?_
        refine oc g_mv ?_
        refine oc g_mv ?_
        refine oc (g_cl ent_sha_choice (fun uZ => cChoice e f g uZ he hf hg)) ?_
        refine oc (g_bn (fun uZ => add32 _ _ ((h + gs1 e) % 4294967296) (chN e f g) uZ)) ?_
        refine oc g_mv ?_
        refine oc (g_ix (fun uZ => x64 0 i uZ hj)) ?_
        refine oc (g_lg 0 (i) l32 (hkc) (h0)) ?_
        refine oc (g_bn (fun uZ => add32 _ _ (((h + gs1 e) % 4294967296 + chN e f g) % 4294967296) kk uZ)) ?_
        refine oc g_mv ?_
        refine oc (g_bn (fun uZ => add32 _ _ ((((h + gs1 e) % 4294967296 + chN e f g) % 4294967296 + kk) % 4294967296) y uZ)) ?_
        exact oc g_as on
      intro u6 HB6 sz6 K6
      simp only [fX, nK, nP, Wr.f, aK, pM] at K6
      simp only [setG, setN, List.set_cons_zero, List.set_cons_succ]
      clear K5 HB5
      go_upto_region 7 with fail
      refine rgP K6 HB6 HB6.size [] [] [(0, 58, .int .u32 ((a : Nat) : Int)), (1, 59, .int .u32 ((gs0 a : Nat) : Int)), (2, 60, .int .u32 ((a : Nat) : Int)), (3, 61, .int .u32 ((b : Nat) : Int)), (4, 62, .int .u32 ((c : Nat) : Int)), (5, 63, .int .u32 ((maN a b c : Nat) : Int)), (6, 64, .int .u32 (((gs0 a + maN a b c) % 4294967296 : Nat) : Int)), (7, 17, .int .u32 (((gs0 a + maN a b c) % 4294967296 : Nat) : Int))] [] [] [] ?_ ?_
      · refine oc g_mv ?_
        refine oc (g_cl ent_sha_great0 (fun uZ => cGreat0 a uZ ha)) ?_
        refine oc g_mv ?_
        refine oc g_mv ?_
        refine oc g_mv ?_
        refine oc (g_cl ent_sha_majority (fun uZ => cMajority a b c uZ ha hb hc)) ?_
        refine oc (g_bn (fun uZ => add32 _ _ (gs0 a) (maN a b c) uZ)) ?_
        exact oc g_as on
      intro u7 HB7 sz7 K7
      simp only [fX, nK, nP, Wr.f, aK, pM] at K7
      simp only [setG, setN, List.set_cons_zero, List.set_cons_succ]
      clear K6 HB6
      go_upto_region 8 with fail
      refine rgP K7 HB7 HB7.size [] [] [(0, 65, .int .u32 ((((((h + gs1 e) % 4294967296 + chN e f g) % 4294967296 + kk) % 4294967296 + y) % 4294967296 : Nat) : Int)), (1, 66, .int .u32 (((gs0 a + maN a b c) % 4294967296 : Nat) : Int)), (2, 67, .int .u32 (((((((h + gs1 e) % 4294967296 + chN e f g) % 4294967296 + kk) % 4294967296 + y) % 4294967296 + (gs0 a + maN a b c) % 4294967296) % 4294967296 : Nat) : Int)), (3, 68, .int .u32 ((a : Nat) : Int)), (4, 69, .int .u32 ((b : Nat) : Int)), (5, 70, .int .u32 ((c : Nat) : Int)), (6, 71, .int .u32 ((d : Nat) : Int)), (7, 72, .int .u32 ((((((h + gs1 e) % 4294967296 + chN e f g) % 4294967296 + kk) % 4294967296 + y) % 4294967296 : Nat) : Int)), (8, 73, .int .u32 (((d + ((((h + gs1 e) % 4294967296 + chN e f g) % 4294967296 + kk) % 4294967296 + y) % 4294967296) % 4294967296 : Nat) : Int)), (9, 74, .int .u32 ((e : Nat) : Int)), (10, 75, .int .u32 ((f : Nat) : Int)), (11, 76, .int .u32 ((g : Nat) : Int)), (12, 6, .int .u32 (((((((h + gs1 e) % 4294967296 + chN e f g) % 4294967296 + kk) % 4294967296 + y) % 4294967296 + (gs0 a + maN a b c) % 4294967296) % 4294967296 : Nat) : Int)), (13, 7, .int .u32 ((a : Nat) : Int)), (14, 8, .int .u32 ((b : Nat) : Int)), (15, 9, .int .u32 ((c : Nat) : Int)), (16, 10, .int .u32 (((d + ((((h + gs1 e) % 4294967296 + chN e f g) % 4294967296 + kk) % 4294967296 + y) % 4294967296) % 4294967296 : Nat) : Int)), (17, 11, .int .u32 ((e : Nat) : Int)), (18, 12, .int .u32 ((f : Nat) : Int)), (19, 13, .int .u32 ((g : Nat) : Int))] [(12, 3), (13, 4), (14, 5), (15, 6), (16, 9), (17, 10), (18, 11)] [(12, 6), (13, 7), (14, 8), (15, 9), (16, 10), (17, 11), (18, 12)] [] ?_ ?_
      · refine oc g_mv ?_
        refine oc g_mv ?_
        refine oc (g_bn (fun uZ => add32 _ _ (((((h + gs1 e) % 4294967296 + chN e f g) % 4294967296 + kk) % 4294967296 + y) % 4294967296) ((gs0 a + maN a b c) % 4294967296) uZ)) ?_
        refine oc g_mv ?_
        refine oc g_mv ?_
        refine oc g_mv ?_
        refine oc g_mv ?_
        refine oc g_mv ?_
        refine oc (g_bn (fun uZ => add32 _ _ d (((((h + gs1 e) % 4294967296 + chN e f g) % 4294967296 + kk) % 4294967296 + y) % 4294967296) uZ)) ?_
        refine oc g_mv ?_
        refine oc g_mv ?_
        refine oc g_mv ?_
        refine oc g_as ?_
        refine oc g_as ?_
        refine oc g_as ?_
        refine oc g_as ?_
        refine oc g_as ?_
        refine oc g_as ?_
        refine oc g_as ?_
        exact oc g_as on
      intro u8 HB8 sz8 K8
      simp only [fX, nK, nP, Wr.f, aK, pM] at K8
      simp only [setG, setN, List.set_cons_zero, List.set_cons_succ]
      clear K7 HB7
      go_upto_region 9 with fail
      refine rgP K8 HB8 HB8.size [] [] [(0, 77, .int .i64 ((i + 1 : Nat) : Int)), (1, 39, .int .i64 ((i + 1 : Nat) : Int))] [(1, 0)] [(1, 39)] [] ?_ ?_
      · refine oc (g_bn (fun uZ => add_i _ _ (i : Int) 1 ((i + 1 : Nat) : Int) uZ (by omega) (by omega) (by omega))) ?_
        exact oc g_mv on
      intro u9 HB9 sz9 K9
      simp only [fX, nK, nP, Wr.f, aK, pM] at K9
      simp only [setG, setN, List.set_cons_zero, List.set_cons_succ]
      clear K8 HB8
      go_wp2
      obtain ⟨q0, q1, q2, q3, q4, q5, q6, q7⟩ := hst2.out
      refine ⟨⟨i + 1, by omega, rfl, (by rw [q0]), (by rw [q1]), (by rw [q2]), (by rw [q3]), (by rw [q4]), (by rw [q5]), (by rw [q6]), (by rw [q7]), HB9, (K9.cv 0), (K9.cv 1), (K9.lt 1)⟩, ?_⟩
      simp [intOf] <;> omega
    · have hl1 : decide ((i : Int) < 64) = false := by simp; omega
      have hi64 : i = 64 := by omega
      subst hi64
      obtain ⟨a, ea⟩ : ∃ a, r 64 0 = a := ⟨_, rfl⟩
      obtain ⟨b, eb⟩ : ∃ b, r 64 1 = b := ⟨_, rfl⟩
      obtain ⟨c, ec⟩ : ∃ c, r 64 2 = c := ⟨_, rfl⟩
      obtain ⟨d, ed⟩ : ∃ d, r 64 3 = d := ⟨_, rfl⟩
      obtain ⟨e, ee⟩ : ∃ e, r 64 4 = e := ⟨_, rfl⟩
      obtain ⟨f, ef⟩ : ∃ f, r 64 5 = f := ⟨_, rfl⟩
      obtain ⟨g, eg⟩ : ∃ g, r 64 6 = g := ⟨_, rfl⟩
      obtain ⟨h, eh⟩ : ∃ h, r 64 7 = h := ⟨_, rfl⟩
      have hvs := hVs.out
      rw [ea, eb, ec, ed, ee, ef, eg, eh] at hvs
      rw [ea, eb, ec, ed, ee, ef, eg, eh]
      have hvs : Hid _ := hvs
      clear ea eb ec ed ee ef eg eh
      have hnK := K3.n
      simp at hnK
      have K3_1 : Bk w.heap.size wr [(true, w.heap.size, U32 (ss)), (true, w.heap.size + 1 + 1, U32 (z8))] := ⟨.o (by omega) (K3.lo 0) Ks.out <| .o lr (K3.lo 1) Kr.out <| trivial, by simp; omega⟩
      go_upto_region 4 with fail
      refine rgP K3_1 HBr HBr.size [] [] [(0, 40, .bool false)] [] [] [] ?_ ?_
      · exact oc (g_bn (fun uZ => lss_i _ _ ((64 : Nat) : Int) 64 _ uZ hl1)) on
      intro u4 HB4 sz4 K4
      simp only [fX, nK, nP, Wr.f, aK, pM] at K4
      simp only [setG, setN, List.set_cons_zero, List.set_cons_succ]
      go_upto_region 10 with fail
      refine rgP K4 HB4 HB4.size [] [] [(0, 78, .int .u32 ((a : Nat) : Int)), (1, 79, .int .u32 ((b : Nat) : Int)), (2, 80, .int .u32 ((c : Nat) : Int)), (3, 81, .int .u32 ((d : Nat) : Int)), (4, 82, .int .u32 ((e : Nat) : Int)), (5, 83, .int .u32 ((f : Nat) : Int)), (6, 84, .int .u32 ((g : Nat) : Int)), (7, 85, .int .u32 ((h : Nat) : Int)), (8, 86, .agg (U32 ([a, b, c, d, e, f, g, h])).toArray), (9, 87, (Go.Value.int Go.IntKind.i64 0))] [] [] [] ?_ ?_
      · refine oc g_mv ?_
        refine oc g_mv ?_
        refine oc g_mv ?_
        refine oc g_mv ?_
        refine oc g_mv ?_
        refine oc g_mv ?_
        refine oc g_mv ?_
        refine oc g_mv ?_
        refine oc (g_bd (fun uZ => bd8 _ _ _ _ _ _ _ _ uZ)) ?_
        exact oc g_mv on
      intro u5 HB5 sz5 K5
      simp only [fX, nK, nP, Wr.f, aK, pM] at K5
      simp only [setG, setN, List.set_cons_zero, List.set_cons_succ]
      clear K4 HB4
      go_wp2_with fail
      go_loopw [87] (fun s87 wq => ∃ (j : Nat), j ≤ 8 ∧ s87 = .int .i64 (j : Int) ∧ Below w.heap.size w wq ∧ Hid (CV wq (w.heap.size) (U32 (sC j))) ∧ Hid (CV wq (w.heap.size + 1 + 1) (U32 (z8))) ∧ w.heap.size + 1 + 1 < wq.heap.size) (fun s87 _ => 8 - (intOf s87).toNat)
      case atStart => exact ⟨0, by omega, rfl, HB5, (by rw [hC0.out]; exact (K5.cv 0)), (K5.cv 1), (K5.lt 1)⟩
      case round =>
        obtain ⟨j, hj8, rfl, HBq, Ks2, Kr2, lr2⟩ := hrel
        clear HB5
        by_cases hjl : j < 8
        · have hl2 : decide ((j : Int) < 8) = true := by simp; omega
          have hS := hCs.out j
          have hlen := (hCW.out j).len
          obtain ⟨cs, ecs⟩ : ∃ cs, sC j = cs := ⟨_, rfl⟩
          rw [ecs] at hS hlen Ks2
          have gj := U32_get cs j (by omega)
          obtain ⟨x, ex⟩ : ∃ x, cs.getD j 0 = x := ⟨_, rfl⟩
          have hix := fun (o : Oper) (ev : Operand → Value) (x z : Operand) u => @ix8w o ev 32 x z [a, b, c, d, e, f, g, h] j u rfl
          obtain ⟨y, ey⟩ : ∃ y, ([a, b, c, d, e, f, g, h] : List Nat).getD j 0 = y := ⟨_, rfl⟩
          rw [hvs.out, ey] at hS
          rw [ex] at gj hS
          rw [ey] at hix
          have hS : Hid _ := hS
          have hix : Hid _ := hix
          clear ecs ex ey
          have hnK := K5.n
          simp at hnK
          have K5_2 : Bk w.heap.size wr [(true, w.heap.size, U32 (cs)), (false, w.heap.size + 1 + 1, U32 (z8))] := ⟨.o (by omega) (K5.lo 0) Ks2.out <| .c lr2 Kr2.out <| trivial, by simp; omega⟩
          go_upto_region 11 with fail
          refine rgP K5_2 HBq HBq.size [] [] [(0, 88, .bool true)] [] [] [] ?_ ?_
          · exact oc (g_bn (fun uZ => lss_i _ _ (j : Int) 8 _ uZ hl2)) on
          intro u6 HB6 sz6 K6
          simp only [fX, nK, nP, Wr.f, aK, pM] at K6
          simp only [setG, setN, List.set_cons_zero, List.set_cons_succ]
          go_upto_region 12 with fail
          refine rgP K6 HB6 HB6.size [] [] [(0, 89, .int .i64 (j : Int)), (1, 90, .int .u32 ((y : Nat) : Int)), (2, 18, .int .i64 (j : Int)), (3, 19, .int .u32 ((y : Nat) : Int))] [] [] [] ?_ ?_
          · refine oc g_mv ?_
            refine oc (g_op (fun ev uZ he => hix.out _ ev _ _ uZ rfl (he _ _ rfl) (he _ _ rfl) rfl hjl)) ?_
            refine oc g_as ?_
            exact oc g_as on
          intro u7 HB7 sz7 K7
          simp only [fX, nK, nP, Wr.f, aK, pM] at K7
          simp only [setG, setN, List.set_cons_zero, List.set_cons_succ]
          clear K6 HB6
          go_upto_region 13 with fail
          refine rgP K7 HB7 HB7.size [.all 6 (U32 (cs.set j ((x + y) % 4294967296)))] [] [(0, 91, .int .i64 (j : Int)), (1, 92, .pointer (some ⟨w.heap.size, j, none⟩)), (2, 93, .int .u32 ((x : Nat) : Int)), (3, 94, .int .u32 ((y : Nat) : Int)), (4, 95, .int .u32 (((x + y) % 4294967296 : Nat) : Int)), (5, 96, .pointer (some ⟨w.heap.size, j, none⟩))] [(6, 2)] [] [] ?_ ?_
          · refine oc g_mv ?_
            refine oc (g_ix (fun uZ => x8 _ j uZ hjl)) ?_
            refine oc (g_lw 0 (j) l32 (gj)) ?_
            refine oc g_mv ?_
            refine oc (g_bn (fun uZ => add32 _ _ x y uZ)) ?_
            refine oc (g_ix (fun uZ => x8 _ j uZ hjl)) ?_
            exact oc (g_sw 0 (j) s32 (gj) (U32_set _ _ _)) on
          intro u8 HB8 sz8 K8
          simp only [fX, nK, nP, Wr.f, aK, pM] at K8
          simp only [setG, setN, List.set_cons_zero, List.set_cons_succ]
          clear K7 HB7
          go_upto_region 14 with fail
          refine rgP K8 HB8 HB8.size [] [] [(0, 97, .int .i64 ((j + 1 : Nat) : Int)), (1, 87, .int .i64 ((j + 1 : Nat) : Int))] [(1, 0)] [(1, 87)] [] ?_ ?_
          · refine oc (g_bn (fun uZ => add_i _ _ (j : Int) 1 ((j + 1 : Nat) : Int) uZ (by omega) (by omega) (by omega))) ?_
            exact oc g_mv on
          intro u9 HB9 sz9 K9
          simp only [fX, nK, nP, Wr.f, aK, pM] at K9
          simp only [setG, setN, List.set_cons_zero, List.set_cons_succ]
          clear K8 HB8
          go_wp2
          refine ⟨⟨j + 1, by omega, rfl, HB9, (by rw [hS.out]; exact (K9.cv 0)), (K9.cv 1), (K9.lt 1)⟩, ?_⟩
          simp [intOf] <;> omega
        · have hl2 : decide ((j : Int) < 8) = false := by simp; omega
          have hj88 : j = 8 := by omega
          subst hj88
          have hlen := (hCW.out 8).len
          have hnK := K5.n
          simp at hnK
          have K5_2 : Bk w.heap.size wr [(false, w.heap.size, U32 (sC 8)), (true, w.heap.size + 1 + 1, U32 (z8))] := ⟨.c (by omega) Ks2.out <| .o lr2 (K5.lo 1) Kr2.out <| trivial, by simp; omega⟩
          go_upto_region 11 with fail
          refine rgP K5_2 HBq HBq.size [] [] [(0, 88, .bool false)] [] [] [] ?_ ?_
          · exact oc (g_bn (fun uZ => lss_i _ _ ((8 : Nat) : Int) 8 _ uZ hl2)) on
          intro u6 HB6 sz6 K6
          simp only [fX, nK, nP, Wr.f, aK, pM] at K6
          simp only [setG, setN, List.set_cons_zero, List.set_cons_succ]
          go_upto_region 15 with fail
          refine rgP K6 HB6 HB6.size [.no, .all 1 (U32 (sC 8))] [] [(0, 98, .agg (U32 (sC 8)).toArray)] [] [] [false] ?_ ?_
          · refine oc (g_lR 0 0 (cs := U32 (sC 8)) (fun j v h => by rw [Nat.zero_add]; exact h) Tryd.underlying32 (by rw [U32_len, hlen]; exact info__8_uint32)) ?_
            exact oc (g_st 1 info__8_uint32 (h1 := U32_one _) (hm := by rw [U32_len, hlen]) (hl := by rw [U32_len, U32_len, hlen, show z8.length = 8 from rfl])) on
          intro u7 HB7 sz7 K7
          simp only [fX, nK, nP, Wr.f, aK, pM] at K7
          simp only [setG, setN, List.set_cons_zero, List.set_cons_succ]
          clear K6 HB6
          go_wp2
          refine bodyPost_ret (res_cell Tryd.results22 rfl (K7.cv 0) Tryd.underlying32 rfl (by rw [U32_len, hlen]; exact info__8_uint32)) rfl ⟨rfl, HB7⟩
theorem cBlock (ss bs : List Nat) (w : World) (hs : WW 8 ss) (hl : bs.length = 64) (hb : ∀ j, bs.getD j 0 < 256) (hV : GV w) : Calls Tryd.prog 22 #[.agg (U32 (ss)).toArray, .agg (U8 (bs)).toArray] w fun e w' => e = .returned (.agg (U32 (blk ss bs)).toArray) ∧ Below w.heap.size w w' :=
  cBlock_core ss bs (spread bs) (rds ss (spread bs) 64) (fun i j => (rds ss (spread bs) i).getD j 0) (sms ss (rds ss (spread bs) 64)) w hl hs.len (spread_W bs hb).len hV (fun u => cSpread bs u hl hb) (fun _ => rfl)
    (fun i _ => ⟨rfl, rfl, rfl, rfl, rfl, rfl, rfl, rfl⟩) (fun i j => (rds_W hs _ i).lt j) (list8 (rds_W hs _ 64).len) rfl (fun _ => rfl) (sms_W hs _)
end Go.Proofs.YtbgdcgboomdimaaDoor
