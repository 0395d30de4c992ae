/- Rows of fields that are made in a loop; the reference's Read. -/
import Derived.Test.YtjekkdckjnlkcaaDoorAW3
namespace Go.Proofs.YtjekkdckjnlkcaaDoor
open Go.RowKit
set_option linter.unusedVariables false
set_option linter.unusedSimpArgs false
/-- A row of fields of one's own. -/
structure FW (u : World) (b : Nat) (vs : List Value) (fs : List FldI) : Prop where
  len : vs.length = 2 * fs.length
  inn : ∀ (k : Nat) (f : FldI), fs[k]? = some f → vs[2 * k]? = some (.int .i64 f.1) ∧ ∃ x, vs[2 * k + 1]? = some x ∧ INb u b x f.2 ∧ ∃ ad n c, x = .slice (some ad) n c
theorem FW.nil (u : World) (b : Nat) : FW u b [] [] := ⟨rfl, fun k f h => by simp at h⟩
theorem FW.below {u u2 : World} {b : Nat} {vs : List Value} {fs : List FldI} (h : FW u b vs fs) (hB : Below u.heap.size u u2) : FW u2 b vs fs := ⟨h.len, fun k f hf => by
  obtain ⟨a, x, c, d⟩ := h.inn k f hf
  exact ⟨a, x, c, d.1.below hB, d.2⟩⟩
theorem FW.grown {u u2 : World} {b b2 : Nat} {vs : List Value} {fs : List FldI} (h : FW u b vs fs) (hg : u.grownBy u2 (some b)) (hb : b2 = b ∨ u.heap.size ≤ b2) : FW u2 b2 vs fs := ⟨h.len, fun k f hf => by
  obtain ⟨a, x, c, d⟩ := h.inn k f hf
  exact ⟨a, x, c, d.1.grown hg hb, d.2⟩⟩
theorem FW.more {u : World} {b : Nat} {vs : List Value} {fs : List FldI} {t : Int} {x : Value} {q : List Nat} (h : FW u b vs fs) (hx : INb u b x q) (hs : ∃ ad n c, x = .slice (some ad) n c := by exact ⟨_, _, _, rfl⟩) : FW u b (vs ++ [.int .i64 t, x]) (fs ++ [(t, q)]) := by
  have hl := h.len
  refine ⟨by rw [List.length_append, List.length_append]; simp; omega, fun k f hf => ?_⟩
  by_cases hi : k < fs.length
  · rw [List.getElem?_append_left hi] at hf
    obtain ⟨a, y, c, d⟩ := h.inn k f hf
    rw [List.getElem?_append_left (by omega), List.getElem?_append_left (by omega)]
    exact ⟨a, y, c, d⟩
  · have hk : k = fs.length := by
      have := (List.getElem?_eq_some_iff.1 hf).1
      simp at this; omega
    subst hk
    simp at hf
    subst hf
    rw [List.getElem?_append_right (by omega), List.getElem?_append_right (by omega), hl, show 2 * fs.length + 1 - 2 * fs.length = 1 by omega, Nat.sub_self]
    exact ⟨rfl, x, rfl, hx, hs⟩
theorem infoF : (Tryd.prog.info? 54).map (fun i => (i.zero, i.size, i.bytes)) = some (some (.agg #[.int .i64 0, .slice none 0 0]), 2, 32) := by kernel_rfl
theorem bs0f (w : World) : (Instr.buildSlice 22 0 #[]).run Tryd.prog w = .ok (.slice (some ⟨w.heap.size, 0, none⟩) 0 0) (w.alloc (.cells #[] 54)) := by kernel_rfl
theorem bs1f (t : Int) (sl : Option Addr) (n c : Nat) (w : World) : (Instr.buildSlice 22 1 #[(0, .agg #[.int .i64 t, .slice sl n c])]).run Tryd.prog w = .ok (.slice (some ⟨w.heap.size, 0, none⟩) 1 1) (w.alloc (.cells #[.int .i64 t, .slice sl n c] 54)) := by kernel_rfl
theorem app_fl {u : World} {bo m co : Nat} {vs zs : List Value} {t : Int} {sl : Option Addr} {n c : Nat} {ty : TypeId} (hc : CV u bo (vs ++ zs)) (hb : bo < u.heap.size) (hvl : vs.length = 2 * m) (hmc : m ≤ co) (hz : zs.length = 2 * (co - m)) (hl : m ≤ 1000000) :
    ∃ v u', (Builtin.append_ #[22, 22] ty #[.slice (some ⟨bo, 0, none⟩) m co, .slice (some ⟨u.heap.size, 0, none⟩) 1 1]).run Tryd.prog (u.alloc (.cells #[.int .i64 t, .slice sl n c] 54)) = .ok v u' ∧ (u.alloc (.cells #[.int .i64 t, .slice sl n c] 54)).grownBy u' (some bo) ∧ PH (u.alloc (.cells #[.int .i64 t, .slice sl n c] 54)).heap.size bo 2 (m + 1) (vs ++ [.int .i64 t, .slice sl n c]) u' v := by
  obtain ⟨ti, hti, htm⟩ := Option.map_eq_some_iff.1 infoF
  simp only [Prod.mk.injEq] at htm
  obtain ⟨hzv, hsz, hby⟩ := htm
  have hss : u.heap.size ≤ (u.alloc (.cells #[.int .i64 t, .slice sl n c] 54)).heap.size := by simp
  obtain ⟨v', u', hr, hg, hp⟩ := run_app (P := Tryd.prog) (u.alloc (.cells #[.int .i64 t, .slice sl n c] 54)) (ty := ty) Tryd.underlying22 hti hzv (by rw [hsz]; rfl) (base := (u.alloc (.cells #[.int .i64 t, .slice sl n c] 54)).heap.size) (n := m) (cap := co) (m := 1) (news := [.int .i64 t, .slice sl n c]) (y := .slice (some ⟨u.heap.size, 0, none⟩) 1 1) (hc.below (balloc (bself u) _) hb) (Nat.lt_of_lt_of_le hb hss) (by rw [hsz]; omega) (by rw [hsz]; omega) hmc (Nat.le_refl _) ⟨_, 1, rfl, .inr ⟨_, rfl, fun j v hj => by rw [Addr.add0]; exact (CV.new u [.int .i64 t, .slice sl n c] 54 j v hj).1⟩⟩ (by rw [hsz]; rfl) (fun v hv => by simp at hv; rcases hv with h | h <;> (subst h; rfl)) (by rw [hby]; omega) (by omega)
  rw [hsz] at hp
  exact ⟨v', u', hr, hg, hp⟩
def PTF (e : Int) (fs : List FldI) (u : World) (v : Value) : Prop := ∃ y, v = .tuple #[y, .int .i64 e] ∧ VF u y fs
theorem VF_nil (u : World) (h : 0 < u.heap.size) : VF u (.slice none 0 0) [] := ⟨none, 0, 0, 0, rfl, Nat.le_refl _, .inl rfl, h, fun i p hp => by simp at hp⟩
theorem FW.vf {u : World} {bo m co : Nat} {vs zs : List Value} {fs : List FldI} (h : FW u bo vs fs) (hc : CV u bo (vs ++ zs)) (hvl : vs.length = 2 * m) (hmc : m ≤ co) (hb : bo < u.heap.size) : VF u (.slice (some ⟨bo, 0, none⟩) m co) fs := by
  have hl := h.len
  have hm : fs.length = m := by omega
  refine ⟨some ⟨bo, 0, none⟩, co, bo, 0, by rw [hm], by omega, .inr rfl, hb, fun k f hf => ?_⟩
  obtain ⟨a, x, c, d⟩ := h.inn k f hf
  rw [Nat.zero_add]
  exact ⟨((CV.pre2 hc) _ _ a).1, x, ((CV.pre2 hc) _ _ c).1, d.1.inn⟩
/-- The same, and none is nil with room. -/
def VFn (w : World) (v : Value) (fs : List FldI) : Prop := VF w v fs ∧ ∀ (sl : Option Addr) (n cap gl go : Nat), v = .slice sl n cap → sl = some ⟨gl, go, none⟩ → ∀ i, i < fs.length → ∀ m c, w.cell? ⟨gl, go + 2 * i + 1, none⟩ = some (.slice none m c) → c = 0
theorem VFn.below {w u : World} {v : Value} {fs : List FldI} (h : VFn w v fs) (hB : Below w.heap.size w u) : VFn u v fs := by
  refine ⟨h.1.below hB, fun sl n cap gl go e1 e2 i hi m c hc => ?_⟩
  obtain ⟨sl', cap', gl', go', q1, q2, q3, q4, q5⟩ := h.1
  have e3 : sl' = some ⟨gl', go', none⟩ := q3.resolve_left (by omega)
  rw [q1] at e1
  simp at e1
  rw [e1.1, e2] at e3
  simp at e3
  obtain ⟨rfl, rfl⟩ := e3
  rw [hB.cell (p := ⟨gl, go + 2 * i + 1, none⟩) q4] at hc
  exact h.2 sl' _ cap' gl go q1 (by rw [e1.1, e2]) i hi m c hc
theorem FW.vfn {u : World} {bo m co : Nat} {vs zs : List Value} {fs : List FldI} (h : FW u bo vs fs) (hc : CV u bo (vs ++ zs)) (hvl : vs.length = 2 * m) (hmc : m ≤ co) (hb : bo < u.heap.size) : VFn u (.slice (some ⟨bo, 0, none⟩) m co) fs := by
  refine ⟨h.vf hc hvl hmc hb, fun sl n cap gl go e1 e2 i hi mm c hcc => ?_⟩
  simp at e1
  rw [← e1.1] at e2
  simp at e2
  obtain ⟨rfl, rfl⟩ := e2
  obtain ⟨a, x, c1, d, ad, n2, c2, rfl⟩ := h.inn i fs[i] (List.getElem?_eq_getElem hi)
  have := ((CV.pre2 hc) _ _ c1).1
  rw [Nat.zero_add, this] at hcc
  simp at hcc
theorem rdF_end (f last : Nat) : rdF f last [] = some [] := by cases f <;> rfl
theorem rdF_short {b : List Nat} {i f last : Nat} (h : i < b.length) (h2 : b.length - i < 3) : rdF f last (b.drop i) = none := by
  rw [dropc b h]
  by_cases h3 : i + 1 = b.length
  · rw [h3, List.drop_length]; cases f <;> rfl
  · rw [dropc b (i := i + 1) (by omega), show i + 1 + 1 = b.length by omega, List.drop_length]; cases f <;> rfl
theorem rdF_cut {b : List Nat} {i f last : Nat} (h : i + 3 ≤ b.length) (hn : b.getD i 0 ≤ last ∨ b.length - i - 3 < 256 * b.getD (i + 1) 0 + b.getD (i + 2) 0) : rdF (f + 1) last (b.drop i) = none := by
  rw [dropc b (by omega), dropc b (i := i + 1) (by omega), dropc b (i := i + 2) (by omega), rdF, if_pos (by rw [List.length_drop]; omega)]
theorem rdF_more {b : List Nat} {i f n last : Nat} (h : i + 3 ≤ b.length) (e : 256 * b.getD (i + 1) 0 + b.getD (i + 2) 0 = n) (ht : ¬ b.getD i 0 ≤ last) (hn : n ≤ b.length - i - 3) : rdF (f + 1) last (b.drop i) = (rdF f (b.getD i 0) (b.drop (i + 3 + n))).map fun m => (b.getD i 0, (b.drop (i + 3)).take n) :: m := by
  rw [dropc b (by omega), dropc b (i := i + 1) (by omega), dropc b (i := i + 2) (by omega), rdF, if_neg (by rw [List.length_drop]; omega), e, List.drop_drop]
def upF (fs : List Fld) : List FldI := fs.map fun f => ((f.1 : Int), f.2)
set_option maxRecDepth 100000 in
set_option maxHeartbeats 8000000 in
theorem cReadR_core (len gcap : Nat) (gsl : Option Addr) (bs : List Nat) (R : Option (List Fld)) (ev : Int) (xs : List FldI) (w : World) (hz : 0 < w.heap.size) (hbl : bs.length = len) (hlc : len ≤ gcap)
    (hrow : Hid (0 < len → ∃ gb go, gsl = some ⟨gb, go, none⟩ ∧ gb < w.heap.size ∧ SB w gb go bs)) (hx : Hid (∀ i, bs.getD i 0 < 256)) (hR : Hid (R = rdF len 0 bs))
    (hE1 : 4096 < len → ev = 3 ∧ xs = []) (hE2 : Hid (len ≤ 4096 → R = none → ev = 80 ∧ xs = [])) (hE4 : Hid (∀ ms, len ≤ 4096 → R = some ms → ev = 0 ∧ xs = upF ms)) :
    Calls Tryd.prog 19 #[.slice gsl len gcap] w fun e w' => ∃ v, e = .returned v ∧ PTF ev xs w' v ∧ Below w.heap.size w w' := by
  have hbs := bs0f
  have hbb := bs0b
  have hb1 := bs1f
  by_cases hn : 4096 < len
  · have hn1 : (4096 : Int) < (len : Int) := by omega
    obtain ⟨rfl, rfl⟩ := hE1 hn
    go_enter Tryd.func19, Tryd.ntmps19
    go_wp2
    exact bodyPost_ret (v := .tuple #[.slice none 0 0, .int .i64 3]) (by simp [results, Tryd.results19, go_sem]) rfl ⟨_, rfl, ⟨_, rfl, VF_nil w hz⟩, Below.refl _ _⟩
  · have hn1 : ¬ (4096 : Int) < (len : Int) := by omega
    go_enter Tryd.func19, Tryd.ntmps19
    go_wp2_with fail
    go_loopw [6, 5, 4] (fun s6 s5 s4 wr => ∃ (i la bo m co : Nat) (vs zs : List Value) (ms : List Fld) (f : Nat), i ≤ len ∧ s6 = .int .i64 (i : Int) ∧ s5 = .int .i64 (la : Int) ∧ s4 = .slice (some ⟨bo, 0, none⟩) m co ∧ vs.length = 2 * m ∧ m ≤ i ∧ m ≤ co ∧ zs.length = 2 * (co - m) ∧ w.heap.size ≤ bo ∧ bo < wr.heap.size ∧ Hid (CV wr bo (vs ++ zs)) ∧ Hid (FW wr bo vs (upF ms)) ∧ Hid (R = (rdF f la (bs.drop i)).map fun q => ms ++ q) ∧ len - i ≤ f ∧ la < 256 ∧ Below w.heap.size w wr) (fun s6 _ _ _ => len - (intOf s6).toNat)
    case atStart => exact ⟨0, 0, w.heap.size, 0, 0, [], [], [], len, by omega, rfl, rfl, rfl, rfl, by omega, by omega, rfl, Nat.le_refl _, by simp, (fun j v h => by simp at h), FW.nil _ _, (by rw [hR.out, List.drop_zero]; cases rdF len 0 bs <;> rfl), by omega, by omega, balloc (bself w) _⟩
    case round =>
      obtain ⟨i, la, bo, m, co, vs, zs, ms, f, hi, rfl, rfl, rfl, hvl, hmi, hmc, hzl, hlo, hlt, Kv, hrw, hRi, hf, hla, HBr⟩ := hrel
      have hsw := HBr.size
      by_cases hj2 : i < len
      · have hl1 : decide ((i : Int) < (len : Int)) = true := by simp; omega
        have hl3 : (i : Int) < (len : Int) := by omega
        obtain ⟨gb, go, rfl, hgb, hsb⟩ := hrow.out (by omega)
        have hgb2 : gb < wr.heap.size := Nat.lt_of_lt_of_le hgb hsw
        have e1 : IntKind.i64.wrap ((len : Int) - (i : Int)) = (len : Int) - (i : Int) := by rw [IntKind.wrap_i64]; omega
        by_cases h2 : len - i < 3
        · have hl4 : (len : Int) - (i : Int) < 3 := by omega
          obtain ⟨rfl, rfl⟩ := hE2.out (by omega) (by rw [hRi.out, rdF_short (by omega) (by omega)]; rfl)
          go_wp2
          exact bodyPost_ret (v := .tuple #[.slice none 0 0, .int .i64 80]) (by simp [results, Tryd.results19, go_sem]) rfl ⟨_, rfl, ⟨_, rfl, VF_nil _ (by omega)⟩, HBr⟩
        have hl2 : decide (((len - i : Nat) : Int) < 3) = false := by simp; omega
        have hc0 : wr.cell? ⟨gb, go + i, none⟩ = some (.int .u8 ((bs.getD i 0 : Nat) : Int)) := (HBr.cell (p := ⟨gb, go + i, none⟩) hgb).trans (hsb i (by omega))
        have hc1 : wr.cell? ⟨gb, go + (i + 1), none⟩ = some (.int .u8 ((bs.getD (i + 1) 0 : Nat) : Int)) := (HBr.cell (p := ⟨gb, go + (i + 1), none⟩) hgb).trans (hsb (i + 1) (by omega))
        have hc2 : wr.cell? ⟨gb, go + (i + 2), none⟩ = some (.int .u8 ((bs.getD (i + 2) 0 : Nat) : Int)) := (HBr.cell (p := ⟨gb, go + (i + 2), none⟩) hgb).trans (hsb (i + 2) (by omega))
        have y0 := hx.out i
        have y1 := hx.out (i + 1)
        have y2 := hx.out (i + 2)
        have hcut := fun f => rdF_cut (b := bs) (i := i) (f := f) (last := la) (by omega)
        have hmore := fun f n => rdF_more (b := bs) (i := i) (f := f) (n := n) (last := la) (by omega)
        obtain ⟨x0, ex0⟩ : ∃ x, bs.getD i 0 = x := ⟨_, rfl⟩
        obtain ⟨x1, ex1⟩ : ∃ x, bs.getD (i + 1) 0 = x := ⟨_, rfl⟩
        obtain ⟨x2, ex2⟩ : ∃ x, bs.getD (i + 2) 0 = x := ⟨_, rfl⟩
        rw [ex0] at hc0 y0
        rw [ex1] at hc1 y1
        rw [ex2] at hc2 y2
        rw [ex0, ex1, ex2] at hcut hmore
        obtain ⟨nn, enn⟩ : ∃ x, 256 * x1 + x2 = x := ⟨_, rfl⟩
        rw [enn] at hcut hmore
        have HBz : Below wr.heap.size wr wr := Below.refl _ _
        have hcut : Hid _ := hcut
        have hmore : Hid _ := hmore
        clear ex0 ex1 ex2
        have K0_1 := Bk.nil (wr.heap.size) wr
        go_upto_region 6 with fail
        refine rgP K0_1 HBz HBz.size [] [] [(0, 13, .int .i64 ((i : Nat) : Int)), (1, 14, .slice (some ⟨gb, go, none⟩) len gcap), (2, 15, .int .i64 ((len : Nat) : Int)), (3, 16, .bool true)] [] [] [] ?_ ?_
        · refine oc g_mv ?_
          refine oc g_mv ?_
          refine oc (g_ln Tryd.underlying24) ?_
          exact oc (g_bn (fun uZ => lss_i _ _ (i : Int) (len : Int) _ uZ hl1)) on
        intro u1 HB1 sz1 K1
        simp only [fX, nK, nP, Wr.f, aK, pM] at K1
        simp only [setG, setN, List.set_cons_zero, List.set_cons_succ]
        go_upto_region 7 with fail
        refine rgP K1 HB1 HB1.size [] [] [(0, 17, .slice (some ⟨gb, go, none⟩) len gcap), (1, 18, .int .i64 ((len : Nat) : Int)), (2, 19, .int .i64 ((i : Nat) : Int)), (3, 20, .int .i64 ((len - i : Nat) : Int)), (4, 21, .bool false)] [] [] [] ?_ ?_
        · refine oc g_mv ?_
          refine oc (g_ln Tryd.underlying24) ?_
          refine oc g_mv ?_
          refine oc (g_bn (fun uZ => sub_i _ _ (len : Int) (i : Int) ((len - i : Nat) : Int) uZ (by omega) (by omega) (by omega))) ?_
          exact oc (g_bn (fun uZ => lss_i _ _ ((len - i : Nat) : Int) 3 _ uZ hl2)) on
        intro u2 HB2 sz2 K2
        simp only [fX, nK, nP, Wr.f, aK, pM] at K2
        simp only [setG, setN, List.set_cons_zero, List.set_cons_succ]
        clear K1 HB1
        go_upto_region 9 with fail
        refine rgD K2 HB2 HB2.size [] [] [(0, 22, .slice (some ⟨gb, go, none⟩) len gcap), (1, 23, .int .i64 ((i : Nat) : Int)), (2, 24, .pointer (some ⟨gb, go + i, none⟩)), (3, 25, .int .u8 ((x0 : Nat) : Int)), (4, 26, .int .i64 ((x0 : Nat) : Int)), (5, 27, .slice (some ⟨gb, go, none⟩) len gcap), (6, 28, .int .i64 ((i : Nat) : Int)), (7, 29, .int .i64 ((i + 1 : Nat) : Int)), (8, 30, .pointer (some ⟨gb, go + (i + 1), none⟩)), (9, 31, .int .u8 ((x1 : Nat) : Int)), (10, 32, .int .i64 ((x1 : Nat) : Int)), (11, 33, .int .i64 ((256 * x1 : Nat) : Int)), (12, 34, .slice (some ⟨gb, go, none⟩) len gcap), (13, 35, .int .i64 ((i : Nat) : Int)), (14, 36, .int .i64 ((i + 2 : Nat) : Int)), (15, 37, .pointer (some ⟨gb, go + (i + 2), none⟩)), (16, 38, .int .u8 ((x2 : Nat) : Int)), (17, 39, .int .i64 ((x2 : Nat) : Int)), (18, 40, .int .i64 ((nn : Nat) : Int)), (19, 7, .int .i64 ((x0 : Nat) : Int)), (20, 8, .int .i64 ((nn : Nat) : Int))] [] [] [] ?_ ?_
        · refine oc g_mv ?_
          refine oc g_mv ?_
          refine oc (g_ix (fun uZ => ixB gb go len gcap i (by omega) uZ)) ?_
          refine oc (g_lg gb (go + i) l8 (hc0) (hgb2)) ?_
          refine oc (g_op (fun ev uZ he => cv8i uZ y0 rfl (he _ _ rfl))) ?_
          refine oc g_mv ?_
          refine oc g_mv ?_
          refine oc (g_bn (fun uZ => add_i _ _ (i : Int) 1 ((i + 1 : Nat) : Int) uZ (by omega) (by omega) (by omega))) ?_
          refine oc (g_ix (fun uZ => ixB gb go len gcap (i + 1) (by omega) uZ)) ?_
          refine oc (g_lg gb (go + (i + 1)) l8 (hc1) (hgb2)) ?_
          refine oc (g_op (fun ev uZ he => cv8i uZ y1 rfl (he _ _ rfl))) ?_
          refine oc (g_bn (fun uZ => mul_i _ _ (x1 : Int) 256 ((256 * x1 : Nat) : Int) uZ (by omega) (by omega) (by omega))) ?_
          refine oc g_mv ?_
          refine oc g_mv ?_
          refine oc (g_bn (fun uZ => add_i _ _ (i : Int) 2 ((i + 2 : Nat) : Int) uZ (by omega) (by omega) (by omega))) ?_
          refine oc (g_ix (fun uZ => ixB gb go len gcap (i + 2) (by omega) uZ)) ?_
          refine oc (g_lg gb (go + (i + 2)) l8 (hc2) (hgb2)) ?_
          refine oc (g_op (fun ev uZ he => cv8i uZ y2 rfl (he _ _ rfl))) ?_
          refine oc (g_bn (fun uZ => add_i _ _ ((256 * x1 : Nat) : Int) (x2 : Int) ((nn : Nat) : Int) uZ (by omega) (by omega) (by omega))) ?_
          refine oc g_as ?_
          exact oc g_as on
        intro u3 HB3 sz3 K3
        simp only [fX, nK, nP, Wr.f, aK, pM] at K3
        simp only [setG, setN, List.set_cons_zero, List.set_cons_succ]
        clear K2 HB2
        have HBq : Below wr.heap.size wr u3 := HB3
        have hB2 : Below w.heap.size w u3 := bstep HBr HBq
        clear hc0 hc1 hc2
        have Kq : Hid (CV u3 bo (vs ++ zs)) := Kv.out.below HBq hlt
        have hrq : Hid (FW u3 bo vs (upF ms)) := hrw.out.below HBq
        have hltq : bo < u3.heap.size := Nat.lt_of_lt_of_le hlt HBq.size
        have hsq : Hid (SB w gb go bs) := hsb
        generalize u3 = uq at *
        clear Kv hrw HBq HBz hsb
        have e2 : IntKind.i64.wrap ((len : Int) - (i : Int) - 3) = (len : Int) - (i : Int) - 3 := by rw [IntKind.wrap_i64]; omega
        obtain ⟨f', rfl⟩ : ∃ f', f = f' + 1 := ⟨f - 1, by omega⟩
        have e3 : IntKind.i64.wrap ((i : Int) + 3) = (i : Int) + 3 := by rw [IntKind.wrap_i64]; omega
        have e4 : IntKind.i64.wrap ((i : Int) + 3 + (nn : Int)) = (i : Int) + 3 + (nn : Int) := by rw [IntKind.wrap_i64]; omega
        have e5 : IntKind.i64.wrap (3 + (nn : Int)) = 3 + (nn : Int) := by rw [IntKind.wrap_i64]; omega
        have e6 : IntKind.i64.wrap ((i : Int) + (3 + (nn : Int))) = (i : Int) + (3 + (nn : Int)) := by rw [IntKind.wrap_i64]; omega
        have hcast : ((len - i : Nat) : Int) = (len : Int) - (i : Int) := by omega
        by_cases ht : x0 ≤ la
        · have ht2 : (x0 : Int) ≤ (la : Int) := by omega
          obtain ⟨rfl, rfl⟩ := hE2.out (by omega) (by rw [hRi.out, hcut.out f' (.inl ht)]; rfl)
          go_wp2
          exact bodyPost_ret (v := .tuple #[.slice none 0 0, .int .i64 80]) (by simp [results, Tryd.results19, go_sem]) rfl ⟨_, rfl, ⟨_, rfl, VF_nil _ (by have := hB2.size; omega)⟩, hB2⟩
        have ht2 : ¬ (x0 : Int) ≤ (la : Int) := by omega
        by_cases hcc : len - i - 3 < nn
        · have hl4 : (len : Int) - (i : Int) - 3 < (nn : Int) := by omega
          obtain ⟨rfl, rfl⟩ := hE2.out (by omega) (by rw [hRi.out, hcut.out f' (.inr (by omega))]; rfl)
          go_wp2
          exact bodyPost_ret (v := .tuple #[.slice none 0 0, .int .i64 80]) (by simp [results, Tryd.results19, go_sem]) rfl ⟨_, rfl, ⟨_, rfl, VF_nil _ (by have := hB2.size; omega)⟩, hB2⟩
        have hl4 : ¬ (len : Int) - (i : Int) - 3 < (nn : Int) := by omega
        have hm := hmore.out f' nn rfl ht (by omega)
        rw [hm] at hRi
        obtain ⟨sl2, hs2, hsl⟩ := slDK gb go len gcap (i + 3) (i + 3 + nn) (by omega) (by omega) hlc
        have hin2 := IN_cut (sl := sl2) (cap := gcap) (fun j hj => (hB2.cell (p := ⟨gb, go + j, none⟩) hgb).trans (hsq.out j hj) : SB uq gb go bs) hbl (show i + 3 ≤ i + 3 + nn by omega) (by omega) hlc hs2 (Nat.lt_of_lt_of_le hgb hB2.size)
        have enn2 : i + 3 + nn - (i + 3) = nn := by omega
        rw [enn2] at hin2 hsl
        obtain ⟨tk, etk⟩ : ∃ x, (bs.drop (i + 3)).take nn = x := ⟨_, rfl⟩
        have htl : tk.length = nn := by rw [← etk, List.length_take, List.length_drop]; omega
        rw [etk] at hin2 hRi
        have hsl2 : ∀ w, (Instr.sliceAt 24 (.slice (some ⟨gb, go, none⟩) len gcap) (some (.int .i64 ((i : Int) + 3))) (some (.int .i64 ((i : Int) + 3 + (nn : Int)))) none).run Tryd.prog w = .ok (.slice sl2 nn (gcap - (i + 3))) w := fun w => by
          have := hsl w
          push_cast at this
          exact this
        obtain ⟨v1, ua, r1, hBa, hpg⟩ := round_aw hin2 (by omega)
        have hnb := PG_inb (b := bo) hpg rfl hltq
        obtain ⟨b4, c4, z4, rfl, g1, g2, g3, g4, g5⟩ := hpg
        rw [htl] at r1 hnb g3 g4
        obtain ⟨v2, ub, r2, rg2, b5, c5, z5, rfl, f1, f2, f3, f4, f5⟩ := app_fl (ty := 22) (t := (x0 : Int)) (sl := some ⟨b4, 0, none⟩) (n := nn) (c := c4) (Kq.out.below hBa hltq) (Nat.lt_of_lt_of_le hltq hBa.size) hvl hmc hzl (by omega)
        have hBc : Below w.heap.size w (ua.alloc (.cells #[.int .i64 (x0 : Int), .slice (some ⟨b4, 0, none⟩) nn c4] 54)) := balloc (bstep hB2 hBa) _
        have hBe : Below w.heap.size w ub := hBc.grown rg2 hBc.size (fun j e => by cases e; exact hlo)
        have hrn : Hid (FW ub b5 (vs ++ [.int .i64 (x0 : Int), .slice (some ⟨b4, 0, none⟩) nn c4]) (upF (ms ++ [(x0, tk)]))) := by
          have := (((hrq.out.below hBa).more (t := (x0 : Int)) hnb).below (balloc (bself ua) (.cells #[.int .i64 (x0 : Int), .slice (some ⟨b4, 0, none⟩) nn c4] 54))).grown rg2 f1
          unfold upF at this ⊢
          rw [List.map_append]; exact this
        have hb5 : w.heap.size ≤ b5 := by
          have := hBc.size
          rcases f1 with h | h
          · omega
          · omega
        have hRn : Hid (R = (rdF f' x0 (bs.drop (i + 3 + nn))).map fun q => (ms ++ [(x0, tk)]) ++ q) := (hRi.out).trans (by cases rdF f' x0 (bs.drop (i + 3 + nn)) <;> simp)
        have f5 : Hid (CV ub b5 ((vs ++ [.int .i64 (x0 : Int), .slice (some ⟨b4, 0, none⟩) nn c4]) ++ z5)) := f5
        clear hin2 hnb g5 hrq Kq rg2 hBc hsl hm hRi
        go_wp2_with (first | (at_builtin; refine wpList_app2 rfl _ _ 24 rfl _ _ _ rfl rfl r1 ?_; clear r1) | (at_builtin; refine wpList_app2 rfl _ _ 22 rfl _ _ _ rfl rfl r2 ?_; clear r2))
        refine ⟨⟨i + 3 + nn, x0, b5, m + 1, c5, vs ++ [.int .i64 (x0 : Int), .slice (some ⟨b4, 0, none⟩) nn c4], z5, ms ++ [(x0, tk)], f', by omega, by push_cast; congr 1; omega, by simp, by simp, by rw [List.length_append, hvl]; simp; omega, by omega, f3, by omega, hb5, f2, f5, hrn, hRn, by omega, y0, hBe⟩, ?_⟩
        simp [intOf]; omega
      · have hl3 : ¬ (i : Int) < (len : Int) := by omega
        have hin : i = len := by omega
        subst hin
        have hfin : R = some ms := by rw [hRi.out, ← hbl, List.drop_length, rdF_end]; simp
        obtain ⟨rfl, rfl⟩ := hE4.out ms (by omega) hfin
        go_wp2
        exact bodyPost_ret (v := .tuple #[.slice (some ⟨bo, 0, none⟩) m co, .int .i64 0]) (by simp [results, Tryd.results19, go_sem]) rfl ⟨_, rfl, ⟨_, rfl, hrw.out.vf Kv.out hvl hmc hlt⟩, HBr⟩
def readE (bs : List Nat) : Int := if 4096 < bs.length then 3 else match rdF bs.length 0 bs with
  | none => 80
  | some ms => 0
def readX (bs : List Nat) : List FldI := if 4096 < bs.length then [] else match rdF bs.length 0 bs with
  | none => []
  | some ms => upF ms
/-- The reference's Read. -/
theorem cReadR (bs : List Nat) (v : Value) (w : World) (h : IN w w.heap.size v bs) (hx : ∀ x ∈ bs, x < 256) :
    Calls Tryd.prog 19 #[v] w fun e w' => ∃ v, e = .returned v ∧ PTF (readE bs) (readX bs) w' v ∧ Below w.heap.size w w' := by
  obtain ⟨sl, cap, gb, go, rfl, h2, h3, h4, h5⟩ := h
  refine cReadR_core bs.length cap sl bs (rdF bs.length 0 bs) (readE bs) (readX bs) w (Nat.lt_of_le_of_lt (Nat.zero_le _) h4) rfl h2 (fun h0 => ⟨gb, go, h3.resolve_left (by omega), h4, h5⟩) (getD_lt256 hx) rfl (fun h => ?_) (fun h e => ?_) (fun ms h e => ?_)
  · simp [readE, readX, h]
  · have h1 : ¬ 4096 < bs.length := by omega
    simp [readE, readX, h1, e]
  · have h1 : ¬ 4096 < bs.length := by omega
    simp [readE, readX, h1, e]
end Go.Proofs.YtjekkdckjnlkcaaDoor
