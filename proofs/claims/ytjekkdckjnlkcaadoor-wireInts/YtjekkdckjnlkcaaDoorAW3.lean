/- Rows of slices and of fields that are made in a loop; the reference's ReadList. -/
import Derived.Test.YtjekkdckjnlkcaaDoorAW2
namespace Go.Proofs.YtjekkdckjnlkcaaDoor
open Go.RowKit
set_option linter.unusedVariables false
set_option linter.unusedSimpArgs false
theorem INb.grown {u u2 : World} {b b2 : Nat} {v : Value} {p : List Nat} (h : INb u b v p) (hg : u.grownBy u2 (some b)) (hb : b2 = b ∨ u.heap.size ≤ b2) : INb u2 b2 v p := by
  obtain ⟨sl, cap, gb, go, h1, h2, h3, h4, h5, h6⟩ := h
  refine ⟨sl, cap, gb, go, h1, h2, h3, Nat.lt_of_lt_of_le h4 hg.size, by omega, fun j hj => ?_⟩
  have hk : u2.heap[gb]? = u.heap[gb]? := hg.block _ h4 (fun e => h5 (by cases e; rfl))
  rw [World.cell?_of_block (a := ⟨gb, go + j, none⟩) hk]
  exact h6 j hj
/-- A row of slices of one's own: the values vs, the bytes ms. -/
structure RW (u : World) (b : Nat) (vs : List Value) (ms : List (List Nat)) : Prop where
  len : ms.length = vs.length
  inn : ∀ (k : Nat) (v : Value) (p : List Nat), vs[k]? = some v → ms[k]? = some p → INb u b v p
  som : ∀ v ∈ vs, ∃ ad n c, v = .slice (some ad) n c
theorem RW.nil (u : World) (b : Nat) : RW u b [] [] := ⟨rfl, fun k v p h => by simp at h, fun v h => by simp at h⟩
theorem RW.below {u u2 : World} {b : Nat} {vs : List Value} {ms : List (List Nat)} (h : RW u b vs ms) (hB : Below u.heap.size u u2) : RW u2 b vs ms := ⟨h.len, fun k v p hv hp => (h.inn k v p hv hp).below hB, h.som⟩
theorem RW.grown {u u2 : World} {b b2 : Nat} {vs : List Value} {ms : List (List Nat)} (h : RW u b vs ms) (hg : u.grownBy u2 (some b)) (hb : b2 = b ∨ u.heap.size ≤ b2) : RW u2 b2 vs ms := ⟨h.len, fun k v p hv hp => (h.inn k v p hv hp).grown hg hb, h.som⟩
theorem RW.more {u : World} {b : Nat} {vs : List Value} {ms : List (List Nat)} {x : Value} {q : List Nat} (h : RW u b vs ms) (hx : INb u b x q) (hs : ∃ ad n c, x = .slice (some ad) n c := by exact ⟨_, _, _, rfl⟩) : RW u b (vs ++ [x]) (ms ++ [q]) := by
  refine ⟨by rw [List.length_append, List.length_append, h.len]; rfl, fun k v p hv hp => ?_, fun v hv => (List.mem_append.1 hv).elim (h.som v) fun hv => by simp at hv; subst hv; exact hs⟩
  have hl := h.len
  by_cases hi : k < vs.length
  · rw [List.getElem?_append_left hi] at hv
    rw [List.getElem?_append_left (by omega)] at hp
    exact h.inn k v p hv hp
  · have hk : k = vs.length := by
      have := (List.getElem?_eq_some_iff.1 hv).1
      simp at this; omega
    subst hk
    simp at hv
    rw [List.getElem?_append_right (by omega), hl] at hp
    simp at hp
    subst hv hp
    exact hx
theorem infoW : (Tryd.prog.info? 24).map (fun i => (i.zero, i.size, i.bytes)) = some (some (.slice none 0 0), 1, 24) := by kernel_rfl
theorem app_sl {u : World} {bo m co : Nat} {vs zs : List Value} {sl : Option Addr} {n c : Nat} {ty : TypeId} (hc : CV u bo (vs ++ zs)) (hb : bo < u.heap.size) (hvl : vs.length = m) (hmc : m ≤ co) (hz : zs.length = co - m) (hl : m ≤ 1000000) :
    ∃ v u', (Builtin.append_ #[38, 38] ty #[.slice (some ⟨bo, 0, none⟩) m co, .slice (some ⟨u.heap.size, 0, none⟩) 1 1]).run Tryd.prog (u.alloc (.cells #[.slice sl n c] 24)) = .ok v u' ∧ (u.alloc (.cells #[.slice sl n c] 24)).grownBy u' (some bo) ∧ PH (u.alloc (.cells #[.slice sl n c] 24)).heap.size bo 1 (m + 1) (vs ++ [.slice sl n c]) u' v := by
  obtain ⟨ti, hti, htm⟩ := Option.map_eq_some_iff.1 infoW
  simp only [Prod.mk.injEq] at htm
  obtain ⟨hzv, hsz, hby⟩ := htm
  have hss : u.heap.size ≤ (u.alloc (.cells #[.slice sl n c] 24)).heap.size := by simp
  obtain ⟨v', u', hr, hg, hp⟩ := run_app (P := Tryd.prog) (u.alloc (.cells #[.slice sl n c] 24)) (ty := ty) Tryd.underlying38 hti hzv (by rw [hsz]; rfl) (base := (u.alloc (.cells #[.slice sl n c] 24)).heap.size) (n := m) (cap := co) (m := 1) (news := [.slice sl n c]) (y := .slice (some ⟨u.heap.size, 0, none⟩) 1 1) (hc.below (balloc (bself u) _) hb) (Nat.lt_of_lt_of_le hb hss) (by rw [hsz]; omega) (by rw [hsz]; omega) hmc (Nat.le_refl _) ⟨_, 1, rfl, .inr ⟨_, rfl, fun j v hj => by rw [Addr.add0]; exact (CV.new u [.slice sl n c] 24 j v hj).1⟩⟩ (by rw [hsz]; rfl) (fun v hv => by simp at hv; subst hv; rfl) (by rw [hby]; omega) (by omega)
  rw [hsz] at hp
  exact ⟨v', u', hr, hg, hp⟩
/-- A slice of rows and a number, as a tuple. -/
def PTL (e : Int) (ps : List (List Nat)) (u : World) (v : Value) : Prop := ∃ y, v = .tuple #[y, .int .i64 e] ∧ LV u y ps
theorem RW.lv {u : World} {bo m co : Nat} {vs zs : List Value} {ms : List (List Nat)} (h : RW u bo vs ms) (hc : CV u bo (vs ++ zs)) (hvl : vs.length = m) (hb : bo < u.heap.size) : LV u (.slice (some ⟨bo, 0, none⟩) m co) ms := by
  have hl := h.len
  refine ⟨some ⟨bo, 0, none⟩, co, bo, 0, by rw [hl, hvl], .inr rfl, hb, fun k p hp => ?_⟩
  have hk := (List.getElem?_eq_some_iff.1 hp).1
  have hv : vs[k]? = some vs[k] := List.getElem?_eq_getElem (by omega)
  refine ⟨vs[k], ?_, (h.inn k _ p hv hp).inn⟩
  rw [Nat.zero_add]; exact ((CV.pre2 hc) k _ hv).1
/-- The same, and none is nil with room. -/
def LVn (w : World) (y : Value) (ps : List (List Nat)) : Prop := ∃ (sl : Option Addr) (cap gl go : Nat), y = .slice sl ps.length cap ∧ (ps.length = 0 ∨ sl = some ⟨gl, go, none⟩) ∧ gl < w.heap.size ∧ ∀ i p, ps[i]? = some p → ∃ s c, w.cell? ⟨gl, go + i, none⟩ = some (.slice s p.length c) ∧ IN w w.heap.size (.slice s p.length c) p ∧ (s = none → c = 0)
theorem LVn.lv {w : World} {y : Value} {ps : List (List Nat)} (h : LVn w y ps) : LV w y ps := by
  obtain ⟨sl, cap, gl, go, h1, h2, h3, h4⟩ := h
  refine ⟨sl, cap, gl, go, h1, h2, h3, fun i p hp => ?_⟩
  obtain ⟨s, c, q1, q2, _⟩ := h4 i p hp
  exact ⟨_, q1, q2⟩
theorem LVn.below {w u : World} {v : Value} {ps : List (List Nat)} (h : LVn w v ps) (hB : Below w.heap.size w u) : LVn u v ps := by
  obtain ⟨sl, cap, gl, go, h1, h2, h4, h5⟩ := h
  refine ⟨sl, cap, gl, go, h1, h2, Nat.lt_of_lt_of_le h4 hB.size, fun i f hf => ?_⟩
  obtain ⟨s, c, a, b, d⟩ := h5 i f hf
  exact ⟨s, c, (hB.cell (p := ⟨gl, go + i, none⟩) h4).trans a, (b.below hB).mono hB.size, d⟩
theorem RW.lvn {u : World} {bo m co : Nat} {vs zs : List Value} {ms : List (List Nat)} (h : RW u bo vs ms) (hc : CV u bo (vs ++ zs)) (hvl : vs.length = m) (hb : bo < u.heap.size) : LVn u (.slice (some ⟨bo, 0, none⟩) m co) ms := by
  have hl := h.len
  refine ⟨some ⟨bo, 0, none⟩, co, bo, 0, by rw [hl, hvl], .inr rfl, hb, fun k p hp => ?_⟩
  have hk := (List.getElem?_eq_some_iff.1 hp).1
  have hv : vs[k]? = some vs[k] := List.getElem?_eq_getElem (by omega)
  obtain ⟨ad, n, c, e⟩ := h.som vs[k] (List.getElem_mem _)
  have hi := (h.inn k _ p hv hp).inn
  have hcell := ((CV.pre2 hc) k _ hv).1
  rw [e] at hi hcell
  have hn : n = p.length := by
    obtain ⟨s2, c2, g2, o2, q1, _⟩ := hi
    simp at q1; exact q1.2.1
  subst hn
  exact ⟨some ad, c, by rw [Nat.zero_add]; exact hcell, hi, fun h => by cases h⟩
theorem rdL_end (f : Nat) : rdL f [] = some [] := by cases f <;> rfl
theorem rdL_short (f x : Nat) : rdL f [x] = none := by cases f <;> rfl
theorem dropc (b : List Nat) {i : Nat} (h : i < b.length) : b.drop i = b.getD i 0 :: b.drop (i + 1) := by
  rw [List.drop_eq_getElem_cons h, List.getD_eq_getElem?_getD, List.getElem?_eq_getElem h]; rfl
theorem rdL_one {b : List Nat} {i f : Nat} (h : i + 1 = b.length) : rdL f (b.drop i) = none := by
  rw [dropc b (by omega), h, List.drop_length]; exact rdL_short _ _
theorem rdL_cut {b : List Nat} {i f : Nat} (h : i + 2 ≤ b.length) (hn : b.length - i - 2 < 256 * b.getD i 0 + b.getD (i + 1) 0) : rdL (f + 1) (b.drop i) = none := by
  rw [dropc b (by omega), dropc b (i := i + 1) (by omega), rdL, if_pos (by rw [List.length_drop]; omega)]
theorem rdL_more {b : List Nat} {i f n : Nat} (h : i + 2 ≤ b.length) (e : 256 * b.getD i 0 + b.getD (i + 1) 0 = n) (hn : n ≤ b.length - i - 2) : rdL (f + 1) (b.drop i) = (rdL f (b.drop (i + 2 + n))).map fun m => (b.drop (i + 2)).take n :: m := by
  rw [dropc b (by omega), dropc b (i := i + 1) (by omega), rdL, if_neg (by rw [List.length_drop]; omega), e, List.drop_drop]
theorem getD_lt256 {bs : List Nat} (hx : ∀ x ∈ bs, x < 256) (i : Nat) : bs.getD i 0 < 256 := by
  by_cases h : i < bs.length
  · have e : bs.getD i 0 = bs[i] := by rw [List.getD_eq_getElem?_getD, List.getElem?_eq_getElem h]; rfl
    rw [e]; exact hx _ (List.getElem_mem h)
  · rw [gout (by omega)]; decide
theorem bs0w (w : World) : (Instr.buildSlice 38 0 #[]).run Tryd.prog w = .ok (.slice (some ⟨w.heap.size, 0, none⟩) 0 0) (w.alloc (.cells #[] 24)) := by kernel_rfl
theorem LV_nil (u : World) (h : 0 < u.heap.size) : LV u (.slice none 0 0) [] := ⟨none, 0, 0, 0, rfl, .inl rfl, h, fun i p hp => by simp at hp⟩
theorem slDK (gb go len cap d k : Nat) (h1 : d ≤ k) (h2 : k ≤ len) (hc : len ≤ cap) : ∃ sl, (k - d = 0 ∨ sl = some ⟨gb, go + d, none⟩) ∧ ∀ w, (Instr.sliceAt 24 (.slice (some ⟨gb, go, none⟩) len cap) (some (.int .i64 (d : Int))) (some (.int .i64 (k : Int))) none).run Tryd.prog w = .ok (.slice sl (k - d) (cap - d)) w := by
  have h3 : (d : Int) ≤ k := by omega
  have h4 : (k : Int) ≤ cap := by omega
  have h5 : d ≤ cap := by omega
  have h6 : k ≤ cap := by omega
  by_cases e : cap = d
  · obtain rfl : k = d := by omega
    refine ⟨some ⟨gb, go, none⟩, .inl (by omega), fun w => ?_⟩
    simp [Instr.sliceAt, Instr.slice, go_sem, Tryd.underlying24, h1, h3, h4, h5, h6, e]
  · refine ⟨some ⟨gb, go + d, none⟩, .inr rfl, fun w => ?_⟩
    simp [Instr.sliceAt, Instr.slice, go_sem, Tryd.underlying24, h1, h3, h4, h5, h6, e]
theorem IN_cut {u : World} {gb go len cap d k : Nat} {bs : List Nat} {sl : Option Addr} (hs : SB u gb go bs) (hb : bs.length = len) (h1 : d ≤ k) (h2 : k ≤ len) (hc : len ≤ cap) (hsl : k - d = 0 ∨ sl = some ⟨gb, go + d, none⟩) (hg : gb < u.heap.size) : IN u u.heap.size (.slice sl (k - d) (cap - d)) ((bs.drop d).take (k - d)) := by
  have hl : ((bs.drop d).take (k - d)).length = k - d := by rw [List.length_take, List.length_drop]; omega
  refine ⟨sl, cap - d, gb, go + d, by rw [hl], by rw [hl]; omega, by rw [hl]; exact hsl, hg, fun j hj => ?_⟩
  rw [hl] at hj
  rw [gtake _ _ hj, gdrop, Nat.add_assoc]
  exact hs (d + j) (by omega)
theorem round_aw {wr : World} {lv : Value} {tk : List Nat} (hlv : IN wr wr.heap.size lv tk) (hl : tk.length ≤ 100000) : ∃ v u, (Builtin.append_ #[24, 24] 24 #[.slice (some ⟨wr.heap.size, 0, none⟩) 0 0, lv]).run Tryd.prog (wr.alloc (.cells #[] 5)) = .ok v u ∧ Below wr.heap.size wr u ∧ PG wr.heap.size 1 tk.length (U8 tk) u v := by
  have hB : Below wr.heap.size wr (wr.alloc (.cells #[] 5)) := balloc (bself wr) _
  obtain ⟨v, u, h1, h2, h3⟩ := app_PZ (ty := 24) (lo := wr.heap.size) hB.size (by omega) ((hlv.below hB).mono hB.size) (PZ_new wr)
  exact ⟨v, u, h1, bstep hB h2, h3⟩
theorem PG_inb {lo n b : Nat} {xs : List Nat} {u : World} {y : Value} (h : PG lo 1 n (U8 xs) u y) (hn : xs.length = n) (hb : b < lo) : INb u b y xs := by
  obtain ⟨g, cap, zs, rfl, h1, h2, h3, h4, h5⟩ := h
  refine ⟨_, cap, g, 0, by rw [hn], by omega, .inr rfl, h2, by omega, fun j hj => ?_⟩
  rw [Nat.zero_add]; exact (h5.pre2 j _ (U8_get xs j hj)).1
set_option maxRecDepth 100000 in
set_option maxHeartbeats 8000000 in
theorem cReadListR_core (len gcap : Nat) (gsl : Option Addr) (bs : List Nat) (R : Option (List (List Nat))) (ev : Int) (xs : List (List Nat)) (w : World) (hz : 0 < w.heap.size) (hbl : bs.length = len) (hlc : len ≤ gcap)
    (hrow : Hid (0 < len → ∃ gb go, gsl = some ⟨gb, go, none⟩ ∧ gb < w.heap.size ∧ SB w gb go bs)) (hx : Hid (∀ i, bs.getD i 0 < 256)) (hR : Hid (R = rdL len bs))
    (hE1 : 4096 < len → ev = 3 ∧ xs = []) (hE2 : Hid (len ≤ 4096 → R = none → ev = 80 ∧ xs = []))
    (hE3 : Hid (∀ ms, len ≤ 4096 → R = some ms → 256 < ms.length → ev = 3 ∧ xs = [])) (hE4 : Hid (∀ ms, len ≤ 4096 → R = some ms → ms.length ≤ 256 → ev = 0 ∧ xs = ms)) :
    Calls Tryd.prog 23 #[.slice gsl len gcap] w fun e w' => ∃ v, e = .returned v ∧ PTL ev xs w' v ∧ Below w.heap.size w w' := by
  have hbs := bs0w
  have hbb := bs0b
  by_cases hn : 4096 < len
  · have hn1 : (4096 : Int) < (len : Int) := by omega
    obtain ⟨rfl, rfl⟩ := hE1 hn
    go_enter Tryd.func23, Tryd.ntmps23
    go_wp2
    exact bodyPost_ret (v := .tuple #[.slice none 0 0, .int .i64 3]) (by simp [results, Tryd.results23, go_sem]) rfl ⟨_, rfl, ⟨_, rfl, LV_nil w hz⟩, Below.refl _ _⟩
  · have hn1 : ¬ (4096 : Int) < (len : Int) := by omega
    go_enter Tryd.func23, Tryd.ntmps23
    go_wp2_with fail
    go_loopw [5, 4] (fun s5 s4 wr => ∃ (i bo m co : Nat) (vs zs : List Value) (ms : List (List Nat)) (f : Nat), i ≤ len ∧ s5 = .int .i64 (i : Int) ∧ s4 = .slice (some ⟨bo, 0, none⟩) m co ∧ vs.length = m ∧ m ≤ i ∧ m ≤ co ∧ zs.length = co - m ∧ w.heap.size ≤ bo ∧ bo < wr.heap.size ∧ Hid (CV wr bo (vs ++ zs)) ∧ Hid (RW wr bo vs ms) ∧ Hid (R = (rdL f (bs.drop i)).map fun q => ms ++ q) ∧ len - i ≤ f ∧ Below w.heap.size w wr) (fun s5 _ _ => len - (intOf s5).toNat)
    case atStart => exact ⟨0, w.heap.size, 0, 0, [], [], [], len, by omega, rfl, rfl, rfl, by omega, by omega, rfl, Nat.le_refl _, by simp, (fun j v h => by simp at h), RW.nil _ _, (by rw [hR.out, List.drop_zero]; cases rdL len bs <;> rfl), by omega, balloc (bself w) _⟩
    case round =>
      obtain ⟨i, bo, m, co, vs, zs, ms, f, hi, rfl, rfl, hvl, hmi, hmc, hzl, hlo, hlt, Kv, hrw, hRi, hf, HBr⟩ := hrel
      have hsw := HBr.size
      by_cases hj2 : i < len
      · have hl1 : decide ((i : Int) < (len : Int)) = true := by simp; omega
        have hl3 : (i : Int) < (len : Int) := by omega
        obtain ⟨gb, go, rfl, hgb, hsb⟩ := hrow.out (by omega)
        have hgb2 : gb < wr.heap.size := Nat.lt_of_lt_of_le hgb hsw
        have e1 : IntKind.i64.wrap ((len : Int) - (i : Int)) = (len : Int) - (i : Int) := by rw [IntKind.wrap_i64]; omega
        by_cases h2 : len - i < 2
        · have hl4 : (len : Int) - (i : Int) < 2 := by omega
          obtain ⟨rfl, rfl⟩ := hE2.out (by omega) (by rw [hRi.out, rdL_one (by omega)]; rfl)
          go_wp2
          exact bodyPost_ret (v := .tuple #[.slice none 0 0, .int .i64 80]) (by simp [results, Tryd.results23, go_sem]) rfl ⟨_, rfl, ⟨_, rfl, LV_nil _ (by omega)⟩, HBr⟩
        have hl2 : decide (((len - i : Nat) : Int) < 2) = false := by simp; omega
        have hc0 : wr.cell? ⟨gb, go + i, none⟩ = some (.int .u8 ((bs.getD i 0 : Nat) : Int)) := (HBr.cell (p := ⟨gb, go + i, none⟩) hgb).trans (hsb i (by omega))
        have hc1 : wr.cell? ⟨gb, go + (i + 1), none⟩ = some (.int .u8 ((bs.getD (i + 1) 0 : Nat) : Int)) := (HBr.cell (p := ⟨gb, go + (i + 1), none⟩) hgb).trans (hsb (i + 1) (by omega))
        have y0 := hx.out i
        have y1 := hx.out (i + 1)
        have hcut := fun f => rdL_cut (b := bs) (i := i) (f := f) (by omega)
        have hmore := fun f n => rdL_more (b := bs) (i := i) (f := f) (n := n) (by omega)
        obtain ⟨x0, ex0⟩ : ∃ x, bs.getD i 0 = x := ⟨_, rfl⟩
        obtain ⟨x1, ex1⟩ : ∃ x, bs.getD (i + 1) 0 = x := ⟨_, rfl⟩
        rw [ex0] at hc0 y0
        rw [ex1] at hc1 y1
        rw [ex0, ex1] at hcut hmore
        obtain ⟨nn, enn⟩ : ∃ x, 256 * x0 + x1 = x := ⟨_, rfl⟩
        rw [enn] at hcut hmore
        have HBz : Below wr.heap.size wr wr := Below.refl _ _
        have hcut : Hid _ := hcut
        have hmore : Hid _ := hmore
        clear ex0 ex1
        have K0_1 := Bk.nil (wr.heap.size) wr
        go_upto_region 5 with fail
        refine rgP K0_1 HBz HBz.size [] [] [(0, 11, .int .i64 ((i : Nat) : Int)), (1, 12, .slice (some ⟨gb, go, none⟩) len gcap), (2, 13, .int .i64 ((len : Nat) : Int)), (3, 14, .bool true)] [] [] [] ?_ ?_
        · refine oc g_mv ?_
          refine oc g_mv ?_
          refine oc (g_ln Tryd.underlying24) ?_
          exact oc (g_bn (fun uZ => lss_i _ _ (i : Int) (len : Int) _ uZ hl1)) on
        intro u1 HB1 sz1 K1
        simp only [fX, nK, nP, Wr.f, aK, pM] at K1
        simp only [setG, setN, List.set_cons_zero, List.set_cons_succ]
        go_upto_region 6 with fail
        refine rgP K1 HB1 HB1.size [] [] [(0, 15, .slice (some ⟨gb, go, none⟩) len gcap), (1, 16, .int .i64 ((len : Nat) : Int)), (2, 17, .int .i64 ((i : Nat) : Int)), (3, 18, .int .i64 ((len - i : Nat) : Int)), (4, 19, .bool false)] [] [] [] ?_ ?_
        · refine oc g_mv ?_
          refine oc (g_ln Tryd.underlying24) ?_
          refine oc g_mv ?_
          refine oc (g_bn (fun uZ => sub_i _ _ (len : Int) (i : Int) ((len - i : Nat) : Int) uZ (by omega) (by omega) (by omega))) ?_
          exact oc (g_bn (fun uZ => lss_i _ _ ((len - i : Nat) : Int) 2 _ uZ hl2)) on
        intro u2 HB2 sz2 K2
        simp only [fX, nK, nP, Wr.f, aK, pM] at K2
        simp only [setG, setN, List.set_cons_zero, List.set_cons_succ]
        clear K1 HB1
        go_upto_region 8 with fail
        refine rgD K2 HB2 HB2.size [] [] [(0, 20, .slice (some ⟨gb, go, none⟩) len gcap), (1, 21, .int .i64 ((i : Nat) : Int)), (2, 22, .pointer (some ⟨gb, go + i, none⟩)), (3, 23, .int .u8 ((x0 : Nat) : Int)), (4, 24, .int .i64 ((x0 : Nat) : Int)), (5, 25, .int .i64 ((256 * x0 : Nat) : Int)), (6, 26, .slice (some ⟨gb, go, none⟩) len gcap), (7, 27, .int .i64 ((i : Nat) : Int)), (8, 28, .int .i64 ((i + 1 : Nat) : Int)), (9, 29, .pointer (some ⟨gb, go + (i + 1), none⟩)), (10, 30, .int .u8 ((x1 : Nat) : Int)), (11, 31, .int .i64 ((x1 : Nat) : Int)), (12, 32, .int .i64 ((nn : Nat) : Int)), (13, 6, .int .i64 ((nn : Nat) : Int))] [] [] [] ?_ ?_
        · refine oc g_mv ?_
          refine oc g_mv ?_
          refine oc (g_ix (fun uZ => ixB gb go len gcap i (by omega) uZ)) ?_
          refine oc (g_lg gb (go + i) l8 (hc0) (hgb2)) ?_
          refine oc (g_op (fun ev uZ he => cv8i uZ y0 rfl (he _ _ rfl))) ?_
          refine oc (g_bn (fun uZ => mul_i _ _ (x0 : Int) 256 ((256 * x0 : Nat) : Int) uZ (by omega) (by omega) (by omega))) ?_
          refine oc g_mv ?_
          refine oc g_mv ?_
          refine oc (g_bn (fun uZ => add_i _ _ (i : Int) 1 ((i + 1 : Nat) : Int) uZ (by omega) (by omega) (by omega))) ?_
          refine oc (g_ix (fun uZ => ixB gb go len gcap (i + 1) (by omega) uZ)) ?_
          refine oc (g_lg gb (go + (i + 1)) l8 (hc1) (hgb2)) ?_
          refine oc (g_op (fun ev uZ he => cv8i uZ y1 rfl (he _ _ rfl))) ?_
          refine oc (g_bn (fun uZ => add_i _ _ ((256 * x0 : Nat) : Int) (x1 : Int) ((nn : Nat) : Int) uZ (by omega) (by omega) (by omega))) ?_
          exact oc g_as on
        intro u3 HB3 sz3 K3
        simp only [fX, nK, nP, Wr.f, aK, pM] at K3
        simp only [setG, setN, List.set_cons_zero, List.set_cons_succ]
        clear K2 HB2
        have HBq : Below wr.heap.size wr u3 := HB3
        have hB2 : Below w.heap.size w u3 := bstep HBr HBq
        clear hc0 hc1
        have Kq : Hid (CV u3 bo (vs ++ zs)) := Kv.out.below HBq hlt
        have hrq : Hid (RW u3 bo vs ms) := hrw.out.below HBq
        have hltq : bo < u3.heap.size := Nat.lt_of_lt_of_le hlt HBq.size
        have hsq : Hid (SB w gb go bs) := hsb
        generalize u3 = uq at *
        clear Kv hrw HBq HBz hsb
        have e2 : IntKind.i64.wrap ((len : Int) - (i : Int) - 2) = (len : Int) - (i : Int) - 2 := by rw [IntKind.wrap_i64]; omega
        obtain ⟨f', rfl⟩ : ∃ f', f = f' + 1 := ⟨f - 1, by omega⟩
        have e3 : IntKind.i64.wrap ((i : Int) + 2) = (i : Int) + 2 := by rw [IntKind.wrap_i64]; omega
        have e4 : IntKind.i64.wrap ((i : Int) + 2 + (nn : Int)) = (i : Int) + 2 + (nn : Int) := by rw [IntKind.wrap_i64]; omega
        have e5 : IntKind.i64.wrap (2 + (nn : Int)) = 2 + (nn : Int) := by rw [IntKind.wrap_i64]; omega
        have e6 : IntKind.i64.wrap ((i : Int) + (2 + (nn : Int))) = (i : Int) + (2 + (nn : Int)) := by rw [IntKind.wrap_i64]; omega
        have hcast : ((len - i : Nat) : Int) = (len : Int) - (i : Int) := by omega
        by_cases hcc : len - i - 2 < nn
        · have hl4 : (len : Int) - (i : Int) - 2 < (nn : Int) := by omega
          obtain ⟨rfl, rfl⟩ := hE2.out (by omega) (by rw [hRi.out, hcut.out f' (by omega)]; rfl)
          go_wp2
          exact bodyPost_ret (v := .tuple #[.slice none 0 0, .int .i64 80]) (by simp [results, Tryd.results23, go_sem]) rfl ⟨_, rfl, ⟨_, rfl, LV_nil _ (by have := hB2.size; omega)⟩, hB2⟩
        have hl4 : ¬ (len : Int) - (i : Int) - 2 < (nn : Int) := by omega
        have hm := hmore.out f' nn rfl (by omega)
        rw [hm] at hRi
        obtain ⟨sl2, hs2, hsl⟩ := slDK gb go len gcap (i + 2) (i + 2 + nn) (by omega) (by omega) hlc
        have hin2 := IN_cut (sl := sl2) (cap := gcap) (fun j hj => (hB2.cell (p := ⟨gb, go + j, none⟩) hgb).trans (hsq.out j hj) : SB uq gb go bs) hbl (show i + 2 ≤ i + 2 + nn by omega) (by omega) hlc hs2 (Nat.lt_of_lt_of_le hgb hB2.size)
        have enn2 : i + 2 + nn - (i + 2) = nn := by omega
        rw [enn2] at hin2 hsl
        obtain ⟨tk, etk⟩ : ∃ x, (bs.drop (i + 2)).take nn = x := ⟨_, rfl⟩
        have htl : tk.length = nn := by rw [← etk, List.length_take, List.length_drop]; omega
        rw [etk] at hin2 hRi
        have hsl2 : ∀ w, (Instr.sliceAt 24 (.slice (some ⟨gb, go, none⟩) len gcap) (some (.int .i64 ((i : Int) + 2))) (some (.int .i64 ((i : Int) + 2 + (nn : Int)))) none).run Tryd.prog w = .ok (.slice sl2 nn (gcap - (i + 2))) w := fun w => by
          have := hsl w
          push_cast at this
          exact this
        obtain ⟨v1, ua, r1, hBa, hpg⟩ := round_aw hin2 (by omega)
        have hnb := PG_inb (b := bo) hpg rfl hltq
        obtain ⟨b4, c4, z4, rfl, g1, g2, g3, g4, g5⟩ := hpg
        rw [htl] at r1 hnb g3 g4
        obtain ⟨v2, ub, r2, rg2, b5, c5, z5, rfl, f1, f2, f3, f4, f5⟩ := app_sl (ty := 38) (sl := some ⟨b4, 0, none⟩) (n := nn) (c := c4) (Kq.out.below hBa hltq) (Nat.lt_of_lt_of_le hltq hBa.size) hvl hmc hzl (by omega)
        have hBc : Below w.heap.size w (ua.alloc (.cells #[.slice (some ⟨b4, 0, none⟩) nn c4] 24)) := balloc (bstep hB2 hBa) _
        have hBe : Below w.heap.size w ub := hBc.grown rg2 hBc.size (fun j e => by cases e; exact hlo)
        have hrn : Hid (RW ub b5 (vs ++ [.slice (some ⟨b4, 0, none⟩) nn c4]) (ms ++ [tk])) := (((hrq.out.below hBa).more hnb).below (balloc (bself ua) _)).grown rg2 f1
        rw [Nat.mul_one] at f4
        have hb5 : w.heap.size ≤ b5 := by
          have := hBc.size
          rcases f1 with h | h
          · omega
          · omega
        have hRn : Hid (R = (rdL f' (bs.drop (i + 2 + nn))).map fun q => (ms ++ [tk]) ++ q) := (hRi.out).trans (by cases rdL f' (bs.drop (i + 2 + nn)) <;> simp)
        have f5 : Hid (CV ub b5 ((vs ++ [.slice (some ⟨b4, 0, none⟩) nn c4]) ++ z5)) := f5
        clear hin2 hnb g5 hrq Kq rg2 hBc hsl hm hRi
        go_wp2_with (first | (at_builtin; refine wpList_app2 rfl _ _ 24 rfl _ _ _ rfl rfl r1 ?_; clear r1) | (at_builtin; refine wpList_app2 rfl _ _ 38 rfl _ _ _ rfl rfl r2 ?_; clear r2))
        refine ⟨⟨i + 2 + nn, b5, m + 1, c5, vs ++ [.slice (some ⟨b4, 0, none⟩) nn c4], z5, ms ++ [tk], f', by omega, by push_cast; congr 1; omega, by simp, by rw [List.length_append, hvl]; rfl, by omega, f3, f4, hb5, f2, f5, hrn, hRn, by omega, hBe⟩, ?_⟩
        simp [intOf]; omega
      · have hl3 : ¬ (i : Int) < (len : Int) := by omega
        have hin : i = len := by omega
        subst hin
        have hfin : R = some ms := by rw [hRi.out, ← hbl, List.drop_length, rdL_end]; simp
        have hml : ms.length = m := by rw [hrw.out.len, hvl]
        by_cases hmb : 256 < m
        · have hmb2 : (256 : Int) < (m : Int) := by omega
          obtain ⟨rfl, rfl⟩ := hE3.out ms (by omega) hfin (by omega)
          go_wp2
          exact bodyPost_ret (v := .tuple #[.slice none 0 0, .int .i64 3]) (by simp [results, Tryd.results23, go_sem]) rfl ⟨_, rfl, ⟨_, rfl, LV_nil _ (by omega)⟩, HBr⟩
        · have hmb2 : ¬ (256 : Int) < (m : Int) := by omega
          obtain ⟨rfl, rfl⟩ := hE4.out ms (by omega) hfin (by omega)
          go_wp2
          exact bodyPost_ret (v := .tuple #[.slice (some ⟨bo, 0, none⟩) m co, .int .i64 0]) (by simp [results, Tryd.results23, go_sem]) rfl ⟨_, rfl, ⟨_, rfl, hrw.out.lv Kv.out hvl hlt⟩, HBr⟩
def readLE (bs : List Nat) : Int := if 4096 < bs.length then 3 else match rdL bs.length bs with
  | none => 80
  | some ms => if 256 < ms.length then 3 else 0
def readLX (bs : List Nat) : List (List Nat) := if 4096 < bs.length then [] else match rdL bs.length bs with
  | none => []
  | some ms => if 256 < ms.length then [] else ms
/-- The reference's ReadList. -/
theorem cReadListR (bs : List Nat) (v : Value) (w : World) (h : IN w w.heap.size v bs) (hx : ∀ x ∈ bs, x < 256) :
    Calls Tryd.prog 23 #[v] w fun e w' => ∃ v, e = .returned v ∧ PTL (readLE bs) (readLX bs) w' v ∧ Below w.heap.size w w' := by
  obtain ⟨sl, cap, gb, go, rfl, h2, h3, h4, h5⟩ := h
  refine cReadListR_core bs.length cap sl bs (rdL bs.length bs) (readLE bs) (readLX bs) w (Nat.lt_of_le_of_lt (Nat.zero_le _) h4) rfl h2 (fun h0 => ⟨gb, go, h3.resolve_left (by omega), h4, h5⟩) (getD_lt256 hx) rfl (fun h => ?_) (fun h e => ?_) (fun ms h e hm => ?_) (fun ms h e hm => ?_)
  · simp [readLE, readLX, h]
  · have h1 : ¬ 4096 < bs.length := by omega
    simp [readLE, readLX, h1, e]
  · have h1 : ¬ 4096 < bs.length := by omega
    simp [readLE, readLX, h1, e, hm]
  · have h1 : ¬ 4096 < bs.length := by omega
    have h2 : ¬ 256 < ms.length := by omega
    simp [readLE, readLX, h1, e, h2]
end Go.Proofs.YtjekkdckjnlkcaaDoor
