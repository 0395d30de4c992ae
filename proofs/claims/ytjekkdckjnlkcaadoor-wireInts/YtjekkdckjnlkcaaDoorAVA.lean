/- Wire: reading. -/
import Derived.Test.YtjekkdckjnlkcaaDoorAWY
namespace Go.Proofs.YtjekkdckjnlkcaaDoor
open Go.RowKit
set_option linter.unusedVariables false
set_option linter.unusedSimpArgs false
/-- A row of fields that is under way: none yet, or one of one's own. -/
def OF (lo : Nat) (u : World) (v : Value) (fs : List FldI) : Prop := (v = .slice none 0 0 ∧ fs = []) ∨ ∃ (bo m co : Nat) (vs zs : List Value), v = .slice (some ⟨bo, 0, none⟩) m co ∧ vs.length = 2 * m ∧ m ≤ co ∧ zs.length = 2 * (co - m) ∧ lo ≤ bo ∧ bo < u.heap.size ∧ CV u bo (vs ++ zs) ∧ FW u bo vs fs
theorem OF.below {lo : Nat} {u u2 : World} {v : Value} {fs : List FldI} (h : OF lo u v fs) (hB : Below u.heap.size u u2) : OF lo u2 v fs := by
  rcases h with h | ⟨bo, m, co, vs, zs, h1, h2, h3, h4, h5, h6, h7, h8⟩
  · exact .inl h
  · exact .inr ⟨bo, m, co, vs, zs, h1, h2, h3, h4, h5, Nat.lt_of_lt_of_le h6 hB.size, h7.below hB h6, h8.below hB⟩
theorem OF.shape {lo : Nat} {u : World} {v : Value} {fs : List FldI} (h : OF lo u v fs) : ∃ s c, v = .slice s fs.length c := by
  rcases h with ⟨rfl, rfl⟩ | ⟨bo, m, co, vs, zs, rfl, h2, h3, h4, h5, h6, h7, h8⟩
  · exact ⟨_, _, rfl⟩
  · have := h8.len
    exact ⟨some ⟨bo, 0, none⟩, co, by rw [show fs.length = m by omega]⟩
theorem OF.shape2 {lo : Nat} {u : World} {v : Value} {fs : List FldI} (h : OF lo u v fs) : ∃ s n c, v = .slice s n c := by
  obtain ⟨s, c, e⟩ := h.shape
  exact ⟨_, _, _, e⟩
theorem OF.vf {lo : Nat} {u : World} {v : Value} {fs : List FldI} (h : OF lo u v fs) (hu : 0 < u.heap.size) : VF u v fs := by
  rcases h with ⟨rfl, rfl⟩ | ⟨bo, m, co, vs, zs, rfl, h2, h3, h4, h5, h6, h7, h8⟩
  · exact VF_nil u hu
  · exact h8.vf h7 h2 h3 h6
theorem OF.push {lo : Nat} {u ua : World} {v : Value} {fs : List FldI} {t : Int} {b4 nn c4 : Nat} {tk : List Nat} (h : OF lo u v fs) (hlo : lo ≤ u.heap.size) (hB : Below u.heap.size u ua) (hy : PG u.heap.size 1 nn (U8 tk) ua (.slice (some ⟨b4, 0, none⟩) nn c4)) (htl : tk.length = nn) (hl : fs.length ≤ 100000) :
    ∃ v2 ub, (Builtin.append_ #[22, 22] 22 #[v, .slice (some ⟨ua.heap.size, 0, none⟩) 1 1]).run Tryd.prog (ua.alloc (.cells #[.int .i64 t, .slice (some ⟨b4, 0, none⟩) nn c4] 54)) = .ok v2 ub ∧ OF lo ub v2 (fs ++ [(t, tk)]) ∧ Below lo ua ub := by
  have hBc : Below ua.heap.size ua (ua.alloc (.cells #[.int .i64 t, .slice (some ⟨b4, 0, none⟩) nn c4] 54)) := balloc (bself ua) _
  have hla : lo ≤ ua.heap.size := Nat.le_trans hlo hB.size
  rcases h with ⟨rfl, rfl⟩ | ⟨bo, m, co, vs, zs, rfl, h2, h3, h4, h5, h6, h7, h8⟩
  · obtain ⟨ti, hti, htm⟩ := Option.map_eq_some_iff.1 infoF
    simp only [Prod.mk.injEq] at htm
    obtain ⟨hzv, hsz, hby⟩ := htm
    obtain ⟨v2, ub, hr, hg, hp⟩ := run_append_full (P := Tryd.prog) (ua.alloc (.cells #[.int .i64 t, .slice (some ⟨b4, 0, none⟩) nn c4] 54)) (ty := 22) Tryd.underlying22 hti hzv (by rw [hsz]; rfl) (lo := (ua.alloc (.cells #[.int .i64 t, .slice (some ⟨b4, 0, none⟩) nn c4] 54)).heap.size) (n := 0) (xs := []) (news := [.int .i64 t, .slice (some ⟨b4, 0, none⟩) nn c4]) (ad := ⟨ua.heap.size, 0, none⟩) (c := 1) ⟨by simp, .inl ⟨rfl, rfl⟩⟩ (by rw [hsz]; rfl) (fun j v hj => by rw [Addr.add0]; exact (CV.new ua [.int .i64 t, .slice (some ⟨b4, 0, none⟩) nn c4] 54 j v hj).1) (Nat.le_refl _) (by rw [hby]; omega) (by omega)
    refine ⟨v2, ub, hr, .inr ?_, (hBc.mono hla).trans (hg.mono (by simp; omega))⟩
    obtain ⟨b5, c5, z5, rfl, f1, f2, f3, f4, f5⟩ := hp
    rw [hsz] at f4
    have hBu : Below ua.heap.size ua ub := bstep hBc hg
    have hb4 : b4 < ua.heap.size := by obtain ⟨g', cap, zs, e, h1, h2, _⟩ := hy; simp at e; omega
    simp at f1
    have hnb := PG_inb2 (b := b5) (hy.stab hBu) htl (by omega)
    exact ⟨b5, 1, c5, [.int .i64 t, .slice (some ⟨b4, 0, none⟩) nn c4], z5, rfl, rfl, f3, by omega, by omega, f2, f5, (FW.nil ub b5).more hnb⟩
  · have hnb := PG_inb (b := bo) hy htl h6
    obtain ⟨v2, ub, r2, rg2, b5, c5, z5, rfl, f1, f2, f3, f4, f5⟩ := app_fl (ty := 22) (t := t) (sl := some ⟨b4, 0, none⟩) (n := nn) (c := c4) (h7.below hB h6) (Nat.lt_of_lt_of_le h6 hB.size) h2 h3 h4 (by have := h8.len; omega)
    have hBe : Below lo ua ub := (hBc.mono hla).grown rg2 (by simp; omega) (fun j e => by cases e; exact h5)
    refine ⟨_, ub, r2, .inr ⟨b5, m + 1, c5, vs ++ [.int .i64 t, .slice (some ⟨b4, 0, none⟩) nn c4], z5, rfl, by rw [List.length_append, h2]; simp; omega, f3, by omega, by have := hBc.size; omega, f2, f5, ?_⟩, hBe⟩
    exact (((h8.below hB).more hnb).below hBc).grown rg2 f1
theorem rdF_bad0 {b : List Nat} {f last : Nat} (h0 : 0 < b.length) (h : b.getD 0 0 ≤ last ∨ b.length < 3 ∨ b.length - 3 < 256 * b.getD 1 0 + b.getD 2 0) : rdF (f + 1) last b = none := by
  by_cases h2 : b.length < 3
  · have := rdF_short (b := b) (i := 0) (f := f + 1) (last := last) h0 (by omega)
    simpa using this
  · have := rdF_cut (b := b) (i := 0) (f := f) (last := last) (by omega) (by
      rcases h with h | h | h
      · exact .inl h
      · exact absurd h h2
      · exact .inr (by simpa using h))
    simpa using this
theorem rdF_more0 {b : List Nat} {f n last : Nat} (h : 3 ≤ b.length) (e : 256 * b.getD 1 0 + b.getD 2 0 = n) (ht : ¬ b.getD 0 0 ≤ last) (hn : n ≤ b.length - 3) : rdF (f + 1) last b = (rdF f (b.getD 0 0) (b.drop (3 + n))).map fun m => (b.getD 0 0, (b.drop 3).take n) :: m := by
  have := rdF_more (b := b) (i := 0) (f := f) (n := n) (last := last) (by omega) (by simpa using e) ht (by simpa using hn)
  simpa using this
/-- b[1:] -/
theorem IN_tail {u : World} {m gb go cap o : Nat} {bs : List Nat} (h : SB u gb go bs) (hg : gb < m) (h0 : 0 < bs.length) (hc : bs.length ≤ cap) (ho : bs.length - 1 = 0 ∨ o = go + 1) : IN u m (.slice (some ⟨gb, o, none⟩) (bs.length - 1) (cap - 1)) (bs.drop 1) := by
  have := IN_cutm (m := m) (sl := some ⟨gb, o, none⟩) (cap := cap) (d := 1) (k := bs.length) h rfl (by omega) (by omega) hc (ho.imp id fun e => by rw [e]) hg
  rwa [List.take_of_length_le (by rw [List.length_drop]; omega)] at this
set_option maxRecDepth 100000 in
set_option maxHeartbeats 8000000 in
theorem cReading_core (bs : List Nat) (v : Value) (R : Option (List Fld)) (ev : Int) (xs : List FldI) (w : World) (hG : GW w) (h : IN w w.heap.size v bs) (hx : ∀ x ∈ bs, x < 256) (hl : bs.length ≤ 4097) (hR : Hid (R = rdF bs.length 0 bs))
    (hE1 : 4096 < bs.length → ev = 3 ∧ xs = []) (hE2 : Hid (bs.length ≤ 4096 → R = none → ev = 80 ∧ xs = [])) (hE4 : Hid (∀ ms, bs.length ≤ 4096 → R = some ms → ev = 0 ∧ xs = upF ms)) :
    Calls Tryd.prog 36 #[v] w fun e u => ∃ y er, e = .returned (.tuple #[y, er]) ∧ EO ev er ∧ VF u y xs ∧ Below w.heap.size w u := by
  have hz : 0 < w.heap.size := INpos h
  have hA := cAtMost ⟨#[98, 121, 116, 101, 115, 32, 111, 102, 32, 97, 32, 118, 97, 108, 117, 101]⟩ (bs.length : Int) 4096 w hG (by omega) (by omega) (by decide)
  obtain ⟨sl, cap, gb, go, rfl, k1, k2, k3, k4⟩ := h
  have hin : Hid (IN w w.heap.size (.slice sl bs.length cap) bs) := ⟨sl, cap, gb, go, rfl, k1, k2, k3, k4⟩
  clear k4
  by_cases hn : 4096 < bs.length
  · obtain ⟨rfl, rfl⟩ := hE1 hn
    rw [if_pos (by omega)] at hA
    go_enter Tryd.func36, Tryd.ntmps36
    go_wp2_with (go_at_call 39; refine hA.mono ?_; clear hA; rintro e ua ⟨y, rfl, hy, hBa⟩; obtain ⟨hEy, T, x, rfl⟩ := hy.some (by decide); replace hy : Hid _ := hy; replace hEy : Hid _ := hEy)
    exact bodyPost_ret (v := .tuple #[.slice none 0 0, .iface T x]) (by simp [results, Tryd.results36, go_sem]) rfl ⟨_, _, rfl, hy.out, VF_nil _ (by have := hBa.size; omega), hBa⟩
  · rw [if_neg (by omega)] at hA
    go_enter Tryd.func36, Tryd.ntmps36
    go_wp2_with (first | (go_at_call 39; refine hA.mono ?_; clear hA; rintro e ua ⟨y, rfl, hy, hBa⟩; obtain ⟨_, rfl⟩ : (0 : Int) = 0 ∧ y = .nilIface := hy.resolve_right (fun h => h.1 rfl)) | fail)
    go_loopw [0, 5, 6] (fun s0 s5 s6 wr => ∃ (rest : List Nat) (ms : List Fld) (f la : Nat), Hid (IN wr w.heap.size s0 rest) ∧ rest.length ≤ 4096 ∧ Hid (∀ x ∈ rest, x < 256) ∧ Hid (OF w.heap.size wr s5 (upF ms)) ∧ ms.length + rest.length ≤ 4096 ∧ s6 = .int .i64 (la : Int) ∧ la < 256 ∧ Hid (R = (rdF f la rest).map fun q => ms ++ q) ∧ rest.length ≤ f ∧ Below w.heap.size w wr) (fun s0 _ _ _ => lenOf s0)
    case atStart =>
      exact ⟨bs, [], bs.length, 0, hin.out.below hBa, by omega, hx, .inl ⟨rfl, rfl⟩, by simp; omega, rfl, by omega, (by rw [hR.out]; cases rdF bs.length 0 bs <;> rfl), Nat.le_refl _, hBa⟩
    case round =>
      obtain ⟨rest, ms, f, la, hi0, hrl, hrx, hol, hml, rfl, hla, hRi, hf, HBr⟩ := hrel
      have hsw := HBr.size
      have hGr := hG.below HBr
      obtain ⟨sr, cr, gb, go, e0, q1, q2, q3, q4⟩ := hi0.out
      subst e0
      obtain ⟨so, co, eo⟩ := hol.out.shape
      subst eo
      have hul : (upF ms).length = ms.length := by unfold upF; rw [List.length_map]
      by_cases hr0 : 0 < rest.length
      · obtain ⟨f', rfl⟩ : ∃ f', f = f' + 1 := ⟨f - 1, by omega⟩
        obtain rfl := q2.resolve_left (by omega)
        have hc0 : wr.cell? ⟨gb, go, none⟩ = some (.int .u8 ((rest.getD 0 0 : Nat) : Int)) := by have := q4 0 hr0; rwa [Nat.add_zero] at this
        have y0 := getD_lt256 hrx.out 0
        have d1 : (rest.drop 1).getD 0 0 = rest.getD 1 0 := by rw [gdrop]
        have d2 : (rest.drop 1).getD 1 0 = rest.getD 2 0 := by rw [gdrop]
        have d3 : (rest.drop 1).length = rest.length - 1 := List.length_drop
        have hdx1 : ∀ x ∈ rest.drop 1, x < 256 := fun x hm => hrx.out x (List.mem_of_mem_drop hm)
        obtain ⟨o, ho, hoif⟩ : ∃ o, (rest.length - 1 = 0 ∨ o = go + 1) ∧ (if cr = 1 then (some ⟨gb, go, none⟩ : Option Addr) else some ⟨gb, go + 1, none⟩) = some ⟨gb, o, none⟩ := by
          by_cases e : cr = 1
          · exact ⟨go, .inl (by omega), if_pos e⟩
          · exact ⟨go + 1, .inr rfl, if_neg e⟩
        have hinT := IN_tail (m := w.heap.size) (o := o) q4 q3 hr0 q1 ho
        have hV := cAbove (la : Int) ((rest.getD 0 0 : Nat) : Int) wr hGr (by omega) (by omega) (by omega) (by omega)
        by_cases ht : rest.getD 0 0 ≤ la
        · obtain ⟨rfl, rfl⟩ := hE2.out (by omega) (by rw [hRi.out, rdF_bad0 hr0 (.inl ht)]; rfl)
          rw [if_pos (.inl (by omega))] at hV
          obtain ⟨k, ek⟩ : ∃ x, rest.length = x := ⟨_, rfl⟩
          obtain ⟨mm, em⟩ : ∃ x, ms.length = x := ⟨_, rfl⟩
          obtain ⟨x0, ex0⟩ : ∃ x, rest.getD 0 0 = x := ⟨_, rfl⟩
          rw [ex0] at hc0 y0 hV
          rw [ek] at hr0 q1
          rw [em] at hml
          rw [ek, hul, em]
          have hk1 : (0 : Int) < (k : Int) := by omega
          have hk2 : k ≠ 0 := by omega
          have w0 : IntKind.i64.wrap (x0 : Int) = (x0 : Int) := by rw [IntKind.wrap_i64]; omega
          clear hRi hE4 hol hinT ho hoif q4 ht d1 d2 d3 ex0
          go_wp2_with (first
            | (go_at_call 44; refine hV.mono ?_; clear hV; rintro e ub ⟨y, rfl, hEy0, hBb⟩; obtain ⟨hEy, T, x, rfl⟩ := hEy0.some (by decide); have hT := cAt ⟨#[102, 105, 101, 108, 100]⟩ (mm : Int) 80 _ ub (hGr.below hBb) (by omega) (by omega) hEy (by decide); replace hEy : Hid _ := hEy; replace hEy0 : Hid _ := hEy0)
            | (go_at_call 45; refine hT.mono ?_; clear hT; rintro e uc ⟨y, rfl, hEy2, hBc⟩; obtain ⟨T2, x2, rfl⟩ := hEy2.some; replace hEy2 : Hid _ := hEy2))
          exact bodyPost_ret (v := .tuple #[.slice none 0 0, .iface T2 x2]) (by simp [results, Tryd.results36, go_sem]) rfl ⟨_, _, rfl, .inr ⟨by decide, hEy2.out⟩, VF_nil _ (by have := hBb.size; have := hBc.size; omega), bstep (bstep HBr hBb) hBc⟩
        rw [if_neg (by omega)] at hV
        by_cases hbad : (rest.drop 1).length < 2 ∨ (rest.drop 1).length - 2 < 256 * (rest.drop 1).getD 0 0 + (rest.drop 1).getD 1 0
        · obtain ⟨rfl, rfl⟩ := hE2.out (by omega) (by rw [hRi.out, rdF_bad0 hr0 (.inr (by rw [d1, d2, d3] at hbad; omega))]; rfl)
          obtain ⟨k, ek⟩ : ∃ x, rest.length = x := ⟨_, rfl⟩
          obtain ⟨mm, em⟩ : ∃ x, ms.length = x := ⟨_, rfl⟩
          obtain ⟨x0, ex0⟩ : ∃ x, rest.getD 0 0 = x := ⟨_, rfl⟩
          obtain ⟨r1, er1⟩ : ∃ x, rest.drop 1 = x := ⟨_, rfl⟩
          rw [ex0] at hc0 y0 hV
          rw [er1] at hbad hinT hdx1 d3
          rw [ek] at hr0 q1 hinT d3 hrl
          rw [em] at hml
          rw [ek, hul, em]
          have hk1 : (0 : Int) < (k : Int) := by omega
          have hk2 : k ≠ 0 := by omega
          have hk3 : 1 ≤ k := by omega
          have w0 : IntKind.i64.wrap (x0 : Int) = (x0 : Int) := by rw [IntKind.wrap_i64]; omega
          replace hbad : Hid (r1.length < 2 ∨ r1.length - 2 < 256 * r1.getD 0 0 + r1.getD 1 0) := hbad
          replace hinT : Hid (IN wr w.heap.size (.slice (some ⟨gb, o, none⟩) (k - 1) (cr - 1)) r1) := hinT
          replace hdx1 : Hid (∀ x ∈ r1, x < 256) := hdx1
          replace d3 : Hid (r1.length = k - 1) := d3
          clear hRi hE4 hol ho q4 ht d1 d2 ex0 er1
          go_wp2_with (first
            | (go_at_call 44; refine hV.mono ?_; clear hV; rintro e ub ⟨y, rfl, hy, hBb⟩; obtain ⟨_, rfl⟩ : (0 : Int) = 0 ∧ y = .nilIface := hy.resolve_right (fun h => h.1 rfl); have hsb := hBb.size; have hF := cFirst_bad r1 _ ub (hGr.below hBb) ((hinT.out.below (hBb.mono hsw)).mono (Nat.le_trans hsw hsb)) hdx1.out (by have := d3.out; omega) hbad.out)
            | (go_at_call 46; refine hF.mono ?_; clear hF; rintro e uc ⟨y, rfl, hEy, hBc⟩; obtain ⟨T, x, rfl⟩ := hEy.some; have hT := cAt ⟨#[102, 105, 101, 108, 100]⟩ (mm : Int) 80 _ uc ((hGr.below hBb).below hBc) (by omega) (by omega) hEy (by decide); replace hEy : Hid _ := hEy)
            | (go_at_call 45; refine hT.mono ?_; clear hT; rintro e ud ⟨y, rfl, hEy2, hBd⟩; obtain ⟨T2, x2, rfl⟩ := hEy2.some; replace hEy2 : Hid _ := hEy2))
          exact bodyPost_ret (v := .tuple #[.slice none 0 0, .iface T2 x2]) (by simp [results, Tryd.results36, go_sem]) rfl ⟨_, _, rfl, .inr ⟨by decide, hEy2.out⟩, VF_nil _ (by have := hBb.size; have := hBc.size; have := hBd.size; omega), bstep (bstep (bstep HBr hBb) hBc) hBd⟩
        · obtain ⟨n, en⟩ : ∃ n, 256 * rest.getD 1 0 + rest.getD 2 0 = n := ⟨_, rfl⟩
          rw [d1, d2, d3, en] at hbad
          have h3 : 3 ≤ rest.length := by omega
          have hn3 : n ≤ rest.length - 3 := by omega
          have hRn := rdF_more0 (f := f') h3 en ht hn3
          have hdl : (rest.drop (3 + n)).length = rest.length - (3 + n) := List.length_drop
          have hdx : ∀ x ∈ rest.drop (3 + n), x < 256 := fun x hm => hrx.out x (List.mem_of_mem_drop hm)
          have t1 : ((rest.drop 1).drop 2).take n = (rest.drop 3).take n := by rw [List.drop_drop]
          have t2 : (rest.drop 1).drop (2 + n) = rest.drop (3 + n) := by rw [List.drop_drop]; congr 1; omega
          rw [← d1, ← d2] at en
          obtain ⟨tk, etk⟩ : ∃ x, (rest.drop 3).take n = x := ⟨_, rfl⟩
          have htl : tk.length = n := by rw [← etk, List.length_take, List.length_drop]; omega
          obtain ⟨r2, er2⟩ : ∃ x, rest.drop (3 + n) = x := ⟨_, rfl⟩
          obtain ⟨x0, ex0⟩ : ∃ x, rest.getD 0 0 = x := ⟨_, rfl⟩
          obtain ⟨r1, er1⟩ : ∃ x, rest.drop 1 = x := ⟨_, rfl⟩
          rw [etk, er2, ex0] at hRn
          rw [etk] at t1
          rw [er2] at t2 hdl hdx
          rw [er1] at en t1 t2 hinT hdx1 d3
          rw [ex0] at hc0 y0 hV
          rw [hRn] at hRi
          have hRm : Hid (R = (rdF f' x0 r2).map fun q => (ms ++ [(x0, tk)]) ++ q) := (hRi.out).trans (by cases rdF f' x0 r2 <;> simp)
          obtain ⟨k, ek⟩ : ∃ x, rest.length = x := ⟨_, rfl⟩
          obtain ⟨mm, em⟩ : ∃ x, ms.length = x := ⟨_, rfl⟩
          rw [ek] at hr0 hdl hn3 hml hf h3 hrl q1 d3 hinT
          rw [em] at hml
          rw [hul, em] at hol
          rw [ek, hul, em]
          have hk1 : (0 : Int) < (k : Int) := by omega
          have hk2 : k ≠ 0 := by omega
          have hk3 : 1 ≤ k := by omega
          have w0 : IntKind.i64.wrap (x0 : Int) = (x0 : Int) := by rw [IntKind.wrap_i64]; omega
          have hb1 := bs1f
          have hup : upF (ms ++ [(x0, tk)]) = upF ms ++ [((x0 : Int), tk)] := by unfold upF; rw [List.map_append]; rfl
          replace hinT : Hid (IN wr w.heap.size (.slice (some ⟨gb, o, none⟩) (k - 1) (cr - 1)) r1) := hinT
          replace hdx1 : Hid (∀ x ∈ r1, x < 256) := hdx1
          replace hdx : Hid (∀ x ∈ r2, x < 256) := hdx
          replace d3 : Hid (r1.length = k - 1) := d3
          replace t1 : Hid ((r1.drop 2).take n = tk) := t1
          replace t2 : Hid (r1.drop (2 + n) = r2) := t2
          replace en : Hid (256 * r1.getD 0 0 + r1.getD 1 0 = n) := en
          replace htl : Hid (tk.length = n) := htl
          replace hup : Hid _ := hup
          replace hdl : Hid (r2.length = k - (3 + n)) := hdl
          clear hRi hRn hE2 hE4 q4 ht ex0 er1 er2 etk d1 d2 hbad ho
          go_wp2_with (first
            | (go_at_call 44; refine hV.mono ?_; clear hV; rintro e ub ⟨y, rfl, hy, hBb⟩; obtain ⟨_, rfl⟩ : (0 : Int) = 0 ∧ y = .nilIface := hy.resolve_right (fun h => h.1 rfl); have hsb := hBb.size; have hF := cFirst_ok r1 n _ ub w.heap.size (hGr.below hBb) (Nat.le_trans hsw hsb) (hinT.out.below (hBb.mono hsw)) hdx1.out (by have := d3.out; omega) (by have := d3.out; omega) en.out (by have := d3.out; omega); rw [t1.out, t2.out] at hF)
            | (go_at_call 46; refine hF.mono ?_; clear hF; rintro e uc ⟨ad, n1, c1, s2, n2, c2, rfl, hi1, hi2, hBc⟩; have hsc := hBc.size; have hC := cClone ad n1 c1 tk uc (hi1.mono (by omega)) (by have := htl.out; omega); replace hi1 : Hid _ := hi1; replace hi2 : Hid (IN uc w.heap.size (.slice s2 n2 c2) r2) := hi2)
            | (go_at_call 34; refine hC.mono ?_; clear hC; rintro e ud ⟨yv, rfl, hpg, hBd⟩; rw [htl.out] at hpg; obtain ⟨b4, c4, z4, rfl, hg⟩ := hpg; obtain ⟨v2, ue, hr, hol2, hBe⟩ := ((hol.out.below hBb).below hBc).push (t := (x0 : Int)) (by omega) hBd ⟨b4, c4, z4, rfl, hg⟩ htl.out (by omega); obtain ⟨s3, n3, c3, rfl⟩ := hol2.shape2; replace hg : Hid _ := hg; replace hol2 : Hid (OF w.heap.size ue (.slice s3 n3 c3) (upF ms ++ [((x0 : Int), tk)])) := hol2)
            | (at_builtin; refine wpList_app2 rfl _ _ 22 rfl _ _ _ rfl rfl hr ?_; clear hr))
          have hBf : Below w.heap.size uc ue := (hBd.mono (by omega)).trans hBe
          obtain ⟨_, _, _, _, e2, _⟩ := hi2.out
          simp at e2
          have hdl2 := hdl.out
          refine ⟨⟨r2, ms ++ [(x0, tk)], f', x0, hi2.out.below hBf, by omega, hdx.out, (by rw [hup.out]; exact hol2.out), by simp; omega, rfl, y0, hRm, by omega, ((HBr.trans (hBb.mono hsw)).trans (hBc.mono (by omega))).trans hBf⟩, ?_⟩
          simp [lenOf]; omega
      · obtain rfl : rest = [] := List.eq_nil_of_length_eq_zero (by omega)
        have hfin : R = some ms := by rw [hRi.out, rdF_end]; simp
        obtain ⟨rfl, rfl⟩ := hE4.out ms (by omega) hfin
        obtain ⟨mm, em⟩ : ∃ x, (upF ms).length = x := ⟨_, rfl⟩
        rw [em] at hol
        rw [em]
        clear hfin hRi hi0 hE2 hE4 q4
        go_wp2
        exact bodyPost_ret (v := .tuple #[.slice so mm co, .nilIface]) (by simp [results, Tryd.results36, go_sem]) rfl ⟨_, _, rfl, .inl ⟨rfl, rfl⟩, hol.out.vf (by omega), HBr⟩
end Go.Proofs.YtjekkdckjnlkcaaDoor
