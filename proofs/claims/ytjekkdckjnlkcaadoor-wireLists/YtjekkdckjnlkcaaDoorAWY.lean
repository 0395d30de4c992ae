/- Wire: readingList, ReadList. -/
import Derived.Test.YtjekkdckjnlkcaaDoorAWX
namespace Go.Proofs.YtjekkdckjnlkcaaDoor
open Go.RowKit
set_option linter.unusedVariables false
set_option linter.unusedSimpArgs false
def lenOf (v : Value) : Nat := match v with
  | .slice _ n _ => n
  | _ => 0
/-- A row of rows that is under way: none yet, or one of one's own. -/
def OL (lo : Nat) (u : World) (v : Value) (ms : List (List Nat)) : Prop := (v = .slice none 0 0 ∧ ms = []) ∨ ∃ (bo m co : Nat) (vs zs : List Value), v = .slice (some ⟨bo, 0, none⟩) m co ∧ vs.length = m ∧ m ≤ co ∧ zs.length = co - m ∧ lo ≤ bo ∧ bo < u.heap.size ∧ CV u bo (vs ++ zs) ∧ RW u bo vs ms
theorem OL.below {lo : Nat} {u u2 : World} {v : Value} {ms : List (List Nat)} (h : OL lo u v ms) (hB : Below u.heap.size u u2) : OL lo u2 v ms := by
  rcases h with h | ⟨bo, m, co, vs, zs, h1, h2, h3, h4, h5, h6, h7, h8⟩
  · exact .inl h
  · exact .inr ⟨bo, m, co, vs, zs, h1, h2, h3, h4, h5, Nat.lt_of_lt_of_le h6 hB.size, h7.below hB h6, h8.below hB⟩
theorem OL.shape {lo : Nat} {u : World} {v : Value} {ms : List (List Nat)} (h : OL lo u v ms) : ∃ s c, v = .slice s ms.length c := by
  rcases h with ⟨rfl, rfl⟩ | ⟨bo, m, co, vs, zs, rfl, h2, h3, h4, h5, h6, h7, h8⟩
  · exact ⟨_, _, rfl⟩
  · exact ⟨some ⟨bo, 0, none⟩, co, by rw [h8.len, h2]⟩
theorem OL.shape2 {lo : Nat} {u : World} {v : Value} {ms : List (List Nat)} (h : OL lo u v ms) : ∃ s n c, v = .slice s n c := by
  obtain ⟨s, c, e⟩ := h.shape
  exact ⟨_, _, _, e⟩
theorem OL.lv {lo : Nat} {u : World} {v : Value} {ms : List (List Nat)} (h : OL lo u v ms) (hu : 0 < u.heap.size) : LV u v ms := by
  rcases h with ⟨rfl, rfl⟩ | ⟨bo, m, co, vs, zs, rfl, h2, h3, h4, h5, h6, h7, h8⟩
  · exact LV_nil u hu
  · exact h8.lv h7 h2 h6
theorem bs1w (sl : Option Addr) (n c : Nat) (w : World) : (Instr.buildSlice 38 1 #[(0, .slice sl n c)]).run Tryd.prog w = .ok (.slice (some ⟨w.heap.size, 0, none⟩) 1 1) (w.alloc (.cells #[.slice sl n c] 24)) := by kernel_rfl
theorem PG_inb2 {lo n b g c : Nat} {xs : List Nat} {u : World} (h : PG lo 1 n (U8 xs) u (.slice (some ⟨g, 0, none⟩) n c)) (hn : xs.length = n) (hb : g ≠ b) : INb u b (.slice (some ⟨g, 0, none⟩) n c) xs := by
  obtain ⟨g', cap, zs, e, h1, h2, h3, h4, h5⟩ := h
  simp at e
  obtain ⟨rfl, rfl⟩ := e
  refine ⟨_, c, g, 0, by rw [hn], by omega, .inr rfl, h2, hb, fun j hj => ?_⟩
  rw [Nat.zero_add]; exact (h5.pre2 j _ (U8_get xs j hj)).1
/-- One more row behind it: a copy that was made in between. -/
theorem OL.push {lo : Nat} {u ua : World} {v : Value} {ms : List (List Nat)} {b4 nn c4 : Nat} {tk : List Nat} (h : OL lo u v ms) (hlo : lo ≤ u.heap.size) (hB : Below u.heap.size u ua) (hy : PG u.heap.size 1 nn (U8 tk) ua (.slice (some ⟨b4, 0, none⟩) nn c4)) (htl : tk.length = nn) (hl : ms.length ≤ 100000) :
    ∃ v2 ub, (Builtin.append_ #[38, 38] 38 #[v, .slice (some ⟨ua.heap.size, 0, none⟩) 1 1]).run Tryd.prog (ua.alloc (.cells #[.slice (some ⟨b4, 0, none⟩) nn c4] 24)) = .ok v2 ub ∧ OL lo ub v2 (ms ++ [tk]) ∧ Below lo ua ub := by
  have hBc : Below ua.heap.size ua (ua.alloc (.cells #[.slice (some ⟨b4, 0, none⟩) nn c4] 24)) := balloc (bself ua) _
  have hla : lo ≤ ua.heap.size := Nat.le_trans hlo hB.size
  rcases h with ⟨rfl, rfl⟩ | ⟨bo, m, co, vs, zs, rfl, h2, h3, h4, h5, h6, h7, h8⟩
  · obtain ⟨ti, hti, htm⟩ := Option.map_eq_some_iff.1 infoW
    simp only [Prod.mk.injEq] at htm
    obtain ⟨hzv, hsz, hby⟩ := htm
    obtain ⟨v2, ub, hr, hg, hp⟩ := run_append_full (P := Tryd.prog) (ua.alloc (.cells #[.slice (some ⟨b4, 0, none⟩) nn c4] 24)) (ty := 38) Tryd.underlying38 hti hzv (by rw [hsz]; rfl) (lo := (ua.alloc (.cells #[.slice (some ⟨b4, 0, none⟩) nn c4] 24)).heap.size) (n := 0) (xs := []) (news := [.slice (some ⟨b4, 0, none⟩) nn c4]) (ad := ⟨ua.heap.size, 0, none⟩) (c := 1) ⟨by simp, .inl ⟨rfl, rfl⟩⟩ (by rw [hsz]; rfl) (fun j v hj => by rw [Addr.add0]; exact (CV.new ua [.slice (some ⟨b4, 0, none⟩) nn c4] 24 j v hj).1) (Nat.le_refl _) (by rw [hby]; omega) (by omega)
    refine ⟨v2, ub, hr, .inr ?_, (hBc.mono hla).trans (hg.mono (by simp; omega))⟩
    obtain ⟨b5, c5, z5, rfl, f1, f2, f3, f4, f5⟩ := hp
    rw [hsz, Nat.mul_one] at f4
    have hBu : Below ua.heap.size ua ub := bstep hBc hg
    have hb4 : b4 < ua.heap.size := by obtain ⟨g', cap, zs, e, h1, h2, _⟩ := hy; simp at e; omega
    simp at f1
    have hnb := PG_inb2 (b := b5) (hy.stab hBu) htl (by omega)
    exact ⟨b5, 1, c5, [.slice (some ⟨b4, 0, none⟩) nn c4], z5, rfl, rfl, f3, f4, by omega, f2, f5, (RW.nil ub b5).more hnb⟩
  · have hnb := PG_inb (b := bo) hy htl h6
    obtain ⟨v2, ub, r2, rg2, b5, c5, z5, rfl, f1, f2, f3, f4, f5⟩ := app_sl (ty := 38) (sl := some ⟨b4, 0, none⟩) (n := nn) (c := c4) (h7.below hB h6) (Nat.lt_of_lt_of_le h6 hB.size) h2 h3 h4 (by have := h8.len; omega)
    have hBe : Below lo ua ub := (hBc.mono hla).grown rg2 (by simp; omega) (fun j e => by cases e; exact h5)
    refine ⟨_, ub, r2, .inr ⟨b5, m + 1, c5, vs ++ [.slice (some ⟨b4, 0, none⟩) nn c4], z5, rfl, by rw [List.length_append, h2]; rfl, f3, by rw [Nat.mul_one] at f4; exact f4, by have := hBc.size; omega, f2, f5, ?_⟩, hBe⟩
    exact (((h8.below hB).more hnb).below hBc).grown rg2 f1
theorem rdL_bad0 {b : List Nat} {f : Nat} (h0 : 0 < b.length) (h : b.length < 2 ∨ b.length - 2 < 256 * b.getD 0 0 + b.getD 1 0) : rdL (f + 1) b = none := by
  by_cases h2 : b.length < 2
  · have := rdL_one (b := b) (i := 0) (f := f + 1) (by omega)
    simpa using this
  · have := rdL_cut (b := b) (i := 0) (f := f) (by omega) (by simpa using h.resolve_left h2)
    simpa using this
theorem rdL_more0 {b : List Nat} {f n : Nat} (h : 2 ≤ b.length) (e : 256 * b.getD 0 0 + b.getD 1 0 = n) (hn : n ≤ b.length - 2) : rdL (f + 1) b = (rdL f (b.drop (2 + n))).map fun m => (b.drop 2).take n :: m := by
  have := rdL_more (b := b) (i := 0) (f := f) (n := n) (by omega) (by simpa using e) (by simpa using hn)
  simpa using this
set_option maxRecDepth 100000 in
set_option maxHeartbeats 4000000 in
theorem cReadingL_core (bs : List Nat) (v : Value) (R : Option (List (List Nat))) (ev : Int) (xs : List (List Nat)) (w : World) (hG : GW w) (h : IN w w.heap.size v bs) (hx : ∀ x ∈ bs, x < 256) (hl : bs.length ≤ 4097) (hR : Hid (R = rdL bs.length bs))
    (hE1 : 4096 < bs.length → ev = 3 ∧ xs = []) (hE2 : Hid (bs.length ≤ 4096 → R = none → ev = 80 ∧ xs = []))
    (hE3 : Hid (∀ ms, bs.length ≤ 4096 → R = some ms → 256 < ms.length → ev = 3 ∧ xs = [])) (hE4 : Hid (∀ ms, bs.length ≤ 4096 → R = some ms → ms.length ≤ 256 → ev = 0 ∧ xs = ms)) :
    Calls Tryd.prog 37 #[v] w fun e u => ∃ y er, e = .returned (.tuple #[y, er]) ∧ EO ev er ∧ LV u y xs ∧ Below w.heap.size w u := by
  have hz : 0 < w.heap.size := INpos h
  have hA := cAtMost ⟨#[98, 121, 116, 101, 115, 32, 111, 102, 32, 97, 32, 108, 105, 115, 116]⟩ (bs.length : Int) 4096 w hG (by omega) (by omega) (by decide)
  obtain ⟨sl, cap, gb, go, rfl, k1, k2, k3, k4⟩ := h
  have hin : Hid (IN w w.heap.size (.slice sl bs.length cap) bs) := ⟨sl, cap, gb, go, rfl, k1, k2, k3, k4⟩
  clear k4
  by_cases hn : 4096 < bs.length
  · obtain ⟨rfl, rfl⟩ := hE1 hn
    rw [if_pos (by omega)] at hA
    go_enter Tryd.func37, Tryd.ntmps37
    go_wp2_with (go_at_call 39; refine hA.mono ?_; clear hA; rintro e ua ⟨y, rfl, hy, hBa⟩; obtain ⟨hEy, T, x, rfl⟩ := hy.some (by decide); replace hy : Hid _ := hy; replace hEy : Hid _ := hEy)
    exact bodyPost_ret (v := .tuple #[.slice none 0 0, .iface T x]) (by simp [results, Tryd.results37, go_sem]) rfl ⟨_, _, rfl, hy.out, LV_nil _ (by have := hBa.size; omega), hBa⟩
  · rw [if_neg (by omega)] at hA
    go_enter Tryd.func37, Tryd.ntmps37
    go_wp2_with (first | (go_at_call 39; refine hA.mono ?_; clear hA; rintro e ua ⟨y, rfl, hy, hBa⟩; obtain ⟨_, rfl⟩ : (0 : Int) = 0 ∧ y = .nilIface := hy.resolve_right (fun h => h.1 rfl)) | fail)
    go_loopw [0, 5] (fun s0 s5 wr => ∃ (rest : List Nat) (ms : List (List Nat)) (f : Nat), Hid (IN wr w.heap.size s0 rest) ∧ rest.length ≤ 4096 ∧ Hid (∀ x ∈ rest, x < 256) ∧ Hid (OL w.heap.size wr s5 ms) ∧ ms.length + rest.length ≤ 4096 ∧ Hid (R = (rdL f rest).map fun q => ms ++ q) ∧ rest.length ≤ f ∧ Below w.heap.size w wr) (fun s0 _ _ => lenOf s0)
    case atStart =>
      exact ⟨bs, [], bs.length, hin.out.below hBa, by omega, hx, .inl ⟨rfl, rfl⟩, by simp; omega, (by rw [hR.out]; cases rdL bs.length bs <;> rfl), Nat.le_refl _, hBa⟩
    case round =>
      obtain ⟨rest, ms, f, hi0, hrl, hrx, hol, hml, hRi, hf, HBr⟩ := hrel
      have hsw := HBr.size
      have hGr := hG.below HBr
      obtain ⟨sr, cr, _, _, e0, _⟩ := hi0.out
      subst e0
      obtain ⟨so, co, eo⟩ := hol.out.shape
      subst eo
      by_cases hr0 : 0 < rest.length
      · obtain ⟨f', rfl⟩ : ∃ f', f = f' + 1 := ⟨f - 1, by omega⟩
        by_cases hbad : rest.length < 2 ∨ rest.length - 2 < 256 * rest.getD 0 0 + rest.getD 1 0
        · have hF := cFirst_bad rest _ wr hGr (hi0.out.mono hsw) hrx.out (by omega) hbad
          obtain ⟨rfl, rfl⟩ := hE2.out (by omega) (by rw [hRi.out, rdL_bad0 hr0 hbad]; rfl)
          obtain ⟨k, ek⟩ : ∃ x, rest.length = x := ⟨_, rfl⟩
          obtain ⟨mm, em⟩ : ∃ x, ms.length = x := ⟨_, rfl⟩
          rw [ek] at hF hr0
          rw [em] at hml
          rw [ek, em]
          have hk1 : (0 : Int) < (k : Int) := by omega
          have hk2 : k ≠ 0 := by omega
          replace hbad : Hid _ := hbad
          clear hRi hE3 hE4 hol
          go_wp2_with (first
            | (go_at_call 46; refine hF.mono ?_; clear hF; rintro e ub ⟨y, rfl, hEy, hBb⟩; obtain ⟨T, x, rfl⟩ := hEy.some; have hT := cAt ⟨#[109, 101, 109, 98, 101, 114]⟩ (mm : Int) 80 _ ub (hGr.below hBb) (by omega) (by omega) hEy (by decide); replace hEy : Hid _ := hEy)
            | (go_at_call 45; refine hT.mono ?_; clear hT; rintro e uc ⟨y, rfl, hEy2, hBc⟩; obtain ⟨T2, x2, rfl⟩ := hEy2.some; replace hEy2 : Hid _ := hEy2))
          exact bodyPost_ret (v := .tuple #[.slice none 0 0, .iface T2 x2]) (by simp [results, Tryd.results37, go_sem]) rfl ⟨_, _, rfl, .inr ⟨by decide, hEy2.out⟩, LV_nil _ (by have := hBb.size; have := hBc.size; omega), bstep (bstep HBr hBb) hBc⟩
        · obtain ⟨n, en⟩ : ∃ n, 256 * rest.getD 0 0 + rest.getD 1 0 = n := ⟨_, rfl⟩
          have h2 : 2 ≤ rest.length := by omega
          have hn2 : n ≤ rest.length - 2 := by omega
          have hF := cFirst_ok rest n _ wr w.heap.size hGr hsw hi0.out hrx.out (by omega) h2 en hn2
          have hRn := rdL_more0 (f := f') h2 en hn2
          have hdl : (rest.drop (2 + n)).length = rest.length - (2 + n) := List.length_drop
          have hdx : ∀ x ∈ rest.drop (2 + n), x < 256 := fun x hm => hrx.out x (List.mem_of_mem_drop hm)
          obtain ⟨tk, etk⟩ : ∃ x, (rest.drop 2).take n = x := ⟨_, rfl⟩
          have htl : tk.length = n := by rw [← etk, List.length_take, List.length_drop]; omega
          obtain ⟨r2, er2⟩ : ∃ x, rest.drop (2 + n) = x := ⟨_, rfl⟩
          rw [etk, er2] at hF hRn
          rw [er2] at hdl hdx
          rw [hRn] at hRi
          have hRm : Hid (R = (rdL f' r2).map fun q => (ms ++ [tk]) ++ q) := (hRi.out).trans (by cases rdL f' r2 <;> simp)
          obtain ⟨k, ek⟩ : ∃ x, rest.length = x := ⟨_, rfl⟩
          obtain ⟨mm, em⟩ : ∃ x, ms.length = x := ⟨_, rfl⟩
          rw [ek] at hF hr0 hdl hn2 hml hf h2 hrl
          rw [em] at hml
          rw [ek, em]
          rw [em] at hol
          have hk1 : (0 : Int) < (k : Int) := by omega
          have hk2 : k ≠ 0 := by omega
          replace hdx : Hid _ := hdx
          replace etk : Hid _ := etk
          replace er2 : Hid _ := er2
          replace en : Hid _ := en
          replace htl : Hid _ := htl
          replace hbad : Hid _ := hbad
          have hb1 := bs1w
          clear hRi hRn hE2 hE3 hE4
          go_wp2_with (first
            | (go_at_call 46; refine hF.mono ?_; clear hF; rintro e ub ⟨ad, n1, c1, s2, n2, c2, rfl, hi1, hi2, hBb⟩; have hsb := hBb.size; have hC := cClone ad n1 c1 tk ub (hi1.mono (by omega)) (by have := htl.out; omega); replace hi1 : Hid _ := hi1; replace hi2 : Hid (IN ub w.heap.size (.slice s2 n2 c2) r2) := hi2)
            | (go_at_call 34; refine hC.mono ?_; clear hC; rintro e uc ⟨yv, rfl, hpg, hBc⟩; rw [htl.out] at hpg; obtain ⟨b4, c4, z4, rfl, hg⟩ := hpg; obtain ⟨v2, ud, hr, hol2, hBd⟩ := (hol.out.below hBb).push (by omega) hBc ⟨b4, c4, z4, rfl, hg⟩ htl.out (by omega); obtain ⟨s3, n3, c3, rfl⟩ := hol2.shape2; replace hg : Hid _ := hg; replace hol2 : Hid (OL w.heap.size ud (.slice s3 n3 c3) (ms ++ [tk])) := hol2)
            | (at_builtin; refine wpList_app2 rfl _ _ 38 rfl _ _ _ rfl rfl hr ?_; clear hr))
          have hBe : Below w.heap.size ub ud := (hBc.mono (by omega)).trans hBd
          obtain ⟨_, _, _, _, e2, _⟩ := hi2.out
          simp at e2
          refine ⟨⟨r2, ms ++ [tk], f', hi2.out.below hBe, by omega, hdx.out, hol2.out, by simp; omega, hRm, by omega, (HBr.trans (hBb.mono hsw)).trans hBe⟩, ?_⟩
          simp [lenOf]; omega
      · obtain rfl : rest = [] := List.eq_nil_of_length_eq_zero (by omega)
        have hfin : R = some ms := by rw [hRi.out, rdL_end]; simp
        have hA2 := cAtMost ⟨#[109, 101, 109, 98, 101, 114, 115]⟩ (ms.length : Int) 256 wr hGr (by omega) (by omega) (by decide)
        by_cases hm : 256 < ms.length
        · obtain ⟨rfl, rfl⟩ := hE3.out ms (by omega) hfin hm
          rw [if_pos (by omega)] at hA2
          obtain ⟨mm, em⟩ : ∃ x, ms.length = x := ⟨_, rfl⟩
          rw [em] at hA2 hm
          rw [em]
          clear hol hfin hRi hi0 hE2 hE3 hE4
          go_wp2_with (go_at_call 39; refine hA2.mono ?_; clear hA2; rintro e ub ⟨y, rfl, hy, hBb⟩; obtain ⟨hEy, T, x, rfl⟩ := hy.some (by decide); replace hy : Hid _ := hy; replace hEy : Hid _ := hEy)
          exact bodyPost_ret (v := .tuple #[.slice none 0 0, .iface T x]) (by simp [results, Tryd.results37, go_sem]) rfl ⟨_, _, rfl, hy.out, LV_nil _ (by have := hBb.size; omega), bstep HBr hBb⟩
        · obtain ⟨rfl, rfl⟩ := hE4.out ms (by omega) hfin (by omega)
          rw [if_neg (by omega)] at hA2
          obtain ⟨mm, em⟩ : ∃ x, xs.length = x := ⟨_, rfl⟩
          rw [em] at hA2 hm hol
          rw [em]
          clear hfin hRi hi0 hE2 hE3 hE4
          go_wp2_with (first | (go_at_call 39; refine hA2.mono ?_; clear hA2; rintro e ub ⟨y, rfl, hy, hBb⟩; obtain ⟨_, rfl⟩ : (0 : Int) = 0 ∧ y = .nilIface := hy.resolve_right (fun h => h.1 rfl)) | fail)
          exact bodyPost_ret (v := .tuple #[.slice so mm co, .nilIface]) (by simp [results, Tryd.results37, go_sem]) rfl ⟨_, _, rfl, .inl ⟨rfl, rfl⟩, (hol.out.below hBb).lv (by have := hBb.size; omega), bstep HBr hBb⟩
end Go.Proofs.YtjekkdckjnlkcaaDoor
