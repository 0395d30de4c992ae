/- Wire: firstOf. -/
import Derived.Test.YtjekkdckjnlkcaaDoorAWV
namespace Go.Proofs.YtjekkdckjnlkcaaDoor
open Go.RowKit
set_option linter.unusedVariables false
set_option linter.unusedSimpArgs false
def FRes (gb go len cap nn : Nat) (e : Ending) : Prop := (len - 2 < nn ∧ ∃ y, e = .returned (.tuple #[.slice none 0 0, .slice none 0 0, y]) ∧ EW 80 y) ∨
       (nn ≤ len - 2 ∧ ∃ o o', (len - 2 = 0 ∨ o = go + 2) ∧ (len - 2 - nn = 0 ∨ o' = o + nn) ∧ e = .returned (.tuple #[.slice (some ⟨gb, o, none⟩) nn (cap - 2), .slice (some ⟨gb, o', none⟩) (len - 2 - nn) (cap - 2 - nn), .nilIface]))
set_option maxRecDepth 100000 in
set_option maxHeartbeats 2000000 in
theorem cFirst_core (gb go len cap x0 x1 nn : Nat) (w : World) (hG : GW w) (hlc : len ≤ cap) (h2 : 2 ≤ len) (hl : len ≤ 100000) (hgb : gb < w.heap.size) (hc0 : w.cell? ⟨gb, go + 0, none⟩ = some (.int .u8 (x0 : Int))) (hc1 : w.cell? ⟨gb, go + 1, none⟩ = some (.int .u8 (x1 : Int))) (y0 : x0 < 256) (y1 : x1 < 256) (enn : 256 * x0 + x1 = nn) :
    Calls Tryd.prog 46 #[.slice (some ⟨gb, go, none⟩) len cap] w fun e u => Below w.heap.size w u ∧
      FRes gb go len cap nn e := by
  have hB0 : Below w.heap.size w w := Below.refl _ _
  have hl2 : ¬ (len : Int) < 2 := by omega
  obtain ⟨o, ho, hoif⟩ : ∃ o, (len - 2 = 0 ∨ o = go + 2) ∧ (if cap = 2 then (some ⟨gb, go, none⟩ : Option Addr) else some ⟨gb, go + 2, none⟩) = some ⟨gb, o, none⟩ := by
    by_cases e : cap = 2
    · exact ⟨go, .inl (by omega), if_pos e⟩
    · exact ⟨go + 2, .inr rfl, if_neg e⟩
  go_enter Tryd.func46, Tryd.ntmps46
  have K0 := Bk.nil (w.heap.size) w
  go_upto_region 3 with fail
  refine rgD K0 hB0 hB0.size [] [] [(0, 17, .slice (some ⟨gb, go, none⟩) len cap), (1, 18, .pointer (some ⟨gb, go + 0, none⟩)), (2, 19, .int .u8 ((x0 : Nat) : Int)), (3, 20, .int .i64 ((x0 : Nat) : Int)), (4, 21, .int .i64 ((256 * x0 : Nat) : Int)), (5, 22, .slice (some ⟨gb, go, none⟩) len cap), (6, 23, .pointer (some ⟨gb, go + 1, none⟩)), (7, 24, .int .u8 ((x1 : Nat) : Int)), (8, 25, .int .i64 ((x1 : Nat) : Int)), (9, 26, .int .i64 ((256 * x0 + x1 : Nat) : Int)), (10, 5, .int .i64 ((256 * x0 + x1 : Nat) : Int))] [] [] [] ?_ ?_
  · refine oc g_mv ?_
    refine oc (g_ix (fun uZ => ixB gb go len cap 0 (by omega) uZ)) ?_
    refine oc (g_lg gb (go + 0) l8 (hc0) (hgb)) ?_
    refine oc (g_op (fun ev uZ he => cv8i uZ y0 rfl (he _ _ rfl))) ?_
    refine oc (g_bn (fun uZ => shlI _ _ x0 uZ y0)) ?_
    refine oc g_mv ?_
    refine oc (g_ix (fun uZ => ixB gb go len cap 1 (by omega) uZ)) ?_
    refine oc (g_lg gb (go + 1) l8 (hc1) (hgb)) ?_
    refine oc (g_op (fun ev uZ he => cv8i uZ y1 rfl (he _ _ rfl))) ?_
    refine oc (g_bn (fun uZ => orI _ _ x0 x1 uZ y0 y1)) ?_
    exact oc g_as on
  intro u1 hB1 sz1 K1
  simp only [fX, nK, nP, Wr.f, aK, pM] at K1
  simp only [setG, setN, List.set_cons_zero, List.set_cons_succ]
  rw [enn]
  have hG1 := hG.below hB1
  clear hc0 hc1
  by_cases hn : len - 2 < nn
  · have hI := cItoa ((len - 2 : Nat) : Int) u1 (by omega) (by omega) hG1
    have hn2 : ((len - 2 : Nat) : Int) < (nn : Int) := by omega
    go_wp2_with (first
      | (go_at_call 35; refine hI.mono ?_; clear hI; rintro e ua ⟨s, rfl, hs, hBa⟩; have hJ := cItoa (nn : Int) ua (by omega) (by omega) (hG1.below hBa); have hw1 : ¬ 9223372036854775807 < s.size + 10 := (by omega))
      | (go_at_call 35; refine hJ.mono ?_; clear hJ; rintro e ub ⟨s2, rfl, hs2, hBb⟩; have hw3 : ¬ 9223372036854775807 < s.size + 10 + s2.size := (by omega)))
    exact bodyPost_ret (v := .tuple #[.slice none 0 0, .slice none 0 0, .iface 62 (.agg #[.string (s ++ ⟨#[32, 98, 121, 116, 101, 115, 32, 111, 102, 32]⟩ ++ s2), .iface 25 (.int .i64 80)])]) (by simp [results, Tryd.results46, go_sem]) rfl ⟨bstep (bstep hB1 hBa) hBb, .inl ⟨hn, _, rfl, .wrap _ _ .leaf⟩⟩
  · have hn2 : ¬ ((len - 2 : Nat) : Int) < (nn : Int) := by omega
    obtain ⟨o', ho', hsl2⟩ := slLo gb o (len - 2) (cap - 2) nn (by omega) (by omega)
    have hsh := slHi gb o (len - 2) (cap - 2) nn (by omega) (by omega)
    go_upto_region 7 with fail
    refine rgD K1 hB1 hB1.size [] [] [(0, 43, .slice (some ⟨gb, o, none⟩) (len - 2) (cap - 2)), (1, 44, .int .i64 (nn : Int)), (2, 45, .slice (some ⟨gb, o, none⟩) nn (cap - 2)), (3, 46, .slice (some ⟨gb, o, none⟩) (len - 2) (cap - 2)), (4, 47, .int .i64 (nn : Int)), (5, 48, .slice (some ⟨gb, o', none⟩) (len - 2 - nn) (cap - 2 - nn)), (6, 2, .slice (some ⟨gb, o, none⟩) nn (cap - 2)), (7, 3, .slice (some ⟨gb, o', none⟩) (len - 2 - nn) (cap - 2 - nn)), (8, 4, .nilIface)] [] [] [] ?_ ?_
    · refine oc g_mv ?_
      refine oc g_mv ?_
      refine oc (g_sl (fun uZ => hsh uZ)) ?_
      refine oc g_mv ?_
      refine oc g_mv ?_
      refine oc (g_sl (fun uZ => hsl2 uZ)) ?_
      refine oc g_as ?_
      refine oc g_as ?_
      exact oc g_as on
    intro u2 hB2 sz2 K2
    simp only [setG, setN, List.set_cons_zero, List.set_cons_succ]
    go_wp2
    exact bodyPost_ret (v := .tuple #[.slice (some ⟨gb, o, none⟩) nn (cap - 2), .slice (some ⟨gb, o', none⟩) (len - 2 - nn) (cap - 2 - nn), .nilIface]) (by simp [results, Tryd.results46, go_sem]) rfl ⟨hB2, .inr ⟨by omega, o, o', ho, ho', rfl⟩⟩
set_option maxRecDepth 100000 in
theorem cFirst_short (sl : Option Addr) (len cap : Nat) (w : World) (hG : GW w) (h2 : len < 2) :
    Calls Tryd.prog 46 #[.slice sl len cap] w fun e u => Below w.heap.size w u ∧ ∃ y, e = .returned (.tuple #[.slice none 0 0, .slice none 0 0, y]) ∧ EW 80 y := by
  have hl2 : (len : Int) < 2 := by omega
  have hI := cItoa (len : Int) w (by omega) (by omega) hG
  go_enter Tryd.func46, Tryd.ntmps46
  go_wp2_with (go_at_call 35; refine hI.mono ?_; clear hI; rintro e ua ⟨s, rfl, hs, hBa⟩; have hw1 : ¬ 9223372036854775807 < 12 + s.size := (by omega); have hw2 : ¬ 9223372036854775807 < 12 + s.size + 6 := (by omega))
  exact bodyPost_ret (v := .tuple #[.slice none 0 0, .slice none 0 0, .iface 62 (.agg #[.string (⟨#[97, 32, 108, 101, 110, 103, 116, 104, 32, 111, 102, 32]⟩ ++ s ++ ⟨#[32, 98, 121, 116, 101, 115]⟩), .iface 25 (.int .i64 80)])]) (by simp [results, Tryd.results46, go_sem]) rfl ⟨hBa, _, rfl, .wrap _ _ .leaf⟩
theorem IN_cutm {u : World} {m gb go len cap d k : Nat} {bs : List Nat} {sl : Option Addr} (hs : SB u gb go bs) (hb : bs.length = len) (h1 : d ≤ k) (h2 : k ≤ len) (hc : len ≤ cap) (hsl : k - d = 0 ∨ sl = some ⟨gb, go + d, none⟩) (hg : gb < m) : IN u m (.slice sl (k - d) (cap - d)) ((bs.drop d).take (k - d)) := by
  have hl : ((bs.drop d).take (k - d)).length = k - d := by rw [List.length_take, List.length_drop]; omega
  refine ⟨sl, cap - d, gb, go + d, by rw [hl], by rw [hl]; omega, by rw [hl]; exact hsl, hg, fun j hj => ?_⟩
  rw [hl] at hj
  rw [gtake _ _ hj, gdrop, Nat.add_assoc]
  exact hs (d + j) (by omega)
/-- firstOf: what stands behind its length, and what is left. -/
theorem cFirst_ok (bs : List Nat) (n : Nat) (v : Value) (w : World) (m : Nat) (hG : GW w) (hm : m ≤ w.heap.size) (h : IN w m v bs) (hx : ∀ x ∈ bs, x < 256) (hl : bs.length ≤ 100000) (h2 : 2 ≤ bs.length) (hn : 256 * bs.getD 0 0 + bs.getD 1 0 = n) (hn2 : n ≤ bs.length - 2) :
    Calls Tryd.prog 46 #[v] w fun e u => ∃ ad n1 c1 s2 n2 c2, e = .returned (.tuple #[.slice (some ad) n1 c1, .slice s2 n2 c2, .nilIface]) ∧ IN u m (.slice (some ad) n1 c1) ((bs.drop 2).take n) ∧ IN u m (.slice s2 n2 c2) (bs.drop (2 + n)) ∧ Below w.heap.size w u := by
  obtain ⟨sl, cap, gb, go, rfl, k1, k2, k3, k4⟩ := h
  obtain rfl := k2.resolve_left (by omega)
  refine (cFirst_core gb go bs.length cap (bs.getD 0 0) (bs.getD 1 0) n w hG k1 h2 hl (Nat.lt_of_lt_of_le k3 hm) (k4 0 (by omega)) (k4 1 (by omega)) (getD_lt256 hx 0) (getD_lt256 hx 1) hn).mono ?_
  rintro e u ⟨hB, h⟩
  rcases h with ⟨h, _⟩ | ⟨_, o, o', ho, ho', rfl⟩
  · exact absurd h (by omega)
  · have hs : SB u gb go bs := fun j hj => (hB.cell (p := ⟨gb, go + j, none⟩) (Nat.lt_of_lt_of_le k3 hm)).trans (k4 j hj)
    refine ⟨_, _, _, _, _, _, rfl, ?_, ?_, hB⟩
    · have := IN_cutm (m := m) (sl := some ⟨gb, o, none⟩) (cap := cap) (d := 2) (k := 2 + n) hs rfl (by omega) (by omega) k1 (by
        by_cases e : n = 0
        · exact .inl (by omega)
        · exact .inr (by rw [ho.resolve_left (by omega)])) k3
      rwa [show 2 + n - 2 = n by omega] at this
    · have := IN_cutm (m := m) (sl := some ⟨gb, o', none⟩) (cap := cap) (d := 2 + n) (k := bs.length) hs rfl (by omega) (by omega) k1 (by
        by_cases e : bs.length - 2 - n = 0
        · exact .inl (by omega)
        · exact .inr (by rw [ho'.resolve_left e, ho.resolve_left (by omega), Nat.add_assoc])) k3
      rw [List.take_of_length_le (by rw [List.length_drop]; omega)] at this
      rw [show bs.length - 2 - n = bs.length - (2 + n) by omega, show cap - 2 - n = cap - (2 + n) by omega]
      exact this
/-- firstOf: no such bytes. -/
theorem cFirst_bad (bs : List Nat) (v : Value) (w : World) (hG : GW w) (h : IN w w.heap.size v bs) (hx : ∀ x ∈ bs, x < 256) (hl : bs.length ≤ 100000) (hn : bs.length < 2 ∨ bs.length - 2 < 256 * bs.getD 0 0 + bs.getD 1 0) :
    Calls Tryd.prog 46 #[v] w fun e u => ∃ y, e = .returned (.tuple #[.slice none 0 0, .slice none 0 0, y]) ∧ EW 80 y ∧ Below w.heap.size w u := by
  obtain ⟨sl, cap, gb, go, rfl, k1, k2, k3, k4⟩ := h
  by_cases h2 : bs.length < 2
  · refine (cFirst_short sl bs.length cap w hG h2).mono ?_
    rintro e u ⟨hB, y, rfl, hy⟩
    exact ⟨y, rfl, hy, hB⟩
  · obtain rfl := k2.resolve_left (by omega)
    refine (cFirst_core gb go bs.length cap (bs.getD 0 0) (bs.getD 1 0) _ w hG k1 (by omega) hl k3 (k4 0 (by omega)) (k4 1 (by omega)) (getD_lt256 hx 0) (getD_lt256 hx 1) rfl).mono ?_
    rintro e u ⟨hB, h⟩
    rcases h with ⟨_, y, rfl, hy⟩ | ⟨h, _⟩
    · exact ⟨y, rfl, hy, hB⟩
    · exact absurd h (by omega)
end Go.Proofs.YtjekkdckjnlkcaaDoor
