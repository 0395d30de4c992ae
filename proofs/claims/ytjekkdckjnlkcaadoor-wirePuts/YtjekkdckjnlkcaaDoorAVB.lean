/- Wire: listing. -/
import Derived.Test.YtjekkdckjnlkcaaDoorAWX
namespace Go.Proofs.YtjekkdckjnlkcaaDoor
open Go.RowKit
set_option linter.unusedVariables false
set_option linter.unusedSimpArgs false
set_option maxRecDepth 100000 in
theorem mkC (m : Nat) (hm : m ≤ 1000000) (w : World) : (Instr.makeSlice 24 (.int .i64 0) (.int .i64 (m : Int))).run Tryd.prog w = .ok (.slice (some ⟨w.heap.size, 0, none⟩) 0 m) (w.alloc (.cells (U8 (List.replicate m 0)).toArray 5)) := by
  obtain ⟨i, hi, hi2⟩ := Option.map_eq_some_iff.1 infoB
  simp only [Prod.mk.injEq] at hi2
  obtain ⟨hz, hs, hb⟩ := hi2
  have := run_makeSlice (P := Tryd.prog) w 24 5 i (.int .u8 0) Tryd.underlying24 hi hz .i64 .i64 0 m (by omega) (by omega) (by rw [hs]; omega) (by rw [hb]; omega) (by omega)
  rw [this, hs]
  simp only [Int.toNat_natCast, Nat.mul_one, Int.toNat_zero]
  congr 4
  apply Array.ext'
  simp [madeCells, U8, Value.cells]
  apply List.ext_getElem
  · simp
  · intro j h1 h2; simp [Nat.mod_one]
set_option maxRecDepth 100000 in
set_option maxHeartbeats 1000000 in
theorem cListing_core (n gcap : Nat) (gsl : Option Addr) (pS oS : Nat → List Nat) (ev : Int) (xs : List Nat) (w : World) (hG : GW w) (hz : 0 < w.heap.size) (hn : n ≤ 257)
    (hrow : Hid (0 < n → ∃ gl go, gsl = some ⟨gl, go, none⟩ ∧ gl < w.heap.size ∧ ∀ i, i < n → ∃ sv cv, w.cell? ⟨gl, go + i, none⟩ = some (.slice sv (pS i).length cv) ∧ IN w w.heap.size (.slice sv (pS i).length cv) (pS i)))
    (hpl : Hid (∀ i, i < n → (pS i).length ≤ 4097)) (ho0 : Hid (oS 0 = [])) (hos : Hid (∀ i, i < n → oS (i + 1) = (oS i ++ [(pS i).length / 256, (pS i).length % 256]) ++ pS i)) (hle : Hid (∀ i, i ≤ n → (oS i).length ≤ (oS n).length)) (hbig : (oS n).length ≤ 1100000)
    (hE1 : 256 < n → ev = 3 ∧ xs = []) (hE3 : Hid (n ≤ 256 → 4096 < (oS n).length → ev = 3 ∧ xs = [])) (hE4 : Hid (n ≤ 256 → (oS n).length ≤ 4096 → ev = 0 ∧ xs = oS n)) :
    Calls Tryd.prog 38 #[.slice gsl n gcap] w fun e u => ∃ y er, e = .returned (.tuple #[y, er]) ∧ EO ev er ∧ IN u u.heap.size y xs ∧ Below w.heap.size w u := by
  have hA := cAtMost ⟨#[109, 101, 109, 98, 101, 114, 115]⟩ (n : Int) 256 w hG (by omega) (by omega) (by decide)
  by_cases hn1 : 256 < n
  · obtain ⟨rfl, rfl⟩ := hE1 hn1
    rw [if_pos (by omega)] at hA
    go_enter Tryd.func38, Tryd.ntmps38
    go_wp2_with (go_at_call 39; refine hA.mono ?_; clear hA; rintro e ua ⟨y, rfl, hy, hBa⟩; obtain ⟨hEy, T, x, rfl⟩ := hy.some (by decide); replace hy : Hid _ := hy; replace hEy : Hid _ := hEy)
    exact bodyPost_ret (v := .tuple #[.slice none 0 0, .iface T x]) (by simp [results, Tryd.results38, go_sem]) rfl ⟨_, _, rfl, hy.out, IN_nil _ (by have := hBa.size; omega), hBa⟩
  · rw [if_neg (by omega)] at hA
    go_enter Tryd.func38, Tryd.ntmps38
    go_wp2_with (first | (go_at_call 39; refine hA.mono ?_; clear hA; rintro e ua ⟨y, rfl, hy, hBa⟩; obtain ⟨_, rfl⟩ : (0 : Int) = 0 ∧ y = .nilIface := hy.resolve_right (fun h => h.1 rfl)) | fail)
    go_loopw [20, 5] (fun s20 s5 wr => ∃ i : Nat, i ≤ n ∧ s20 = .int .i64 (i : Int) ∧ s5 = .int .i64 ((oS i).length : Int) ∧ Below w.heap.size w wr) (fun s20 _ _ => n - (intOf s20).toNat)
    case atStart => exact ⟨0, by omega, rfl, by rw [ho0.out]; rfl, hBa⟩
    case round =>
      obtain ⟨i, hi, rfl, rfl, HBr⟩ := hrel
      have hsw := HBr.size
      have hli := hle.out i hi
      by_cases hj : i < n
      · have hl2 : (i : Int) < (n : Int) := by omega
        obtain ⟨gl, go, rfl, hgl, hcl⟩ := hrow.out (by omega)
        obtain ⟨sv, cv, hc2, hinp⟩ := hcl i hj
        have hO := congrArg List.length (hos.out i hj)
        rw [List.length_append, List.length_append] at hO
        have hp := hpl.out i hj
        have e1 : IntKind.i64.wrap ((i : Int) + 1) = ((i + 1 : Nat) : Int) := by rw [IntKind.wrap_i64]; omega
        have hd2 : wr.cell? ⟨gl, go + i, none⟩ = some (.slice sv (pS i).length cv) := (HBr.cell (p := ⟨gl, go + i, none⟩) hgl).trans hc2
        obtain ⟨k, ek⟩ : ∃ x, (pS i).length = x := ⟨_, rfl⟩
        obtain ⟨m, em⟩ : ∃ x, (oS i).length = x := ⟨_, rfl⟩
        obtain ⟨m2, em2⟩ : ∃ x, (oS (i + 1)).length = x := ⟨_, rfl⟩
        rw [ek] at hd2 hp
        rw [ek, em, em2] at hO
        rw [em] at hli
        rw [em]
        simp at hO
        have e2 : IntKind.i64.wrap (2 + (k : Int)) = 2 + (k : Int) := by rw [IntKind.wrap_i64]; omega
        have e3 : IntKind.i64.wrap ((m : Int) + (2 + (k : Int))) = (m2 : Int) := by rw [IntKind.wrap_i64]; omega
        clear hcl hinp ek em hc2 hO
        go_wp2
        refine ⟨⟨i + 1, by omega, rfl, by rw [em2], HBr⟩, ?_⟩
        simp [intOf]; omega
      · have hl2 : ¬ (i : Int) < (n : Int) := by omega
        obtain rfl : i = n := by omega
        have hGr := hG.below HBr
        have hA2 := cAtMost ⟨#[98, 121, 116, 101, 115, 32, 111, 102, 32, 97, 32, 108, 105, 115, 116]⟩ ((oS i).length : Int) 4096 wr hGr (by omega) (by omega) (by decide)
        obtain ⟨S, eS⟩ : ∃ x, (oS i).length = x := ⟨_, rfl⟩
        rw [eS] at hA2 hbig hli
        rw [eS]
        by_cases hS : 4096 < S
        · obtain ⟨rfl, rfl⟩ := hE3.out (by omega) (by omega)
          rw [if_pos (by omega)] at hA2
          go_wp2_with (go_at_call 39; refine hA2.mono ?_; clear hA2; rintro e ub ⟨y, rfl, hy, hBb⟩; obtain ⟨hEy, T, x, rfl⟩ := hy.some (by decide); replace hy : Hid _ := hy; replace hEy : Hid _ := hEy)
          exact bodyPost_ret (v := .tuple #[.slice none 0 0, .iface T x]) (by simp [results, Tryd.results38, go_sem]) rfl ⟨_, _, rfl, hy.out, IN_nil _ (by have := hBb.size; omega), bstep HBr hBb⟩
        · obtain ⟨rfl, rfl⟩ := hE4.out (by omega) (by omega)
          rw [if_neg (by omega)] at hA2
          have hmk := mkC S (by omega)
          go_wp2_with (first | (go_at_call 39; refine hA2.mono ?_; clear hA2; rintro e ub ⟨y, rfl, hy, hBb⟩; obtain ⟨_, rfl⟩ : (0 : Int) = 0 ∧ y = .nilIface := hy.resolve_right (fun h => h.1 rfl)) | fail)
          obtain ⟨wo, rfl⟩ : ∃ x, x = wr := ⟨_, rfl⟩
          have hsb := hBb.size
          have HBb : Below w.heap.size w ub := bstep HBr hBb
          go_loopw [39, 9] (fun s39 s9 wx => ∃ (j bo m co : Nat) (zs : List Value), j ≤ i ∧ s39 = .int .i64 (j : Int) ∧ s9 = .slice (some ⟨bo, 0, none⟩) m co ∧ (oS j).length = m ∧ m ≤ 4096 ∧ m ≤ co ∧ zs.length = co - m ∧ w.heap.size ≤ bo ∧ bo < wx.heap.size ∧ Hid (CV wx bo (U8 (oS j) ++ zs)) ∧ Below w.heap.size w wx) (fun s39 _ _ => i - (intOf s39).toNat)
          case atStart => exact ⟨0, ub.heap.size, 0, S, U8 (List.replicate S 0), by omega, rfl, rfl, by rw [ho0.out]; rfl, by omega, by omega, by rw [U8_len]; simp, by omega, by simp, (by rw [ho0.out]; exact CV.new _ _ _), balloc HBb _⟩
          case round =>
            obtain ⟨j, bo, m, co, zs, hji, rfl, rfl, hml, hm4, hmc, hzl, hlo, hlt, Kv, HBx⟩ := hrel
            have hsx := HBx.size
            by_cases hj2 : j < i
            · have hl3 : (j : Int) < (i : Int) := by omega
              obtain ⟨gl, go, rfl, hgl, hcl⟩ := hrow.out (by omega)
              obtain ⟨sv, cv, hc2, hinp⟩ := hcl j hj2
              have hO := hos.out j hj2
              have hlj := hle.out (j + 1) (by omega)
              have hp := hpl.out j hj2
              have e1 : IntKind.i64.wrap ((j : Int) + 1) = ((j + 1 : Nat) : Int) := by rw [IntKind.wrap_i64]; omega
              have hd2 : wr.cell? ⟨gl, go + j, none⟩ = some (.slice sv (pS j).length cv) := (HBx.cell (p := ⟨gl, go + j, none⟩) hgl).trans hc2
              have hW := cWith (oS j) (pS j) zs bo m co w.heap.size _ wr hlo hsx hlt Kv.out hml hmc hzl (by omega) (hinp.below HBx) (by omega)
              rw [← hO] at hW
              have hOl := congrArg List.length hO
              rw [List.length_append, List.length_append] at hOl
              obtain ⟨k, ek⟩ : ∃ x, (pS j).length = x := ⟨_, rfl⟩
              obtain ⟨o2, eo2⟩ : ∃ x, oS (j + 1) = x := ⟨_, rfl⟩
              rw [ek] at hd2 hp hW
              rw [eo2] at hW hlj
              rw [ek, eo2, hml] at hOl
              simp at hOl
              replace hO : Hid _ := hO
              replace eo2 : Hid _ := eo2
              replace hOl : Hid (o2.length = _) := hOl
              clear hcl hinp ek hc2 Kv
              go_wp2_with (go_at_call 41; refine hW.mono ?_; clear hW; rintro e uc ⟨v2, rfl, ⟨b2, c2, z2, rfl, f1, f2, f3, f4, f5⟩, hBc⟩; replace f5 : Hid (CV uc b2 (U8 o2 ++ z2)) := f5)
              have hOl := hOl.out
              refine ⟨⟨j + 1, b2, m + 2 + k, c2, z2, by omega, rfl, rfl, by rw [eo2.out]; omega, by omega, f3, by omega, by omega, f2, (by rw [eo2.out]; exact f5), HBx.trans hBc⟩, ?_⟩
              simp [intOf]; omega
            · have hl3 : ¬ (j : Int) < (i : Int) := by omega
              obtain rfl : j = i := by omega
              go_wp2
              exact bodyPost_ret (v := .tuple #[.slice (some ⟨bo, 0, none⟩) m co, .nilIface]) (by simp [results, Tryd.results38, go_sem]) rfl ⟨_, _, rfl, .inl ⟨rfl, rfl⟩, ⟨_, co, bo, 0, by rw [hml], by rw [hml]; exact hmc, .inr rfl, hlt, fun x hx => by rw [Nat.zero_add]; exact ((CV.pre2 Kv.out) x _ (U8_get _ x hx)).1⟩, HBx⟩
end Go.Proofs.YtjekkdckjnlkcaaDoor
