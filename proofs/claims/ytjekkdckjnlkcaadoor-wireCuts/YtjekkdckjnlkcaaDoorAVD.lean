/- Wire: putting. -/
import Derived.Test.YtjekkdckjnlkcaaDoorAVC
namespace Go.Proofs.YtjekkdckjnlkcaaDoor
open Go.RowKit
set_option linter.unusedVariables false
set_option linter.unusedSimpArgs false
theorem bs1b (x : Nat) (w : World) : (Instr.buildSlice 24 1 #[(0, .int .u8 (x : Int))]).run Tryd.prog w = .ok (.slice (some ⟨w.heap.size, 0, none⟩) 1 1) (w.alloc (.cells #[.int .u8 (x : Int)] 5)) := by kernel_rfl
set_option maxRecDepth 100000 in
set_option maxHeartbeats 16000000 in
theorem cPutting_core (n gcap : Nat) (gsl : Option Addr) (tg la : Nat → Int) (pS oS : Nat → List Nat) (ev evv : Int) (xs : List Nat) (w : World) (hG : GW w) (hz : 0 < w.heap.size) (hn : n ≤ 257)
    (hrow : Hid (0 < n → ∃ gl go, gsl = some ⟨gl, go, none⟩ ∧ gl < w.heap.size ∧ ∀ i, i < n → w.cell? ⟨gl, go + 2 * i, none⟩ = some (.int .i64 (tg i)) ∧ ∃ sv cv, w.cell? ⟨gl, go + 2 * i + 1, none⟩ = some (.slice sv (pS i).length cv) ∧ IN w w.heap.size (.slice sv (pS i).length cv) (pS i)))
    (hval : Hid (∀ u, Below w.heap.size w u → Calls Tryd.prog 40 #[.slice gsl n gcap] u fun e u' => ∃ y, e = .returned y ∧ EO evv y ∧ Below u.heap.size u u'))
    (hpl : Hid (∀ i, i < n → (pS i).length ≤ 4097)) (ho0 : Hid (oS 0 = [])) (hos : Hid (∀ i, i < n → oS (i + 1) = (oS i ++ [(tg i).toNat, (pS i).length / 256, (pS i).length % 256]) ++ pS i)) (hle : Hid (∀ i, i ≤ n → (oS i).length ≤ (oS n).length)) (hbig : (oS n).length ≤ 1100000)
    (hE1 : 256 < n → ev = 3 ∧ xs = []) (hE2 : Hid (n ≤ 256 → evv ≠ 0 → ev = evv ∧ xs = [])) (hE3 : Hid (n ≤ 256 → evv = 0 → 4096 < (oS n).length → ev = 3 ∧ xs = [])) (hE4 : Hid (n ≤ 256 → evv = 0 → (oS n).length ≤ 4096 → ev = 0 ∧ xs = oS n))
    (htg : Hid (evv = 0 → ∀ i, i < n → 0 ≤ tg i ∧ tg i ≤ 255)) :
    Calls Tryd.prog 32 #[.slice gsl n gcap] w fun e u => ∃ y er, e = .returned (.tuple #[y, er]) ∧ EO ev er ∧ IN u u.heap.size y xs ∧ Below w.heap.size w u := by
  have hA := cAtMost ⟨#[102, 105, 101, 108, 100, 115]⟩ (n : Int) 256 w hG (by omega) (by omega) (by decide)
  by_cases hn1 : 256 < n
  · obtain ⟨rfl, rfl⟩ := hE1 hn1
    rw [if_pos (by omega)] at hA
    go_enter Tryd.func32, Tryd.ntmps32
    go_wp2_with (go_at_call 39; refine hA.mono ?_; clear hA; rintro e ua ⟨y, rfl, hy, hBa⟩; obtain ⟨hEy, T, x, rfl⟩ := hy.some (by decide); replace hy : Hid _ := hy; replace hEy : Hid _ := hEy)
    exact bodyPost_ret (v := .tuple #[.slice none 0 0, .iface T x]) (by simp [results, Tryd.results32, go_sem]) rfl ⟨_, _, rfl, hy.out, IN_nil _ (by have := hBa.size; omega), hBa⟩
  rw [if_neg (by omega)] at hA
  by_cases hv0 : evv = 0
  · subst hv0
    go_enter Tryd.func32, Tryd.ntmps32
    go_wp2_with (first
      | (go_at_call 39; refine hA.mono ?_; clear hA; rintro e ua ⟨y, rfl, hy, hBa⟩; obtain ⟨_, rfl⟩ : (0 : Int) = 0 ∧ y = .nilIface := hy.resolve_right (fun h => h.1 rfl); have hVa := hval.out ua hBa)
      | (go_at_call 40; refine hVa.mono ?_; clear hVa; rintro e ub ⟨y, rfl, hy2, hBb0⟩; obtain ⟨_, rfl⟩ : (0 : Int) = 0 ∧ y = .nilIface := hy2.resolve_right (fun h => h.1 rfl)))
    have hBb := bstep hBa hBb0
    clear hBb0 hBa
    go_loopw [26, 6] (fun s26 s6 wr => ∃ i : Nat, i ≤ n ∧ s26 = .int .i64 (i : Int) ∧ s6 = .int .i64 ((oS i).length : Int) ∧ Below w.heap.size w wr) (fun s26 _ _ => n - (intOf s26).toNat)
    case atStart => exact ⟨0, by omega, rfl, by rw [ho0.out]; rfl, hBb⟩
    case round =>
      obtain ⟨i, hi, rfl, rfl, HBr⟩ := hrel
      have hsw := HBr.size
      have hli := hle.out i hi
      by_cases hj : i < n
      · have hl2 : (i : Int) < (n : Int) := by omega
        obtain ⟨gl, go, rfl, hgl, hcl⟩ := hrow.out (by omega)
        obtain ⟨hc1, sv, cv, hc2, hinp⟩ := hcl i hj
        have hO := congrArg List.length (hos.out i hj)
        rw [List.length_append, List.length_append] at hO
        have hp := hpl.out i hj
        have e1 : IntKind.i64.wrap ((i : Int) + 1) = ((i + 1 : Nat) : Int) := by rw [IntKind.wrap_i64]; omega
        have hd1 : wr.cell? ⟨gl, go + 2 * i, none⟩ = some (.int .i64 (tg i)) := (HBr.cell (p := ⟨gl, go + 2 * i, none⟩) hgl).trans hc1
        have hd2 : wr.cell? ⟨gl, go + 2 * i + 1, none⟩ = some (.slice sv (pS i).length cv) := (HBr.cell (p := ⟨gl, go + 2 * i + 1, none⟩) hgl).trans hc2
        obtain ⟨k, ek⟩ : ∃ x, (pS i).length = x := ⟨_, rfl⟩
        obtain ⟨m, em⟩ : ∃ x, (oS i).length = x := ⟨_, rfl⟩
        obtain ⟨m2, em2⟩ : ∃ x, (oS (i + 1)).length = x := ⟨_, rfl⟩
        rw [ek] at hd2 hp
        rw [ek, em, em2] at hO
        rw [em] at hli
        rw [em]
        rw [Nat.mul_comm] at hd1 hd2
        simp at hO
        have e2 : IntKind.i64.wrap (3 + (k : Int)) = 3 + (k : Int) := by rw [IntKind.wrap_i64]; omega
        have e3 : IntKind.i64.wrap ((m : Int) + (3 + (k : Int))) = (m2 : Int) := by rw [IntKind.wrap_i64]; omega
        clear hcl hinp ek em hc2 hc1 hO
        go_wp2
        refine ⟨⟨i + 1, by omega, rfl, by rw [em2], balloc HBr _⟩, ?_⟩
        simp [intOf]; omega
      · have hl2 : ¬ (i : Int) < (n : Int) := by omega
        obtain rfl : i = n := by omega
        have hGr := hG.below HBr
        have hA2 := cAtMost ⟨#[98, 121, 116, 101, 115, 32, 111, 102, 32, 97, 32, 118, 97, 108, 117, 101]⟩ ((oS i).length : Int) 4096 wr hGr (by omega) (by omega) (by decide)
        obtain ⟨S, eS⟩ : ∃ x, (oS i).length = x := ⟨_, rfl⟩
        rw [eS] at hA2 hbig hli
        rw [eS]
        by_cases hS : 4096 < S
        · obtain ⟨rfl, rfl⟩ := hE3.out (by omega) (by trivial) (by omega)
          rw [if_pos (by omega)] at hA2
          go_wp2_with (go_at_call 39; refine hA2.mono ?_; clear hA2; rintro e uc ⟨y, rfl, hy3, hBc⟩; obtain ⟨hEy, T, x, rfl⟩ := hy3.some (by decide); replace hy3 : Hid _ := hy3; replace hEy : Hid _ := hEy)
          exact bodyPost_ret (v := .tuple #[.slice none 0 0, .iface T x]) (by simp [results, Tryd.results32, go_sem]) rfl ⟨_, _, rfl, hy3.out, IN_nil _ (by have := hBc.size; omega), bstep HBr hBc⟩
        · obtain ⟨rfl, rfl⟩ := hE4.out (by omega) (by trivial) (by omega)
          rw [if_neg (by omega)] at hA2
          have hmk := mkC S (by omega)
          go_wp2_with (first | (go_at_call 39; refine hA2.mono ?_; clear hA2; rintro e ud ⟨y, rfl, hy3, hBd⟩; obtain ⟨_, rfl⟩ : (0 : Int) = 0 ∧ y = .nilIface := hy3.resolve_right (fun h => h.1 rfl)) | fail)
          obtain ⟨wo, rfl⟩ : ∃ x, x = wr := ⟨_, rfl⟩
          have hsd := hBd.size
          have HBd : Below w.heap.size w ud := bstep HBr hBd
          go_loopw [46, 10] (fun s46 s10 wx => ∃ (j bo m co : Nat) (zs : List Value), j ≤ i ∧ s46 = .int .i64 (j : Int) ∧ s10 = .slice (some ⟨bo, 0, none⟩) m co ∧ (oS j).length = m ∧ m ≤ 4096 ∧ m ≤ co ∧ zs.length = co - m ∧ w.heap.size ≤ bo ∧ bo < wx.heap.size ∧ Hid (CV wx bo (U8 (oS j) ++ zs)) ∧ Below w.heap.size w wx) (fun s46 _ _ => i - (intOf s46).toNat)
          case atStart => exact ⟨0, ud.heap.size, 0, S, U8 (List.replicate S 0), by omega, rfl, rfl, by rw [ho0.out]; rfl, by omega, by omega, by rw [U8_len]; simp, by omega, by simp, (by rw [ho0.out]; exact CV.new _ _ _), balloc HBd _⟩
          case round =>
            obtain ⟨j, bo, m, co, zs, hji, rfl, rfl, hml, hm4, hmc, hzl, hlo, hlt, Kv, HBx⟩ := hrel
            have hsx := HBx.size
            by_cases hj2 : j < i
            · have hl3 : (j : Int) < (i : Int) := by omega
              obtain ⟨gl, go, rfl, hgl, hcl⟩ := hrow.out (by omega)
              obtain ⟨hc1, sv, cv, hc2, hinp⟩ := hcl j hj2
              have hO := hos.out j hj2
              have hlj := hle.out (j + 1) (by omega)
              have hp := hpl.out j hj2
              have htj := htg.out (by trivial) j hj2
              have e1 : IntKind.i64.wrap ((j : Int) + 1) = ((j + 1 : Nat) : Int) := by rw [IntKind.wrap_i64]; omega
              have hd1 : wr.cell? ⟨gl, go + 2 * j, none⟩ = some (.int .i64 (tg j)) := (HBx.cell (p := ⟨gl, go + 2 * j, none⟩) hgl).trans hc1
              have hd2 : wr.cell? ⟨gl, go + 2 * j + 1, none⟩ = some (.slice sv (pS j).length cv) := (HBx.cell (p := ⟨gl, go + 2 * j + 1, none⟩) hgl).trans hc2
              obtain ⟨tn, etn⟩ : ∃ x : Nat, tg j = (x : Int) := ⟨(tg j).toNat, by omega⟩
              obtain ⟨ps, eps⟩ : ∃ x, pS j = x := ⟨_, rfl⟩
              obtain ⟨ol, eol⟩ : ∃ x, oS j = x := ⟨_, rfl⟩
              rw [etn] at hO hd1 htj
              rw [eps] at hO hd2 hinp hp
              rw [eol] at hO hml Kv
              rw [Int.toNat_natCast] at hO
              obtain ⟨k, ek⟩ : ∃ x, ps.length = x := ⟨_, rfl⟩
              have hw8 : IntKind.u8.wrap (tn : Int) = (tn : Int) := wraps_u8 _ (by omega) (by omega)
              rw [Nat.mul_comm] at hd1 hd2
              have hO2 : Hid (oS (j + 1) = ((ol ++ [tn]) ++ [ps.length / 256, ps.length % 256]) ++ ps) := by show _ = _; rw [hO]; simp
              have hnl : Hid ((oS (j + 1)).length = m + 1 + 2 + k) := by
                have := congrArg List.length hO2.out
                rw [this, List.length_append, List.length_append, List.length_append, hml, ek]; rfl
              rw [hnl.out] at hlj
              rw [ek] at hd2
              -- the field's own block
              obtain ⟨uq, euq⟩ : ∃ x, wr.alloc (.cells #[.int .i64 (tn : Int), .slice sv k cv] 54) = x := ⟨_, rfl⟩
              have hBq : Below wr.heap.size wr uq := by rw [← euq]; exact balloc (bself wr) _
              have hsq : uq.heap.size = wr.heap.size + 1 := by rw [← euq]; simp
              have hq1 : uq.cell? ⟨wr.heap.size, 0, none⟩ = some (.int .i64 (tn : Int)) := by rw [← euq]; simp
              have hq2 : uq.cell? ⟨wr.heap.size, 1, none⟩ = some (.slice sv k cv) := by rw [← euq]; simp
              obtain ⟨ue, eud⟩ : ∃ x, World.drew uq = x := ⟨_, rfl⟩
              have hBu : Below uq.heap.size uq ue := by rw [← eud]; exact (Below.refl _ _).drew
              have hsu : ue.heap.size = wr.heap.size + 1 := by rw [← eud]; exact hsq
              have hz1 : ue.cell? ⟨wr.heap.size, 0, none⟩ = some (.int .i64 (tn : Int)) := (hBu.cell (p := ⟨wr.heap.size, 0, none⟩) (by simp [hsq])).trans hq1
              have hz2 : ue.cell? ⟨wr.heap.size, 1, none⟩ = some (.slice sv k cv) := (hBu.cell (p := ⟨wr.heap.size, 1, none⟩) (by simp [hsq])).trans hq2
              have hBwu : Below wr.heap.size wr ue := bstep hBq hBu
              have hBn : Below ue.heap.size ue (ue.alloc (.cells #[.int .u8 (tn : Int)] 5)) := balloc (bself ue) _
              have hz2n : (ue.alloc (.cells #[.int .u8 (tn : Int)] 5)).cell? ⟨wr.heap.size, 1, none⟩ = some (.slice sv k cv) := (hBn.cell (p := ⟨wr.heap.size, 1, none⟩) (by simp [hsu])).trans hz2
              obtain ⟨v1, ua, r1, rg1, b1, c1, z1, rfl, g1, g2, g3, g4, g5⟩ := app_row (ty := 24) ((Kv.out.below hBwu hlt).below hBn (by omega)) (by simp; omega) hml (m := 1) rfl hmc hzl (by omega) (NW_one ue tn)
              have hz2a : ua.cell? ⟨wr.heap.size, 1, none⟩ = some (.slice sv k cv) := by
                have hk : ua.heap[wr.heap.size]? = (ue.alloc (.cells #[.int .u8 (tn : Int)] 5)).heap[wr.heap.size]? := rg1.block _ (by simp; omega) (fun e => by cases e; omega)
                rw [World.cell?_of_block (a := ⟨wr.heap.size, 1, none⟩) hk]; exact hz2n
              have hBwn : Below w.heap.size w (ue.alloc (.cells #[.int .u8 (tn : Int)] 5)) := balloc (bstep HBx hBwu) _
              have hBwa : Below w.heap.size w ua := hBwn.grown rg1 (by have := hBwn.size; omega) (fun j e => by cases e; exact hlo)
              rw [Nat.mul_one] at g4
              have hsn : (ue.alloc (.cells #[.int .u8 (tn : Int)] 5)).heap.size = wr.heap.size + 2 := by simp [hsu]
              rw [hsn] at g1
              have hsa := rg1.size
              rw [hsn] at hsa
              have hol : (ol ++ [tn]).length = m + 1 := by rw [List.length_append, hml]; rfl
              have hW := cWith (ol ++ [tn]) ps z1 b1 (m + 1) c1 w.heap.size (.slice sv k cv) ua (by omega) hBwa.size g2 g5 hol g3 g4 (by omega) (by have := hinp.below hBwa; rwa [ek] at this) (by omega)
              rw [ek] at hW hO2
              have hbs := bs1b tn
              replace hsu : Hid _ := hsu
              replace hsq : Hid _ := hsq
              replace hsn : Hid _ := hsn
              replace hinp : Hid _ := hinp
              replace hol : Hid _ := hol
              replace g5 : Hid _ := g5
              replace hz1 : ue.cell? ⟨wr.heap.size, 0, none⟩ = some (.int .i64 (tn : Int)) := hz1
              clear hcl hc1 hc2 etn eps eol ek hO Kv hq1 hq2 rg1
              go_wp2_with fail
              refine wp_region_any (by kernel_rfl) ?_
              change wpAny _ _ _ _ _ _ _ (World.drew _)
              rw [eud]
              refine wpAny_take (i := 0) (v := .slice (some ⟨bo, 0, none⟩) m co) rfl (by kernel_rfl) (by kernel_rfl) (by kernel_rfl) (fun _ _ _ h => h) (Or.inl ⟨by rfl, fun w => by go_simp⟩) ?_
              refine wpAny_take (i := 1) (v := .pointer (some ⟨wr.heap.size, 0, none⟩)) rfl (by kernel_rfl) (by kernel_rfl) (by kernel_rfl) (fun _ _ _ h => h) (Or.inl ⟨by rfl, fun w => by go_simp⟩) ?_
              refine wpAny_take (i := 6) (v := .pointer (some ⟨wr.heap.size, 1, none⟩)) rfl (by kernel_rfl) (by kernel_rfl) (by kernel_rfl) (fun _ _ _ h => h) (Or.inl ⟨by rfl, fun w => by go_simp⟩) ?_
              refine wpAny_ready (rs := [2, 7]) (by kernel_rfl) (by simp) ?_
              refine AllReady.cons rfl (fun K hK => ?_) (AllReady.cons rfl (fun K hK => ?_) AllReady.nil)
              · go_simp
                refine hK _ _ ?_
                clear hK K
                refine wpAny_take (i := 3) (v := .int .u8 (tn : Int)) rfl (by kernel_rfl) (by kernel_rfl) (by kernel_rfl) (fun _ _ _ h => h) (Or.inl ⟨by rfl, fun w => by go_simp⟩) ?_
                refine wpAny_ready (rs := [4, 7]) (by kernel_rfl) (by simp) ?_
                refine AllReady.cons rfl (fun K hK => ?_) (AllReady.cons rfl (fun K hK => ?_) AllReady.nil)
                · go_simp
                  refine hK _ _ ?_
                  clear hK K
                  refine wpAny_ready (rs := [5, 7]) (by kernel_rfl) (by simp) ?_
                  refine AllReady.cons rfl (fun K hK => ?_) (AllReady.cons rfl (fun K hK => ?_) AllReady.nil)
                  · refine opw_app rfl _ _ 24 rfl _ _ _ rfl rfl r1 ?_
                    refine hK _ _ ?_
                    clear hK K
                    refine wpAny_ready (rs := [7]) (by kernel_rfl) (by simp) ?_
                    refine AllReady.cons rfl (fun K hK => ?_) AllReady.nil
                    go_simp
                    refine hK _ _ ?_
                    clear hK K
                    refine wpAny_ready (rs := [8]) (by kernel_rfl) (by simp) ?_
                    refine AllReady.cons rfl (fun K hK => ?_) AllReady.nil
                    go_simp
                    refine hW.mono ?_
                    rintro e uc ⟨v2, rfl, ⟨b2, c2, z2, rfl, f1, f2, f3, f4, f5⟩, hBc⟩
                    refine hK _ _ ?_
                    clear hK K
                    refine wpAny_take (i := 9) (v := .slice (some ⟨b2, 0, none⟩) (m + 1 + 2 + k) c2) rfl (by kernel_rfl) (by kernel_rfl) (by kernel_rfl) (fun _ _ _ h => h) (Or.inl ⟨by rfl, fun w => by go_simp⟩) ?_
                    refine wpAny_done (by kernel_rfl) ?_ _
                    rw [← hO2.out] at f5
                    replace f5 : Hid (CV uc b2 (U8 (oS (j + 1)) ++ z2)) := f5
                    go_wp2
                    refine ⟨⟨j + 1, b2, m + 1 + 2 + k, c2, z2, by omega, rfl, rfl, hnl.out, by omega, f3, by omega, by omega, f2, f5, hBwa.trans hBc⟩, ?_⟩
                    simp [intOf]; omega
                  · go_simp
                    refine hK _ _ ?_
                    clear hK K
                    refine wpAny_ready (rs := [5]) (by kernel_rfl) (by simp) ?_
                    refine AllReady.cons rfl (fun K hK => ?_) AllReady.nil
                    refine opw_app rfl _ _ 24 rfl _ _ _ rfl rfl r1 ?_
                    refine hK _ _ ?_
                    clear hK K
                    refine wpAny_ready (rs := [8]) (by kernel_rfl) (by simp) ?_
                    refine AllReady.cons rfl (fun K hK => ?_) AllReady.nil
                    go_simp
                    refine hW.mono ?_
                    rintro e uc ⟨v2, rfl, ⟨b2, c2, z2, rfl, f1, f2, f3, f4, f5⟩, hBc⟩
                    refine hK _ _ ?_
                    clear hK K
                    refine wpAny_take (i := 9) (v := .slice (some ⟨b2, 0, none⟩) (m + 1 + 2 + k) c2) rfl (by kernel_rfl) (by kernel_rfl) (by kernel_rfl) (fun _ _ _ h => h) (Or.inl ⟨by rfl, fun w => by go_simp⟩) ?_
                    refine wpAny_done (by kernel_rfl) ?_ _
                    rw [← hO2.out] at f5
                    replace f5 : Hid (CV uc b2 (U8 (oS (j + 1)) ++ z2)) := f5
                    go_wp2
                    refine ⟨⟨j + 1, b2, m + 1 + 2 + k, c2, z2, by omega, rfl, rfl, hnl.out, by omega, f3, by omega, by omega, f2, f5, hBwa.trans hBc⟩, ?_⟩
                    simp [intOf]; omega
                · go_simp
                  refine hK _ _ ?_
                  clear hK K
                  refine wpAny_ready (rs := [4]) (by kernel_rfl) (by simp) ?_
                  refine AllReady.cons rfl (fun K hK => ?_) AllReady.nil
                  go_simp
                  refine hK _ _ ?_
                  clear hK K
                  refine wpAny_ready (rs := [5]) (by kernel_rfl) (by simp) ?_
                  refine AllReady.cons rfl (fun K hK => ?_) AllReady.nil
                  refine opw_app rfl _ _ 24 rfl _ _ _ rfl rfl r1 ?_
                  refine hK _ _ ?_
                  clear hK K
                  refine wpAny_ready (rs := [8]) (by kernel_rfl) (by simp) ?_
                  refine AllReady.cons rfl (fun K hK => ?_) AllReady.nil
                  go_simp
                  refine hW.mono ?_
                  rintro e uc ⟨v2, rfl, ⟨b2, c2, z2, rfl, f1, f2, f3, f4, f5⟩, hBc⟩
                  refine hK _ _ ?_
                  clear hK K
                  refine wpAny_take (i := 9) (v := .slice (some ⟨b2, 0, none⟩) (m + 1 + 2 + k) c2) rfl (by kernel_rfl) (by kernel_rfl) (by kernel_rfl) (fun _ _ _ h => h) (Or.inl ⟨by rfl, fun w => by go_simp⟩) ?_
                  refine wpAny_done (by kernel_rfl) ?_ _
                  rw [← hO2.out] at f5
                  replace f5 : Hid (CV uc b2 (U8 (oS (j + 1)) ++ z2)) := f5
                  go_wp2
                  refine ⟨⟨j + 1, b2, m + 1 + 2 + k, c2, z2, by omega, rfl, rfl, hnl.out, by omega, f3, by omega, by omega, f2, f5, hBwa.trans hBc⟩, ?_⟩
                  simp [intOf]; omega
              · go_simp
                refine hK _ _ ?_
                clear hK K
                refine wpAny_ready (rs := [2]) (by kernel_rfl) (by simp) ?_
                refine AllReady.cons rfl (fun K hK => ?_) AllReady.nil
                go_simp
                refine hK _ _ ?_
                clear hK K
                refine wpAny_take (i := 3) (v := .int .u8 (tn : Int)) rfl (by kernel_rfl) (by kernel_rfl) (by kernel_rfl) (fun _ _ _ h => h) (Or.inl ⟨by rfl, fun w => by go_simp⟩) ?_
                refine wpAny_ready (rs := [4]) (by kernel_rfl) (by simp) ?_
                refine AllReady.cons rfl (fun K hK => ?_) AllReady.nil
                go_simp
                refine hK _ _ ?_
                clear hK K
                refine wpAny_ready (rs := [5]) (by kernel_rfl) (by simp) ?_
                refine AllReady.cons rfl (fun K hK => ?_) AllReady.nil
                refine opw_app rfl _ _ 24 rfl _ _ _ rfl rfl r1 ?_
                refine hK _ _ ?_
                clear hK K
                refine wpAny_ready (rs := [8]) (by kernel_rfl) (by simp) ?_
                refine AllReady.cons rfl (fun K hK => ?_) AllReady.nil
                go_simp
                refine hW.mono ?_
                rintro e uc ⟨v2, rfl, ⟨b2, c2, z2, rfl, f1, f2, f3, f4, f5⟩, hBc⟩
                refine hK _ _ ?_
                clear hK K
                refine wpAny_take (i := 9) (v := .slice (some ⟨b2, 0, none⟩) (m + 1 + 2 + k) c2) rfl (by kernel_rfl) (by kernel_rfl) (by kernel_rfl) (fun _ _ _ h => h) (Or.inl ⟨by rfl, fun w => by go_simp⟩) ?_
                refine wpAny_done (by kernel_rfl) ?_ _
                rw [← hO2.out] at f5
                replace f5 : Hid (CV uc b2 (U8 (oS (j + 1)) ++ z2)) := f5
                go_wp2
                refine ⟨⟨j + 1, b2, m + 1 + 2 + k, c2, z2, by omega, rfl, rfl, hnl.out, by omega, f3, by omega, by omega, f2, f5, hBwa.trans hBc⟩, ?_⟩
                simp [intOf]; omega
            · have hl3 : ¬ (j : Int) < (i : Int) := by omega
              obtain rfl : j = i := by omega
              go_wp2
              exact bodyPost_ret (v := .tuple #[.slice (some ⟨bo, 0, none⟩) m co, .nilIface]) (by simp [results, Tryd.results32, go_sem]) rfl ⟨_, _, rfl, .inl ⟨rfl, rfl⟩, ⟨_, co, bo, 0, by rw [hml], by rw [hml]; exact hmc, .inr rfl, hlt, fun x hx => by rw [Nat.zero_add]; exact ((CV.pre2 Kv.out) x _ (U8_get _ x hx)).1⟩, HBx⟩
  · obtain ⟨rfl, rfl⟩ := hE2.out (by omega) hv0
    go_enter Tryd.func32, Tryd.ntmps32
    go_wp2_with (first
      | (go_at_call 39; refine hA.mono ?_; clear hA; rintro e ua ⟨y, rfl, hy, hBa⟩; obtain ⟨_, rfl⟩ : (0 : Int) = 0 ∧ y = .nilIface := hy.resolve_right (fun h => h.1 rfl); have hVa := hval.out ua hBa)
      | (go_at_call 40; refine hVa.mono ?_; clear hVa; rintro e ub ⟨y, rfl, hy2, hBb0⟩; obtain ⟨hEy, T, x, rfl⟩ := hy2.some hv0; replace hy2 : Hid _ := hy2; replace hEy : Hid _ := hEy))
    exact bodyPost_ret (v := .tuple #[.slice none 0 0, .iface T x]) (by simp [results, Tryd.results32, go_sem]) rfl ⟨_, _, rfl, hy2.out, IN_nil _ (by have := hBa.size; have := hBb0.size; omega), bstep hBa hBb0⟩
end Go.Proofs.YtjekkdckjnlkcaaDoor
