/- Primes that are certified: few, and what is certified is a prime. -/
import Derived.Test.YtgfggkinmhhdnaaRC
import Derived.Test.YtgfggkinmhhdnaaCTA
import Derived.Test.YtgfggkinmhhdnaaRN
namespace Go.Proofs.Ytgfggkinmhhdnaa
open Go.RowKit
set_option linter.unusedVariables false
set_option linter.unusedSimpArgs false
theorem bsC0 (w : World) : (Instr.buildSlice 31 0 #[]).run Try.prog w = .ok (.slice (some ⟨w.heap.size, 0, none⟩) 0 0) (w.alloc (.cells #[] 26)) := by kernel_rfl
theorem slHC (sl : Option Addr) (n cap k : Nat) (h : k ≤ n) (hc : n ≤ cap) (hn : sl = none → cap = 0) (w : World) : (Instr.sliceAt 31 (.slice sl n cap) none (some (.int .i64 k)) none).run Try.prog w = .ok (.slice sl k cap) w := by
  cases sl with
  | none =>
    have e0 := hn rfl
    have e1 : n = 0 := by omega
    have e2 : k = 0 := by omega
    subst e0 e1 e2
    show (Instr.sliceAt 31 (.slice none 0 0) none (some (.int .i64 0)) none).run Try.prog w = _
    kernel_rfl
  | some a =>
    have h3 : k ≤ cap := by omega
    simp [Instr.sliceAt, Instr.slice, go_sem, Try.underlying31, h3]
theorem ent_seneschallaw03_few (vs : Array Value) (w : World) : (callFunc 14 vs).run Try.prog w = .ok (.enter 14 vs) w := by kernel_rfl
set_option maxRecDepth 100000 in
set_option maxHeartbeats 4000000 in
theorem cFew (sl : Option Addr) (len cap gb go : Nat) (cs : List (Int × Int × Int)) (w : World) (hmin : min (len : Int) 12 = (cs.length : Int)) (hc : len ≤ cap) (hsn : sl = none → cap = 0) (hsl : cs = [] ∨ sl = some ⟨gb, go, none⟩) (hg : cs.length = 0 ∨ gb < w.heap.size) (hS : Hid (SCt w gb go cs)) :
    Calls Try.prog 14 #[.slice sl len cap] w fun e w' => ∃ v, e = .returned v ∧ PS w.heap.size cs.length (flC cs) w' v ∧ Below w.heap.size w w' := by
  have hcl : cs.length ≤ len := by omega
  have hc12 : cs.length ≤ 12 := by omega
  obtain ⟨ti, hti, hm⟩ := Option.map_eq_some_iff.1 infoC
  simp only [Prod.mk.injEq] at hm
  obtain ⟨hzv, hsz, hby⟩ := hm
  go_enter Try.func14, Try.ntmps14
  have HB0 : Below w.heap.size w w := Below.refl _ _
  have K0_1 := Bk.nil (w.heap.size) w
  go_upto_region 1 with fail
  refine rgF K0_1 HB0 HB0.size [] [] [(1, 4, .slice sl len cap), (2, 5, .slice sl len cap), (3, 6, .int .i64 (len : Int)), (4, 7, .int .i64 (cs.length : Int)), (5, 8, .slice sl cs.length cap)] [] [] [⟨0, 3, some 6, PZ w.heap.size⟩, ⟨6, 9, some 7, PS w.heap.size cs.length (flC cs)⟩, ⟨7, 2, none, PS w.heap.size cs.length (flC cs)⟩] [] (.cons (fun _ _ _ h1 h2 => h2.stab h1) <| .cons (fun _ _ _ h1 h2 => h2.stab h1) <| .cons (fun _ _ _ h1 h2 => h2.stab h1) <| Stab.nil) ?_ ?_
  · refine oc (g_bs 0 (PZ w.heap.size) bsC0 (fun u hu => PZ.new hu)) ?_
    refine oc g_mv ?_
    refine oc g_mv ?_
    refine oc (g_ln Try.underlying31) ?_
    refine oc (g_mn hmin) ?_
    refine oc (g_sl (fun uZ => slHC sl len cap cs.length hcl hc hsn uZ)) ?_
    refine oc (g_a1 0 1 (PZ w.heap.size) (PS w.heap.size cs.length (flC cs)) (fun u vs hB hs h => app_emptyG Try.underlying31 hti hzv (by rw [hsz]; rfl) w.heap.size u _ vs sl gb go cap cs.length (flC cs) (by rw [hsz]; exact flC_len cs) hs (by rw [hby]; omega) (by omega) (hsl.imp (fun h => by rw [h]; rfl) id) (hS.out.below2 hB hg) h)) ?_
    exact oc (g_sE 1 2 (PS w.heap.size cs.length (flC cs))) on
  intro u1 v1_0 hv1_0 v1_6 hv1_6 v1_7 hv1_7 HB1 sz1 K1
  simp only [fX, nK, nP, Wr.f, aK, pM] at K1
  simp only [setG, setN, setE, List.set_cons_zero, List.set_cons_succ]
  clear HB0
  have hP := hv1_7 rfl
  go_wp2
  refine bodyPost_ret (v := v1_7) (by simp [results, Try.results14, go_sem]) rfl ⟨_, rfl, hP, HB1⟩
theorem cCheck_own_f (cs : List (Int × Int × Int)) (w : World) (y : Value) (lo : Nat) (hb : cfB cs = false) (hcs : cs.length ≤ 256) (hin : Hid (∀ j, j < cs.length → In (cat cs j).1 ∧ In (cat cs j).2.1 ∧ In (cat cs j).2.2)) (h : PS lo cs.length (flC cs) w y) :
    Calls Try.prog 15 #[y] w fun e w' => e = .returned (.tuple #[A4 0 0 0 0, .int .i64 30]) ∧ Below w.heap.size w w' := by
  obtain ⟨b, cap, rfl, _, hlt, _, hcv⟩ := h
  exact cCheck_false cs _ (some ⟨b, 0, none⟩) b 0 cap w hb rfl hcs hin (fun j hj W => ixC b 0 _ cap j hj W) (.inr hlt) hcv.sct
theorem cCheck_own_p (cs : List (Int × Int × Int)) (n : Int) (w : World) (y : Value) (lo : Nat) (hb : cfB cs = true) (hlast : (cat cs (cs.length - 1)).1 = n) (hcs : cs.length ≤ 256) (hin : Hid (∀ j, j < cs.length → In (cat cs j).1 ∧ In (cat cs j).2.1 ∧ In (cat cs j).2.2)) (h : PS lo cs.length (flC cs) w y) :
    Calls Try.prog 15 #[y] w fun e w' => e = .returned (.tuple #[NV n, .int .i64 0]) ∧ Below w.heap.size w w' := by
  obtain ⟨b, cap, rfl, _, hlt, _, hcv⟩ := h
  exact cCheck_own_t cs n b cap _ w rfl hb hlast hcs hin hlt hcv
theorem smB_iff {x : Int} : smB x = true ↔ Sm x := by simp [smB]
/-- What is certified is a prime. -/
theorem crB_pr {cs : List (Int × Int × Int)} (hin : ∀ j, j < cs.length → In (cat cs j).1 ∧ In (cat cs j).2.1 ∧ In (cat cs j).2.2) : ∀ k, k < cs.length → crB cs (k + 1) = true → Pr (cat cs k).1.toNat
  | 0, hk, h => by
    rw [crB, Bool.and_eq_true, Bool.and_eq_true] at h
    have hs : smB (cat cs 0).2.1 = true := h.2.1
    exact (stB_iff.1 h.2.2).pr (hin 0 hk).2.2.1 (smB_iff.1 hs).pr
  | k + 1, hk, h => by
    rw [crB, Bool.and_eq_true, Bool.and_eq_true] at h
    have ih := crB_pr hin k (by omega) h.1
    have e : (cat cs (k + 1)).2.1 = (cat cs k).1 := by have := h.2.1; rw [knB] at this; simpa using this
    exact (stB_iff.1 h.2.2).pr (hin (k + 1) hk).2.2.1 (by rw [e]; exact ih)
theorem cfB_pr {cs : List (Int × Int × Int)} (hin : ∀ j, j < cs.length → In (cat cs j).1 ∧ In (cat cs j).2.1 ∧ In (cat cs j).2.2) (h : cfB cs = true) : 0 < cs.length ∧ Pr (cat cs (cs.length - 1)).1.toNat := by
  rw [cfB, Bool.and_eq_true] at h
  have h0 : 0 < cs.length := by simpa using h.2
  refine ⟨h0, crB_pr hin _ (by omega) ?_⟩
  rw [show cs.length - 1 + 1 = cs.length by omega]; exact h.1
end Go.Proofs.Ytgfggkinmhhdnaa
