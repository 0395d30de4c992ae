/- The reference's Put: fields as bytes. -/
import Derived.Test.YtjekkdckjnlkcaaDoorWA
import Derived.Test.YtjekkdckjnlkcaaDoorSB
namespace Go.Proofs.YtjekkdckjnlkcaaDoor
open Go.RowKit
set_option linter.unusedVariables false
set_option linter.unusedSimpArgs false
/-- A field as it came in: any tag. -/
abbrev FldI := Int × List Nat
/-- A slice of fields that lie somewhere below. -/
def VF (w : World) (v : Value) (fs : List FldI) : Prop := ∃ (sl : Option Addr) (cap gl go : Nat), v = .slice sl fs.length cap ∧ fs.length ≤ cap ∧ (fs.length = 0 ∨ sl = some ⟨gl, go, none⟩) ∧ gl < w.heap.size ∧ ∀ i f, fs[i]? = some f → w.cell? ⟨gl, go + 2 * i, none⟩ = some (.int .i64 f.1) ∧ ∃ x, w.cell? ⟨gl, go + 2 * i + 1, none⟩ = some x ∧ IN w w.heap.size x f.2
theorem VF.below {w u : World} {v : Value} {fs : List FldI} (h : VF w v fs) (hB : Below w.heap.size w u) : VF u v fs := by
  obtain ⟨sl, cap, gl, go, h1, h2, h3, h4, h5⟩ := h
  refine ⟨sl, cap, gl, go, h1, h2, h3, Nat.lt_of_lt_of_le h4 hB.size, fun i f hf => ?_⟩
  obtain ⟨a, x, b, c⟩ := h5 i f hf
  exact ⟨(hB.cell (p := ⟨gl, go + 2 * i, none⟩) h4).trans a, x, (hB.cell (p := ⟨gl, go + 2 * i + 1, none⟩) h4).trans b, (c.below hB).mono hB.size⟩
def badI : Int → List FldI → Bool
  | _, [] => false
  | last, (t, b) :: l => decide (t ≤ last ∨ 255 < t ∨ 4096 < b.length) || badI t l
def bytesI : List FldI → List Nat
  | [] => []
  | (t, b) :: l => [t.toNat, b.length / 256, b.length % 256] ++ b ++ bytesI l
def putE (fs : List FldI) : Int := if 256 < fs.length then 3 else if badI 0 fs then 80 else if 4096 < (bytesI fs).length then 3 else 0
def putX (fs : List FldI) : List Nat := if 256 < fs.length then [] else if badI 0 fs then [] else if 4096 < (bytesI fs).length then [] else bytesI fs
theorem NW_three (u : World) (x y z : Nat) : NW 3 (U8 [x, y, z]) (u.alloc (.cells #[.int .u8 (x : Int), .int .u8 (y : Int), .int .u8 (z : Int)] 5)) (.slice (some ⟨u.heap.size, 0, none⟩) 3 3) :=
  ⟨_, 3, rfl, .inr ⟨_, rfl, fun j v hj => by rw [Addr.add0]; exact (CV.new u (U8 [x, y, z]) 5 j v hj).1⟩⟩
set_option maxRecDepth 100000 in
set_option maxHeartbeats 2000000 in
theorem cPutR_core (n gcap : Nat) (gsl : Option Addr) (tg la : Nat → Int) (pS oS : Nat → List Nat) (ev : Int) (xs : List Nat) (w : World) (hz : 0 < w.heap.size)
    (hrow : Hid (0 < n → ∃ gl go, gsl = some ⟨gl, go, none⟩ ∧ gl < w.heap.size ∧ ∀ i, i < n → w.cell? ⟨gl, go + 2 * i, none⟩ = some (.int .i64 (tg i)) ∧ ∃ sv cv, w.cell? ⟨gl, go + 2 * i + 1, none⟩ = some (.slice sv (pS i).length cv) ∧ IN w w.heap.size (.slice sv (pS i).length cv) (pS i)))
    (hla0 : la 0 = 0) (hlas : Hid (∀ i, la (i + 1) = tg i)) (ho0 : Hid (oS 0 = [])) (hos : Hid (∀ i, i < n → oS (i + 1) = (oS i ++ [(tg i).toNat, (pS i).length / 256, (pS i).length % 256]) ++ pS i))
    (hE1 : 256 < n → ev = 3 ∧ xs = []) (hE2 : Hid (∀ i, i < n → n ≤ 256 → (tg i ≤ la i ∨ 255 < tg i ∨ 4096 < (pS i).length) → ev = 80 ∧ xs = []))
    (hE3 : Hid (∀ i, i < n → n ≤ 256 → (∀ j, j < n → ¬ (tg j ≤ la j ∨ 255 < tg j ∨ 4096 < (pS j).length)) → 4096 < (oS (i + 1)).length → ev = 3 ∧ xs = []))
    (hE4 : Hid (n ≤ 256 → (∀ j, j < n → ¬ (tg j ≤ la j ∨ 255 < tg j ∨ 4096 < (pS j).length)) → (oS n).length ≤ 4096 → ev = 0 ∧ xs = oS n)) (hpo : Hid (∀ i, i < n → (∀ j, j < n → ¬ (tg j ≤ la j ∨ 255 < tg j ∨ 4096 < (pS j).length)) → 0 < tg i)) :
    Calls Tryd.prog 11 #[.slice gsl n gcap] w fun e w' => ∃ v, e = .returned v ∧ PTX ev xs w' v ∧ Below w.heap.size w w' := by
  have hbs := bs0b
  by_cases hn : 256 < n
  · have hn1 : (256 : Int) < (n : Int) := by omega
    obtain ⟨rfl, rfl⟩ := hE1 hn
    go_enter Tryd.func11, Tryd.ntmps11
    go_wp2
    exact bodyPost_ret (v := .tuple #[.slice none 0 0, .int .i64 3]) (by simp [results, Tryd.results11, go_sem]) rfl ⟨_, rfl, ⟨_, rfl, IN_nil w hz⟩, Below.refl _ _⟩
  · have hn1 : ¬ (256 : Int) < (n : Int) := by omega
    go_enter Tryd.func11, Tryd.ntmps11
    go_wp2_with fail
    go_loopw [5, 4] (fun s5 s4 wr => ∃ i : Nat, i ≤ n ∧ s5 = .int .i64 (i : Int) ∧ s4 = .int .i64 (la i) ∧ wr = w ∧ Hid (∀ j, j < i → ¬ (tg j ≤ la j ∨ 255 < tg j ∨ 4096 < (pS j).length))) (fun s5 _ _ => n - (intOf s5).toNat)
    case atStart => exact ⟨0, by omega, rfl, by rw [hla0], rfl, fun j hj => absurd hj (by omega)⟩
    case round =>
      obtain ⟨i, hi, rfl, rfl, hw, hgood⟩ := hrel
      have hw := hw.symm
      subst hw
      by_cases hj : i < n
      · have hl2 : (i : Int) < (n : Int) := by omega
        obtain ⟨gl, go, rfl, hgl, hcl⟩ := hrow.out (by omega)
        obtain ⟨hc1, sv, cv, hc2, hinp⟩ := hcl i hj
        have hs := hlas.out i
        have hE := hE2.out i hj (by omega)
        have e1 : IntKind.i64.wrap ((i : Int) + 1) = ((i + 1 : Nat) : Int) := by rw [IntKind.wrap_i64]; omega
        have hg2 : ¬ (tg i ≤ la i ∨ 255 < tg i ∨ 4096 < (pS i).length) → Hid (∀ j, j < i + 1 → ¬ (tg j ≤ la j ∨ 255 < tg j ∨ 4096 < (pS j).length)) := fun h j hj2 => by
          by_cases e : j = i
          · subst e; exact h
          · exact hgood.out j (by omega)
        obtain ⟨t, et⟩ : ∃ x, tg i = x := ⟨_, rfl⟩
        obtain ⟨l, el⟩ : ∃ x, la i = x := ⟨_, rfl⟩
        obtain ⟨k, ek⟩ : ∃ x, (pS i).length = x := ⟨_, rfl⟩
        rw [et] at hc1 hs hE hg2
        rw [el] at hE hg2
        rw [ek] at hc2 hE hg2
        rw [el]
        rw [Nat.mul_comm] at hc1 hc2
        clear hcl hinp et el ek
        by_cases b1 : t ≤ l
        · obtain ⟨rfl, rfl⟩ := hE (.inl b1)
          go_wp2
          exact bodyPost_ret (v := .tuple #[.slice none 0 0, .int .i64 80]) (by simp [results, Tryd.results11, go_sem]) rfl ⟨_, rfl, ⟨_, rfl, IN_nil _ hz⟩, Below.refl _ _⟩
        by_cases b2 : 255 < t
        · obtain ⟨rfl, rfl⟩ := hE (.inr (.inl b2))
          go_wp2
          exact bodyPost_ret (v := .tuple #[.slice none 0 0, .int .i64 80]) (by simp [results, Tryd.results11, go_sem]) rfl ⟨_, rfl, ⟨_, rfl, IN_nil _ hz⟩, Below.refl _ _⟩
        by_cases b3 : 4096 < k
        · obtain ⟨rfl, rfl⟩ := hE (.inr (.inr b3))
          have b4 : (4096 : Int) < (k : Int) := by omega
          go_wp2
          exact bodyPost_ret (v := .tuple #[.slice none 0 0, .int .i64 80]) (by simp [results, Tryd.results11, go_sem]) rfl ⟨_, rfl, ⟨_, rfl, IN_nil _ hz⟩, Below.refl _ _⟩
        have b4 : ¬ (4096 : Int) < (k : Int) := by omega
        go_wp2
        refine ⟨⟨i + 1, by omega, rfl, by rw [hs], by first | rfl | trivial, hg2 (by omega)⟩, ?_⟩
        simp [intOf]; omega
      · have hl2 : ¬ (i : Int) < (n : Int) := by omega
        have hin : i = n := by omega
        subst hin
        go_wp2_with fail
        go_loopw [7, 6] (fun s7 s6 wr => ∃ (j bo m co : Nat) (zs : List Value), j ≤ i ∧ s7 = .int .i64 (j : Int) ∧ s6 = .slice (some ⟨bo, 0, none⟩) m co ∧ (oS j).length = m ∧ m ≤ 4096 ∧ m ≤ co ∧ zs.length = co - m ∧ w.heap.size ≤ bo ∧ bo < wr.heap.size ∧ Hid (CV wr bo (U8 (oS j) ++ zs)) ∧ Below w.heap.size w wr) (fun s7 _ _ => i - (intOf s7).toNat)
        case atStart => exact ⟨0, w.heap.size, 0, 0, [], by omega, rfl, rfl, by rw [ho0.out]; rfl, by omega, by omega, rfl, Nat.le_refl _, by simp, (by rw [ho0.out]; exact fun j v h => by simp [U8] at h), balloc (bself w) _⟩
        case round =>
          obtain ⟨j, bo, m, co, zs, hji, rfl, rfl, hml, hm4, hmc, hzl, hlo, hlt, Kv, HBr⟩ := hrel
          by_cases hj2 : j < i
          · have hl3 : (j : Int) < (i : Int) := by omega
            obtain ⟨gl, go, rfl, hgl, hcl⟩ := hrow.out (by omega)
            obtain ⟨hc1, sv, cv, hc2, hinp⟩ := hcl j hj2
            have hE := hE3.out j hj2 (by omega) hgood.out
            have hgj := hgood.out j hj2
            have hO := hos.out j hj2
            have e1 : IntKind.i64.wrap ((j : Int) + 1) = ((j + 1 : Nat) : Int) := by rw [IntKind.wrap_i64]; omega
            have hpos : 0 < tg j := by
              have : 0 ≤ la j := by
                cases j with
                | zero => rw [hla0]; omega
                | succ j' =>
                  have h1 := hlas.out j'
                  have h2 := hpo.out j' (by omega) hgood.out
                  omega
              omega
            obtain ⟨ps, eps⟩ : ∃ x, pS j = x := ⟨_, rfl⟩
            obtain ⟨t, et⟩ : ∃ x, tg j = x := ⟨_, rfl⟩
            obtain ⟨ol, eol⟩ : ∃ x, oS j = x := ⟨_, rfl⟩
            obtain ⟨l, el⟩ : ∃ x, la j = x := ⟨_, rfl⟩
            rw [et] at hO hgj hc1 hpos
            rw [eps] at hO hgj hc2 hinp
            rw [eol] at hO hml Kv
            rw [el] at hgj
            obtain ⟨k, ek⟩ : ∃ x, ps.length = x := ⟨_, rfl⟩
            rw [ek] at hO hgj hc2 hinp
            obtain ⟨tn, rfl⟩ : ∃ x : Nat, t = (x : Int) := ⟨t.toNat, by omega⟩
            rw [Int.toNat_natCast] at hO
            have hk : k ≤ 4096 := by omega
            have ht : tn < 256 := by omega
            obtain ⟨q, eq⟩ : ∃ x, k / 256 = x := ⟨_, rfl⟩
            obtain ⟨r, er⟩ : ∃ x, k % 256 = x := ⟨_, rfl⟩
            rw [eq, er] at hO
            have hq : q < 256 := by omega
            have hr : r < 256 := by omega
            have hqd : Int.tdiv (k : Int) 256 = (q : Int) := by rw [← eq]; rfl
            have hrd : Int.tmod (k : Int) 256 = (r : Int) := by rw [← er]; rfl
            have w1 : IntKind.u8.wrap (tn : Int) = (tn : Int) := wraps_u8 _ (by omega) (by omega)
            have w2 : IntKind.u8.wrap (q : Int) = (q : Int) := wraps_u8 _ (by omega) (by omega)
            have w3 : IntKind.u8.wrap (r : Int) = (r : Int) := wraps_u8 _ (by omega) (by omega)
            have w4 : IntKind.i64.wrap (q : Int) = (q : Int) := by rw [IntKind.wrap_i64]; omega
            have w5 : IntKind.i64.wrap (r : Int) = (r : Int) := by rw [IntKind.wrap_i64]; omega
            rw [Nat.mul_comm] at hc1 hc2
            have hd1 : wr.cell? ⟨gl, go + j * 2, none⟩ = some (.int .i64 (tn : Int)) := (HBr.cell (p := ⟨gl, go + j * 2, none⟩) hgl).trans hc1
            have hd2 : wr.cell? ⟨gl, go + j * 2 + 1, none⟩ = some (.slice sv k cv) := (HBr.cell (p := ⟨gl, go + j * 2 + 1, none⟩) hgl).trans hc2
            clear hc1 hcl et eps eol el eq er
            have HBa : Below w.heap.size w (wr.alloc (.cells #[.int .u8 (tn : Int), .int .u8 (q : Int), .int .u8 (r : Int)] 5)) := balloc HBr _
            have hss : wr.heap.size ≤ (wr.alloc (.cells #[.int .u8 (tn : Int), .int .u8 (q : Int), .int .u8 (r : Int)] 5)).heap.size := by simp
            have hsw := HBr.size
            obtain ⟨v1, ua, r1, rg1, b1, c1, z1, rfl, g1, g2, g3, g4, g5⟩ := app_row (ty := 24) (Kv.out.below (balloc (bself wr) (.cells #[.int .u8 (tn : Int), .int .u8 (q : Int), .int .u8 (r : Int)] 5)) hlt) (Nat.lt_of_lt_of_le hlt hss) hml (m := 3) rfl hmc hzl (by omega) (NW_three wr tn q r)
            have hB1 : Below w.heap.size w ua := HBa.grown rg1 (by omega) (fun j e => by cases e; exact hlo)
            have hol : (ol ++ [tn, q, r]).length = m + 3 := by rw [List.length_append, hml]; rfl
            have hnw : NW k (U8 ps) ua (.slice sv k cv) := by
              have hi := hinp.below hB1
              rw [← ek] at hi ⊢
              exact IN_NW hi
            have hd3 : ua.cell? ⟨gl, go + j * 2 + 1, none⟩ = some (.slice sv k cv) := (hB1.cell (p := ⟨gl, go + j * 2 + 1, none⟩) hgl).trans hc2
            rw [Nat.mul_one] at g4
            have hb1 : w.heap.size ≤ b1 := by omega
            obtain ⟨v2, ub, r2, rg2, b2, c2, z2, rfl, f1, f2, f3, f4, f5⟩ := app_row (ty := 24) g5 g2 hol ek g3 g4 (by omega) hnw
            have hB2 : Below w.heap.size w ub := hB1.grown rg2 (by have := hB1.size; omega) (fun j e => by cases e; exact hb1)
            rw [Nat.mul_one] at f4
            rw [← hO] at f5
            have hnl : (oS (j + 1)).length = m + 3 + k := by rw [hO, List.length_append, hol, ek]
            have f5 : Hid _ := f5
            have g5 : Hid _ := g5
            have hO : Hid _ := hO
            have hgd : Hid _ := hgood
            clear hnw hol hgood rg1 rg2 hinp
            by_cases hbig : 4096 < m + 3 + k
            · have hbi : (4096 : Int) < (m : Int) + 3 + (k : Int) := by omega
              obtain ⟨rfl, rfl⟩ := hE (by omega)
              go_wp2_with (first | (at_builtin; refine wpList_app2 rfl _ _ 24 rfl _ _ _ rfl rfl r1 ?_; clear r1) | (at_builtin; refine wpList_app2 rfl _ _ 24 rfl _ _ _ rfl rfl r2 ?_; clear r2))
              exact bodyPost_ret (v := .tuple #[.slice none 0 0, .int .i64 3]) (by simp [results, Tryd.results11, go_sem]) rfl ⟨_, rfl, ⟨_, rfl, IN_nil _ (by omega)⟩, hB2⟩
            · have hbi : ¬ (4096 : Int) < (m : Int) + 3 + (k : Int) := by omega
              go_wp2_with (first | (at_builtin; refine wpList_app2 rfl _ _ 24 rfl _ _ _ rfl rfl r1 ?_; clear r1) | (at_builtin; refine wpList_app2 rfl _ _ 24 rfl _ _ _ rfl rfl r2 ?_; clear r2))
              refine ⟨⟨j + 1, b2, m + 3 + k, c2, z2, by omega, by simp, by simp, hnl, by omega, f3, f4, by omega, f2, f5, hB2⟩, ?_⟩
              simp [intOf]; omega
          · have hl3 : ¬ (j : Int) < (i : Int) := by omega
            have hin : j = i := by omega
            subst hin
            obtain ⟨rfl, rfl⟩ := hE4.out (by omega) hgood.out (by omega)
            go_wp2
            exact bodyPost_ret (v := .tuple #[.slice (some ⟨bo, 0, none⟩) m co, .int .i64 0]) (by simp [results, Tryd.results11, go_sem]) rfl ⟨_, rfl, ⟨_, rfl, _, co, bo, 0, by rw [hml], by rw [hml]; exact hmc, .inr rfl, hlt, fun x hx => by rw [Nat.zero_add]; exact ((CV.pre2 Kv.out) x _ (U8_get _ x hx)).1⟩, HBr⟩
def tgF (fs : List FldI) (i : Nat) : Int := (fs.getD i (0, [])).1
def psF (fs : List FldI) (i : Nat) : List Nat := (fs.getD i (0, [])).2
def laF (last : Int) (fs : List FldI) : Nat → Int
  | 0 => last
  | i + 1 => tgF fs i
theorem badI_iff : ∀ (fs : List FldI) (last : Int), badI last fs = true ↔ ∃ i, i < fs.length ∧ (tgF fs i ≤ laF last fs i ∨ 255 < tgF fs i ∨ 4096 < (psF fs i).length)
  | [], last => by simp [badI]
  | (t, b) :: l, last => by
    rw [badI, Bool.or_eq_true, decide_eq_true_iff, badI_iff l t]
    constructor
    · rintro (h | ⟨i, h1, h2⟩)
      · exact ⟨0, by simp, h⟩
      · refine ⟨i + 1, by simpa using h1, ?_⟩
        cases i with
        | zero => exact h2
        | succ j => exact h2
    · rintro ⟨i, h1, h2⟩
      cases i with
      | zero => exact .inl h2
      | succ j =>
        refine .inr ⟨j, by simpa using h1, ?_⟩
        cases j with
        | zero => exact h2
        | succ k => exact h2
theorem bytesI_app : ∀ (a b : List FldI), bytesI (a ++ b) = bytesI a ++ bytesI b
  | [], b => rfl
  | (t, x) :: a, b => by rw [List.cons_append, bytesI, bytesI, bytesI_app a b]; simp
theorem bytesI_step {fs : List FldI} {i : Nat} (h : i < fs.length) : bytesI (fs.take (i + 1)) = (bytesI (fs.take i) ++ [(tgF fs i).toNat, (psF fs i).length / 256, (psF fs i).length % 256]) ++ psF fs i := by
  have e : fs.getD i (0, []) = fs[i] := by rw [List.getD_eq_getElem?_getD, List.getElem?_eq_getElem h]; rfl
  rw [List.take_succ_eq_append_getElem h, bytesI_app, tgF, psF, e]
  simp [bytesI]
theorem bytesI_le (fs : List FldI) (i : Nat) : (bytesI (fs.take i)).length ≤ (bytesI fs).length := by
  have := bytesI_app (fs.take i) (fs.drop i)
  rw [List.take_append_drop] at this
  rw [this, List.length_append]; omega
theorem pos_of {fs : List FldI} (hg : ∀ j, j < fs.length → ¬ (tgF fs j ≤ laF 0 fs j ∨ 255 < tgF fs j ∨ 4096 < (psF fs j).length)) : ∀ i, i < fs.length → 0 < tgF fs i
  | 0, h => by have := hg 0 h; simp only [laF] at this; omega
  | i + 1, h => by have := hg (i + 1) h; have h2 := pos_of hg i (by omega); simp only [laF] at this; omega
/-- The reference's Put. -/
theorem cPutR (fs : List FldI) (v : Value) (w : World) (hz : 0 < w.heap.size) (h : VF w v fs) :
    Calls Tryd.prog 11 #[v] w fun e w' => ∃ v, e = .returned v ∧ PTX (putE fs) (putX fs) w' v ∧ Below w.heap.size w w' := by
  obtain ⟨sl, cap, gl, go, rfl, h2, h3, h4, h5⟩ := h
  refine cPutR_core fs.length cap sl (tgF fs) (laF 0 fs) (psF fs) (fun i => bytesI (fs.take i)) (putE fs) (putX fs) w hz (fun h0 => ⟨gl, go, h3.resolve_left (by omega), h4, fun i hi => ?_⟩) rfl (fun i => rfl) rfl (fun i hi => bytesI_step hi) (fun h => ?_) (fun i hi hn hb => ?_) (fun i hi hn hg hb => ?_) (fun hn hg hb => ?_) (fun i hi hg => pos_of hg i hi)
  · have e : fs.getD i (0, []) = fs[i] := by rw [List.getD_eq_getElem?_getD, List.getElem?_eq_getElem hi]; rfl
    obtain ⟨a, x, b, c⟩ := h5 i fs[i] (List.getElem?_eq_getElem hi)
    unfold tgF psF
    rw [e]
    obtain ⟨s2, c2, g2, o2, q1, q2⟩ := c
    refine ⟨a, s2, c2, by rw [← q1]; exact b, ?_⟩
    exact ⟨s2, c2, g2, o2, rfl, q2⟩
  · unfold putE putX; rw [if_pos h, if_pos h]; exact ⟨rfl, rfl⟩
  · have hbad := (badI_iff fs 0).2 ⟨i, hi, hb⟩
    have h1 : ¬ 256 < fs.length := by omega
    simp [putE, putX, h1, hbad]
  · have hbad : ¬ badI 0 fs = true := fun hc => by obtain ⟨j, j1, j2⟩ := (badI_iff fs 0).1 hc; exact hg j j1 j2
    have hl := bytesI_le fs (i + 1)
    have hb : 4096 < (bytesI (fs.take (i + 1))).length := hb
    have h1 : ¬ 256 < fs.length := by omega
    have h2 : 4096 < (bytesI fs).length := by omega
    simp [putE, putX, h1, hbad, h2]
  · have hbad : ¬ badI 0 fs = true := fun hc => by obtain ⟨j, j1, j2⟩ := (badI_iff fs 0).1 hc; exact hg j j1 j2
    simp only [List.take_length] at hb ⊢
    have h1 : ¬ 256 < fs.length := by omega
    have h2 : ¬ 4096 < (bytesI fs).length := by omega
    simp [putE, putX, h1, hbad, h2]
end Go.Proofs.YtjekkdckjnlkcaaDoor
/- Bytes and blocks of AES in memory. -/
namespace Go.Proofs.YtjekkdckjnlkcaaDoor
open Go.RowKit
set_option linter.unusedVariables false
set_option linter.unusedSimpArgs false
def z4 : List Nat := List.replicate 4 0
theorem cvi8z {o : Oper} {ev : Operand → Value} {x : Operand} {n : Nat} (u : World) (h1 : n < 256) (ho : o.op = .convert 3 5 x) (hx : ev x = .int .i64 (n : Int)) : (execOp ev o).run Tryd.prog u = .ok (.value (.int .u8 (n : Int))) u := by
  have e1 : IntKind.u8.wrap (n : Int) = (n : Int) := wraps_u8 _ (by omega) (by omega)
  unfold execOp; rw [ho]; simp only [hx]; go_simp
theorem BY.get {n : Nat} {l : List Nat} (h : BY n l) {k : Nat} (hk : k < n) : (U8 l)[k]? = some (.int .u8 ((l.getD k 0 : Nat) : Int)) := U8_get l k (by rw [h.len]; exact hk)
end Go.Proofs.YtjekkdckjnlkcaaDoor
