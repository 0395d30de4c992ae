/- What follows from the numbers of wire: there and back, cut short, numbers. -/
import Derived.Test.YtjekkdckjnlkcaaDoorAWB
namespace Go.Proofs.YtjekkdckjnlkcaaDoor
open Go.RowKit
set_option linter.unusedVariables false
set_option linter.unusedSimpArgs false
def dnF (fs : List FldI) : List Fld := fs.map fun f => (f.1.toNat, f.2)
theorem putE_zero {fs : List FldI} (h : putE fs = 0) : fs.length ≤ 256 ∧ badI 0 fs = false ∧ (bytesI fs).length ≤ 4096 ∧ putX fs = bytesI fs := by
  unfold putE at h
  split at h
  · cases h
  · split at h
    · cases h
    · split at h
      · cases h
      · rename_i h1 h2 h3
        refine ⟨by omega, by simpa using h2, by omega, ?_⟩
        unfold putX; rw [if_neg h1, if_neg h2, if_neg h3]
theorem bytesI_dn : ∀ fs : List FldI, bytesI fs = putF (dnF fs)
  | [] => rfl
  | (t, b) :: l => by
    show [t.toNat, b.length / 256, b.length % 256] ++ b ++ bytesI l = t.toNat :: b.length / 256 :: b.length % 256 :: (b ++ putF (dnF l))
    rw [bytesI_dn l]; rfl
theorem okF_dn : ∀ {fs : List FldI} {last : Nat}, badI (last : Int) fs = false → (∀ f ∈ fs, ∀ x ∈ f.2, x < 256) → okF last (dnF fs) ∧ upF (dnF fs) = fs
  | [], last, _, _ => ⟨trivial, rfl⟩
  | (t, b) :: l, last, h, hx => by
    rw [badI, Bool.or_eq_false_iff, decide_eq_false_iff_not] at h
    obtain ⟨h1, h2⟩ := h
    obtain ⟨t', rfl⟩ : ∃ t' : Nat, t = (t' : Int) := ⟨t.toNat, by omega⟩
    obtain ⟨i1, i2⟩ := okF_dn h2 fun f hf => hx f (by simp [hf])
    refine ⟨?_, ?_⟩
    · show last < ((t' : Int)).toNat ∧ ((t' : Int)).toNat ≤ 255 ∧ b.length ≤ 65535 ∧ (∀ x ∈ b, x < 256) ∧ okF ((t' : Int)).toNat (dnF l)
      rw [Int.toNat_natCast]; exact ⟨by omega, by omega, by omega, hx ((t' : Int), b) (by simp), i1⟩
    show ((((t' : Int).toNat : Nat) : Int), b) :: upF (dnF l) = _
    rw [i2]; simp
theorem bytesI_len (fs : List FldI) : fs.length ≤ (bytesI fs).length := by
  induction fs with
  | nil => simp
  | cons f l ih => obtain ⟨t, b⟩ := f; simp [bytesI]; omega
/-- What was put is read as it was. -/
theorem read_put {fs : List FldI} (h : putE fs = 0) (hx : ∀ f ∈ fs, ∀ x ∈ f.2, x < 256) : readE (putX fs) = 0 ∧ readX (putX fs) = fs := by
  obtain ⟨h1, h2, h3, h4⟩ := putE_zero h
  obtain ⟨k1, k2⟩ := okF_dn (last := 0) h2 hx
  have hl := bytesI_len fs
  have hr := rd_put k1 (bytesI fs).length (by unfold dnF; rw [List.length_map]; exact hl)
  rw [← bytesI_dn] at hr
  have h5 : ¬ 4096 < (bytesI fs).length := by omega
  rw [h4]
  unfold readE readX
  rw [if_neg h5, if_neg h5, hr]
  exact ⟨rfl, k2⟩
theorem okF_len : ∀ {l : List Fld} {last : Nat}, okF last l → last ≤ 255 → l.length ≤ 255 - last
  | [], _, _, _ => by simp
  | (t, b) :: l, last, h, hl => by
    obtain ⟨h1, h2, _, _, h5⟩ := h
    have := okF_len h5 h2
    simp; omega
theorem putF_one {l : List Fld} {f : Fld} (h : f ∈ l) : f.2.length ≤ (putF l).length := by
  induction l with
  | nil => simp at h
  | cons g l ih =>
    obtain ⟨t, b⟩ := g
    rcases List.mem_cons.1 h with rfl | h
    · simp [putF]; omega
    · have := ih h; simp [putF]; omega
theorem okF_up : ∀ {l : List Fld} {last : Nat}, okF last l → (∀ f ∈ l, f.2.length ≤ 4096) → badI (last : Int) (upF l) = false ∧ bytesI (upF l) = putF l
  | [], _, _, _ => ⟨rfl, rfl⟩
  | (t, b) :: l, last, h, hl => by
    obtain ⟨h1, h2, h3, h4, h5⟩ := h
    obtain ⟨i1, i2⟩ := okF_up h5 fun f hf => hl f (by simp [hf])
    have := hl (t, b) (by simp)
    refine ⟨?_, ?_⟩
    · show (decide ((t : Int) ≤ (last : Int) ∨ (255 : Int) < (t : Int) ∨ 4096 < b.length) || badI (t : Int) (upF l)) = false
      rw [i1, Bool.or_false, decide_eq_false_iff_not]
      simp only at this
      omega
    · show [((t : Int)).toNat, b.length / 256, b.length % 256] ++ b ++ bytesI (upF l) = _
      rw [i2]; simp [putF]
theorem okF_fld : ∀ {l : List Fld} {last : Nat}, okF last l → (∀ f ∈ l, f.2.length ≤ 4096) → ∀ f ∈ upF l, f.2.length ≤ 4097 ∧ (∀ x ∈ f.2, x < 256) ∧ -9223372036854775808 ≤ f.1 ∧ f.1 ≤ 9223372036854775807
  | [], _, _, _ => by simp [upF]
  | (t, b) :: l, last, h, hl => fun f hf => by
    obtain ⟨h1, h2, h3, h4, h5⟩ := h
    have h6 := hl (t, b) (by simp)
    rcases List.mem_cons.1 (show f ∈ ((t : Int), b) :: upF l from hf) with rfl | hf
    · refine ⟨by simp only at h6 ⊢; omega, h4, by simp only; omega, by simp only; omega⟩
    · exact okF_fld h5 (fun f hf => hl f (by simp [hf])) f hf
/-- What is read is put as those bytes. -/
theorem put_read {bs : List Nat} (h : readE bs = 0) (hx : ∀ x ∈ bs, x < 256) : putE (readX bs) = 0 ∧ putX (readX bs) = bs ∧ fldOk (readX bs) := by
  unfold readE at h
  split at h
  · cases h
  · rename_i h1
    cases hr : rdF bs.length 0 bs with
    | none => rw [hr] at h; cases h
    | some ms =>
      obtain ⟨k1, k2⟩ := rd_some hr hx
      have hl := okF_len k2 (by omega)
      have h4 : ∀ f ∈ ms, f.2.length ≤ 4096 := fun f hf => by have := putF_one hf; rw [k1] at this; omega
      obtain ⟨i1, i2⟩ := okF_up k2 h4
      have e : readX bs = upF ms := by unfold readX; rw [if_neg h1, hr]
      have hul : (upF ms).length = ms.length := by simp [upF]
      have c1 : ¬ 256 < (upF ms).length := by omega
      have i1 : badI 0 (upF ms) = false := i1
      have c2 : ¬ badI 0 (upF ms) = true := by rw [i1]; simp
      have c3 : ¬ 4096 < (bytesI (upF ms)).length := by rw [i2, k1]; exact h1
      rw [e]
      refine ⟨?_, ?_, by omega, okF_fld k2 h4⟩
      · unfold putE; rw [if_neg c1, if_neg c2, if_neg c3]
      · unfold putX; rw [if_neg c1, if_neg c2, if_neg c3, i2, k1]
theorem readX_none {bs : List Nat} (h : readE bs ≠ 0) : readX bs = [] := by
  unfold readE at h
  unfold readX
  split
  · rfl
  · rename_i h1
    rw [if_neg h1] at h
    cases hr : rdF bs.length 0 bs with
    | none => rfl
    | some ms => rw [hr] at h; exact absurd rfl h
theorem readX_ok {bs : List Nat} (hx : ∀ x ∈ bs, x < 256) : fldOk (readX bs) := by
  by_cases h : readE bs = 0
  · exact (put_read h hx).2.2
  · rw [readX_none h]; exact ⟨by simp, by simp⟩
/-- What is cut short. -/
theorem read_cut {fs : List FldI} {k : Nat} (h : putE fs = 0) (hx : ∀ f ∈ fs, ∀ x ∈ f.2, x < 256) (hk : k < (putX fs).length) : readE ((putX fs).take k) = 80 ∨ readE ((putX fs).take k) = 0 ∧ (readX ((putX fs).take k)).length < fs.length := by
  obtain ⟨h1, h2, h3, h4⟩ := putE_zero h
  obtain ⟨k1, k2⟩ := okF_dn (last := 0) h2 hx
  rw [h4] at hk ⊢
  have hl : ¬ 4096 < ((bytesI fs).take k).length := by rw [List.length_take]; omega
  unfold readE readX
  rw [if_neg hl, if_neg hl]
  cases hr : rdF ((bytesI fs).take k).length 0 ((bytesI fs).take k) with
  | none => exact .inl rfl
  | some ms =>
    refine .inr ⟨rfl, ?_⟩
    rw [bytesI_dn] at hr hk
    have := rd_cut k1 hk hr
    unfold dnF at this
    simpa [upF] using this
theorem putX_nil {fs : List FldI} (h : putE fs = 0) (hl : (putX fs).length = 0) : fs.length = 0 := by
  obtain ⟨h1, h2, h3, h4⟩ := putE_zero h
  rw [h4] at hl
  have := bytesI_len fs
  omega
/-- Lists, there and back. -/
theorem putLE_zero {ps : List (List Nat)} (h : putLE ps = 0) : ps.length ≤ 256 ∧ (putL ps).length ≤ 4096 ∧ putLX ps = putL ps := by
  have e : putLX ps = putL ps := by unfold putLX; rw [if_pos h]
  unfold putLE at h
  split at h
  · cases h
  · split at h
    · cases h
    · split at h
      · cases h
      · exact ⟨by omega, by omega, e⟩
theorem putL_len (ps : List (List Nat)) : ps.length ≤ (putL ps).length := by
  induction ps with
  | nil => simp
  | cons f l ih => simp [putL]; omega
theorem putL_lt {ps : List (List Nat)} (h : ∀ p ∈ ps, p.length ≤ 4097 ∧ ∀ x ∈ p, x < 256) : ∀ x ∈ putL ps, x < 256 := by
  induction ps with
  | nil => intro x hx; simp [putL] at hx
  | cons p l ih =>
    intro x hx
    have h0 := h p (by simp)
    simp only [putL, List.mem_cons, List.mem_append] at hx
    rcases hx with rfl | rfl | hx | hx
    · omega
    · exact Nat.mod_lt _ (by decide)
    · exact h0.2 x hx
    · exact ih (fun p hp => h p (by simp [hp])) x hx
theorem putLX_ok {ps : List (List Nat)} (h : lstOk ps) : bytOk (putLX ps) := by
  by_cases e : putLE ps = 0
  · obtain ⟨h1, h2, h3⟩ := putLE_zero e
    rw [h3]; exact ⟨by omega, putL_lt h.2⟩
  · unfold putLX; rw [if_neg e]; exact ⟨by simp, by simp⟩
theorem readL_put {ps : List (List Nat)} (h : putLE ps = 0) : readLE (putLX ps) = 0 ∧ readLX (putLX ps) = ps := by
  obtain ⟨h1, h2, h3⟩ := putLE_zero h
  have hl := putL_len ps
  have hr := rdL_put (l := ps) (fun b hb => by have := putL_one hb; omega) (putL ps).length hl
  have h5 : ¬ 4096 < (putL ps).length := by omega
  have h6 : ¬ 256 < ps.length := by omega
  rw [h3]
  unfold readLE readLX
  rw [if_neg h5, if_neg h5, hr]
  simp only [if_neg h6]
  exact ⟨trivial, trivial⟩
theorem rdL_lt : ∀ {f : Nat} {b : List Nat} {m : List (List Nat)}, rdL f b = some m → (∀ x ∈ b, x < 256) → ∀ p ∈ m, p.length ≤ b.length ∧ ∀ x ∈ p, x < 256
  | f, [], m, h, _ => by
    have e : m = [] := by cases f <;> (simp [rdL] at h; exact h)
    subst e; simp
  | f + 1, h :: l :: r, m, hr, hx => by
    rw [rdL] at hr
    by_cases hc : r.length < 256 * h + l
    · rw [if_pos hc] at hr; cases hr
    · rw [if_neg hc] at hr
      cases hd : rdL f (r.drop (256 * h + l)) with
      | none => rw [hd] at hr; cases hr
      | some m' =>
        rw [hd] at hr
        simp only [Option.map_some, Option.some.injEq] at hr
        subst hr
        intro p hp
        rcases List.mem_cons.1 hp with rfl | hp
        · exact ⟨by rw [List.length_take]; simp; omega, fun x hm => hx x (by simp [List.mem_of_mem_take hm])⟩
        · obtain ⟨a, b⟩ := rdL_lt hd (fun x hm => hx x (by simp [List.mem_of_mem_drop hm])) p hp
          rw [List.length_drop] at a
          exact ⟨by simp; omega, b⟩
  | 0, t :: b, m, h, _ => by simp [rdL] at h
  | f + 1, [t], m, h, _ => by simp [rdL] at h
theorem readLX_ok {bs : List Nat} (hx : ∀ x ∈ bs, x < 256) : (readLX bs).length ≤ 257 ∧ ∀ p ∈ readLX bs, ∀ x ∈ p, x < 256 := by
  unfold readLX
  split
  · exact ⟨by simp, by simp⟩
  · cases hr : rdL bs.length bs with
    | none => exact ⟨by simp, by simp⟩
    | some ms =>
      simp only
      split
      · exact ⟨by simp, by simp⟩
      · exact ⟨by omega, fun p hp => (rdL_lt hr hx p hp).2⟩
/-- Numbers. -/
theorem int8_num8 : ∀ {k : Nat} {b : List Nat}, b.length = k → (∀ x ∈ b, x < 256) → int8 (num8 b) k = b
  | 0, b, h, _ => by rw [List.eq_nil_of_length_eq_zero h]; rfl
  | k + 1, b, h, hx => by
    obtain ⟨a, x, rfl⟩ : ∃ a x, b = a ++ [x] := ⟨b.dropLast, b.getLast (by intro e; rw [e] at h; simp at h), (List.dropLast_concat_getLast _).symm⟩
    have hxx := hx x (by simp)
    rw [num8_app, int8, show (256 * num8 a + x) / 256 = num8 a by omega, show (256 * num8 a + x) % 256 = x by omega, int8_num8 (by simpa using h) fun y hy => hx y (by simp [hy])]
theorem wrap_u64n {n : Int} (h1 : -9223372036854775808 ≤ n) (h2 : n ≤ 9223372036854775807) : IntKind.i64.wrap (u64n n : Int) = n := by
  rw [IntKind.wrap_i64]; unfold u64n; omega
theorem u64n_wrap {x : Nat} (h : x < 18446744073709551616) : u64n (IntKind.i64.wrap (x : Int)) = x := by
  rw [IntKind.wrap_i64]; unfold u64n; omega
theorem num8_lt8 {b : List Nat} (h : b.length = 8) (hx : ∀ x ∈ b, x < 256) : num8 b < 18446744073709551616 := by
  have := num8_lt (getD_lt256 hx) 8
  rw [← h, List.take_length, h] at this
  have e : 256 ^ 8 = 18446744073709551616 := by decide
  omega
theorem rdI_int {n : Int} (h1 : -9223372036854775808 ≤ n) (h2 : n ≤ 9223372036854775807) : rdIE (int8 (u64n n) 8) = 0 ∧ rdIX (int8 (u64n n) 8) = n := by
  have e : (256 : Nat) ^ 8 = 18446744073709551616 := by decide
  unfold rdIE rdIX
  rw [if_pos (int8_len 8 _), if_pos (int8_len 8 _), num8_int8 8 _ (by rw [e]; exact u64n_lt n)]
  exact ⟨rfl, wrap_u64n h1 h2⟩
theorem int_rdI {b : List Nat} (h : b.length = 8) (hx : ∀ x ∈ b, x < 256) : rdIE b = 0 ∧ int8 (u64n (rdIX b)) 8 = b ∧ -9223372036854775808 ≤ rdIX b ∧ rdIX b ≤ 9223372036854775807 := by
  unfold rdIE rdIX
  rw [if_pos h, if_pos h, u64n_wrap (num8_lt8 h hx), int8_num8 h hx]
  refine ⟨rfl, rfl, ?_, ?_⟩ <;> (rw [IntKind.wrap_i64]; omega)
theorem int8_first (x : Nat) : (int8 x 8).getD 0 0 = x / 72057594037927936 % 256 := by
  simp [int8, Nat.div_div_eq_div_mul]
theorem sign_first {n : Int} (h1 : -9223372036854775808 ≤ n) (h2 : n ≤ 9223372036854775807) : (decide (0 ≤ n)) = decide ((int8 (u64n n) 8).getD 0 0 < 128) := by
  rw [int8_first]
  unfold u64n
  by_cases h : 0 ≤ n
  · rw [decide_eq_true h, decide_eq_true (by omega)]
  · rw [decide_eq_false h, decide_eq_false (by omega)]
end Go.Proofs.YtjekkdckjnlkcaaDoor
