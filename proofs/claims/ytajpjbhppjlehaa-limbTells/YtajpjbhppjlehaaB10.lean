/- Walks: the reference's Text. -/
import Derived.Test.YtajpjbhppjlehaaB9
import Derived.Deep.QuietTactic
import Derived.BigQuiet
import Derived.Laws.Concat
namespace Go.Proofs.Ytajpjbhppjlehaa
open Go.RowKit
set_option linter.unusedSimpArgs false
set_option linter.unusedVariables false

/-- The first k signs of the sixty-four. -/
def sgl (a b c d : Int) (k : Nat) : List Int := (List.range k).map fun j => hexc (nib a b c d (63 - j))
theorem sgl_len (a b c d : Int) (k : Nat) : (sgl a b c d k).length = k := by simp [sgl]
theorem sgl_succ (a b c d : Int) (k : Nat) : sgl a b c d (k + 2) = sgl a b c d k ++ [hexc (nib a b c d (63 - k)), hexc (nib a b c d (63 - (k + 1)))] := by
  simp [sgl, List.range_succ]
theorem str_app (l m : List Int) : strOfNums (l ++ m) = strOfNums l ++ strOfNums m := by
  apply ByteArray.ext
  simp [strOfNums]
theorem hix (v : Int) (h0 : 0 ≤ v) (h1 : v < 16) (W : World) : (Instr.index 9 (.string (ByteArray.mk #[48, 49, 50, 51, 52, 53, 54, 55, 56, 57, 97, 98, 99, 100, 101, 102])) (.int .u8 v)).run Try.prog W = .ok (.int .u8 (hexc v)) W := by
  have u9 := Try.underlying9
  have hh : v.toNat < (ByteArray.mk #[48, 49, 50, 51, 52, 53, 54, 55, 56, 57, 97, 98, 99, 100, 101, 102]).size := by show v.toNat < 16; omega
  have e := hex_at v h0 h1 hh
  go_simp
theorem hcv2 (u : World) (x y : Int) (n : Nat) : (convert 41 9 (.slice (some ⟨u.heap.size, 0, none⟩) 2 2)).run Try.prog ((u.drewN n).alloc (.cells #[.int .u8 x, .int .u8 y] 5)) = .ok (.string (strOfNums [x, y])) ((u.drewN n).alloc (.cells #[.int .u8 x, .int .u8 y] 5)) := by
  refine run_convert_bytes_arg (P := Try.prog) _ 41 5 Try.underlying41 Try.underlying5 u.heap.size 0 2 2 [x, y] rfl ?_ 9 Try.underlying9
  intro i hi
  have hi' : i = 0 ∨ i = 1 := by omega
  rcases hi' with rfl | rfl
  · exact cell_of_row _ u.heap.size 0 _ 5 (0, 0) (heap_alloc_new (u.drewN n) _)
  · exact cell_of_row _ u.heap.size 1 _ 5 (0, 0) (heap_alloc_new (u.drewN n) _)
theorem idx0 (x : Int) (t : List Int) (h0 : 0 ≤ x) (h1 : x < 256) (W : World) : (Instr.index 9 (.string (strOfNums (x :: t))) (.int .i64 0)).run Try.prog W = .ok (.int .u8 x) W := by
  have u9 := Try.underlying9
  have hs : (strOfNums (x :: t)).size = t.length + 1 := by rw [strOfNums_size]; rfl
  have hg : ∀ hh : 0 < (strOfNums (x :: t)).size, ((((strOfNums (x :: t))[0]'hh).toNat : Nat) : Int) = x := fun hh => by
    show (((UInt8.ofNat x.toNat).toNat : Nat) : Int) = x
    simp; omega
  go_simp
theorem sl1 (x : Int) (t : List Int) (W : World) : (Instr.slice 9 (.string (strOfNums (x :: t))) (some (.int .i64 1)) none none).run Try.prog W = .ok (.string (strOfNums t)) W := by
  have u9 := Try.underlying9
  have hs : (strOfNums (x :: t)).size = t.length + 1 := by rw [strOfNums_size]; rfl
  have he : (strOfNums (x :: t)).extract 1 (t.length + 1) = strOfNums t := by
    apply ByteArray.ext
    simp [strOfNums, ByteArray.data_extract]
    exact List.take_of_length_le (by simp)
  go_simp
  intro hx
  exfalso; omega
def strLen : Value → Nat
  | .string b => b.size
  | _ => 0
theorem sgl_drop (a b c d : Int) (j : Nat) (hj : j < 64) : (sgl a b c d 64).drop j = hexc (nib a b c d (63 - j)) :: (sgl a b c d 64).drop (j + 1) := by
  rw [List.drop_eq_getElem_cons (by rw [sgl_len]; exact hj)]
  simp [sgl]
theorem sgl_txl (a b c d : Int) (j : Nat) (hj : j ≤ 63) : (sgl a b c d 64).drop j = txl a b c d (64 - j) := by
  apply List.ext_getElem
  · simp [sgl, txl]
  · intro i h1 h2
    simp [sgl, txl] at h1 ⊢
    congr 2
    omega
set_option maxRecDepth 100000 in
set_option maxHeartbeats 4000000 in
theorem rText_any (a b c d : Int) (w : World) (ha : W64 a) (hb : W64 b) (hc : W64 c) (hd : W64 d) :
    Calls Try.prog 30 #[A4 a b c d] w fun en w' => en = .returned (.string (strOfNums (txl a b c d (nd a b c d)))) ∧ Below w.heap.size w w' := by
  go_enter Try.func30, Try.ntmps30
  go_wp2_with fail
  refine (rBytes_any a b c d _ ha hb hc hd).mono ?_
  rintro en w1 ⟨g, rfl, hO1, hg0, hg1, hB⟩
  have hq1 : Below w.heap.size w w1 := bstep (balloc (bself w) _) hB
  simp only [World.size_alloc] at hg0
  clear hB
  go_wp2
  go_loopw [4, 5] (fun s i wr => ∃ k : Nat, k ≤ 32 ∧ i = .int .i64 k ∧ s = .string (strOfNums (sgl a b c d (2 * k))) ∧ Below w.heap.size w wr ∧ g < wr.heap.size ∧ CB wr g 32 a b c d) (fun _ i _ => 32 - (intOf i).toNat)
  case atStart => exact ⟨0, by omega, rfl, rfl, hq1, hg1, hO1⟩
  case round =>
    clear hq1 hg1 hO1
    obtain ⟨k, hk, rfl, rfl, hB, hs, hO⟩ := hrel
    by_cases hlt : k < 32
    · have hlt' : (k : Int) < 32 := by omega
      obtain ⟨oc, of⟩ := hO k hlt
      rw [if_pos (by omega)] at oc
      have hp := byp_bd a b c d (31 - k)
      obtain ⟨x, ex⟩ : ∃ x, byp a b c d (31 - k) = x := ⟨_, rfl⟩
      rw [ex] at oc hp
      obtain ⟨p0, p1⟩ := hp
      have EX : Hid _ := ex
      clear ex
      have hsz : (strOfNums (sgl a b c d (2 * k))).size = 2 * k := by rw [strOfNums_size, sgl_len]
      have k1 := fun W => hix (x / 16) (by omega) (by omega) W
      have k2 := fun W => hix (x % 16) (by omega) (by omega) W
      obtain ⟨h1, e1⟩ : ∃ h, hexc (x / 16) = h := ⟨_, rfl⟩
      obtain ⟨h2, e2⟩ : ∃ h, hexc (x % 16) = h := ⟨_, rfl⟩
      simp only [e1] at k1
      simp only [e2] at k2
      have E1 : Hid _ := e1
      have E2 : Hid _ := e2
      clear e1 e2
      have k3 := hcv2 wr h1 h2
      have hsz2 : (strOfNums [h1, h2]).size = 2 := by rw [strOfNums_size]; rfl
      go_wp2
      go_quiet (fail)
      go_wp2
      go_region
      go_wp2
      have EQ : strOfNums (sgl a b c d (2 * k)) ++ strOfNums [h1, h2] = strOfNums (sgl a b c d (2 * (k + 1))) := by
        rw [show 2 * (k + 1) = 2 * k + 2 by omega, sgl_succ, str_app]
        have f1 := byp_hi a b c d (31 - k)
        have f2 := byp_lo a b c d (31 - k)
        rw [EX.out] at f1 f2
        rw [show 2 * (31 - k) + 1 = 63 - 2 * k by omega] at f1
        rw [show 2 * (31 - k) = 63 - (2 * k + 1) by omega] at f2
        rw [← f1, ← f2, E1.out, E2.out]
      exact ⟨⟨k + 1, by omega, by go_num, congrArg Value.string EQ, balloc (below_drewN hB _) _, by simp; omega, hO.below (m := wr.heap.size) (Below.alloc (below_drewN (Below.refl _ _) _) (by simp) _) hs⟩, by simp [intOf]; omega⟩
    · have hk32 : k = 32 := by omega
      subst hk32
      clear hO
      go_wp2
      go_loop [4] (fun s => ∃ j : Nat, j ≤ 63 ∧ s = .string (strOfNums ((sgl a b c d 64).drop j)) ∧ Hid (∀ i, i < j → hexc (nib a b c d (63 - i)) = 48)) (fun s => strLen s)
      case atStart => exact ⟨0, by omega, rfl, fun i hi => by omega⟩
      case round =>
        obtain ⟨j, hj, rfl, HZ⟩ := hrel
        have hnb := nib_bd a b c d (63 - j)
        have hbd := hexc_bd _ hnb.1 hnb.2
        have hdr := sgl_drop a b c d j (by omega)
        have k1 := fun W => idx0 (hexc (nib a b c d (63 - j))) ((sgl a b c d 64).drop (j + 1)) (by omega) (by omega) W
        have k2 := fun W => sl1 (hexc (nib a b c d (63 - j))) ((sgl a b c d 64).drop (j + 1)) W
        rw [← hdr] at k1 k2
        have hsz : (strOfNums ((sgl a b c d 64).drop j)).size = 64 - j := by rw [strOfNums_size, List.length_drop, sgl_len]
        have hsz' : (strOfNums ((sgl a b c d 64).drop (j + 1))).size = 64 - (j + 1) := by rw [strOfNums_size, List.length_drop, sgl_len]
        have hfin := fun hs => nd_uniq a b c d ha hb hc hd j hj HZ.out hs
        obtain ⟨S, eS⟩ : ∃ S, strOfNums ((sgl a b c d 64).drop j) = S := ⟨_, rfl⟩
        obtain ⟨T, eT⟩ : ∃ T, strOfNums ((sgl a b c d 64).drop (j + 1)) = T := ⟨_, rfl⟩
        obtain ⟨h, eh⟩ : ∃ h, hexc (nib a b c d (63 - j)) = h := ⟨_, rfl⟩
        rw [eS] at hsz ⊢
        rw [eT] at hsz'
        simp only [eS, eT, eh] at k1 k2 hfin
        have ES : Hid _ := eS
        have ET : Hid _ := eT
        have EH : Hid _ := eh
        have HF : Hid _ := hfin
        clear eS eT eh hfin hdr hnb hbd
        have hsz1 : (S.size : Int) = 64 - (j : Int) := by omega
        have HS1 : Hid _ := hsz'
        have HS0 : Hid _ := hsz
        clear hsz hsz'
        by_cases hj63 : j = 63
        · have hle : (63 : Int) ≤ (j : Int) := by omega
          have HR := HF.out (.inl hj63)
          have HE : Hid (S = strOfNums (txl a b c d (nd a b c d))) := by show S = _; rw [← ES.out, sgl_txl a b c d j hj, HR]
          clear hj63 HR HF
          go_wp2
          go_ret
          exact ⟨congrArg (fun b => Ending.returned (Value.string b)) HE.out, hB⟩
        · have hlt1 : (1 : Int) < 64 - (j : Int) := by omega
          by_cases h48 : h = 48
          · have HZ' : Hid (∀ i, i < j + 1 → hexc (nib a b c d (63 - i)) = 48) := fun i hi => by
              by_cases e : i = j
              · subst e; rw [EH.out, h48]
              · exact HZ.out i (by omega)
            have hb48 : (h == 48) = true := by simp [h48]
            have HJ : Hid (¬ j = 63) := hj63
            clear h48 hj63 HF
            go_wp2
            go_round
            case rel => exact ⟨j + 1, by have := HJ.out; omega, congrArg Value.string ET.out.symm, HZ'⟩
            case measure => simp [strLen]; have := HS0.out; have := HS1.out; omega
          · have HR := HF.out (.inr h48)
            have hb48 : (h == 48) = false := by simp [h48]
            have HE : Hid (S = strOfNums (txl a b c d (nd a b c d))) := by show S = _; rw [← ES.out, sgl_txl a b c d j hj, HR]
            clear h48 hj63 HR HF
            go_wp2
            go_ret
            exact ⟨congrArg (fun b => Ending.returned (Value.string b)) HE.out, hB⟩
end Go.Proofs.Ytajpjbhppjlehaa
