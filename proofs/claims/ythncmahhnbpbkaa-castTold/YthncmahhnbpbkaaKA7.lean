/- Cast: sending and choosing, of a node in memory. -/
import Derived.Test.YthncmahhnbpbkaaKA6
namespace Go.Proofs.Ythncmahhnbpbkaa
open Go.RowKit Go.ChangeMaps Go.Maps Go.WideMaps
set_option linter.unusedVariables false
set_option linter.unusedSimpArgs false
def Nd.sdE (x : Nd) (v : ByteArray) : Nd := { x with e := some (x.e.getD v) }
def Nd.sdR (x : Nd) (v : ByteArray) : Nd := { x with r := some (x.r.getD v) }
def Nd.sdD (x : Nd) (v : ByteArray) : Nd := { x with d := some (x.d.getD v) }
def Nd.otE (x : Nd) (k : Int) (v : ByteArray) : Option (Int × Int × ByteArray) := if x.e.isSome then none else some (k, x.me, v)
def Nd.otR (x : Nd) (k : Int) (v : ByteArray) : Option (Int × Int × ByteArray) := if x.r.isSome then none else some (k, x.me, v)
theorem NM.mid {w w' : World} {s : Nat} {x y : Nd} (h : NM w s x) (hc : CV w' (s + 6) (nC s y)) (he : y.ec = x.ec) (hr : y.rd = x.rd) (ho : ∀ k, k < w.heap.size → k ≠ s + 6 → w'.heap[k]? = w.heap[k]?) : NM w' s y :=
  ⟨hc, by rw [he]; exact h.h1.same (ho _ h.h1.lt (by omega)), by rw [he]; exact h.m1.same (ho _ h.m1.lt (by omega)), by rw [hr]; exact h.h2.same (ho _ h.h2.lt (by omega)), by rw [hr]; exact h.m2.same (ho _ h.m2.lt (by omega))⟩
theorem two_heap (w : World) (b o : Nat) (v : ByteArray) (k : Nat) (h : k ≠ b) : ((w.setCell ⟨b, o, none⟩ (.string v)).setCell ⟨b, o + 1, none⟩ (.bool true)).heap[k]? = w.heap[k]? := by
  rw [Below.heap_setCell _ _ _ _ h, Below.heap_setCell _ _ _ _ h]
theorem two_kp (w : World) (s o : Nat) (v : ByteArray) : Kp s (s + 7) w ((w.setCell ⟨s + 6, o, none⟩ (.string v)).setCell ⟨s + 6, o + 1, none⟩ (.bool true)) :=
  ((Kp.refl s (s + 7) w).cell (p := ⟨s + 6, o, none⟩) (by simp) (by simp) _).cell (p := ⟨s + 6, o + 1, none⟩) (by simp) (by simp) _
theorem cSendE (s : Nat) (x : Nd) (k : Int) (v : ByteArray) (w : World) (h : NM w s x) :
    Calls Try.prog 31 #[pN s, .int .i64 k, .string v, .pointer (some ⟨s + 6, 9, none⟩)] w fun e' w' => ∃ r, e' = .returned r ∧ Kp s (s + 7) w w' ∧ NM w' s (x.sdE v) ∧ OutM w.heap.size w' r (x.otE k v) := by
  have hc := h.c
  have ls := hc.lt (by simp)
  cases he : x.e with
  | some q =>
    have h1 := (hc 10 _ rfl).1
    rw [he] at h1
    refine (cSend_yes s 9 k v w h1).mono ?_
    rintro e w1 ⟨rfl, rfl⟩
    have ex : x.sdE v = x := by cases x; simp_all [Nd.sdE]
    exact ⟨_, rfl, Kp.refl _ _ _, by rw [ex]; exact h, by simp [Nd.otE, he, OutM]⟩
  | none =>
    have c0 := hc 9 _ rfl
    have c1 := hc 10 _ rfl
    rw [he] at c1
    refine (cSend_no s 9 k x.me _ v w c0.1 c1.1 c0.2 c1.2 (hc 2 _ rfl).1 (by omega)).mono ?_
    rintro e w1 ⟨rfl, rfl⟩
    have hn : CV ((w.setCell ⟨s + 6, 9, none⟩ (.string v)).setCell ⟨s + 6, 9 + 1, none⟩ (.bool true)) (s + 6) (nC s (x.sdE v)) := by
      have := (hc.setC 9 (by simp) (.string v)).setC (9 + 1) (by simp) (.bool true)
      have e : ((nC s x).set 9 (.string v)).set (9 + 1) (.bool true) = nC s (x.sdE v) := by simp [nC, Nd.sdE, he]
      rw [e] at this; exact this
    have hN : NM ((w.setCell ⟨s + 6, 9, none⟩ (.string v)).setCell ⟨s + 6, 9 + 1, none⟩ (.bool true)) s (x.sdE v) := h.mid hn rfl rfl fun k _ hk => two_heap w _ _ v k hk
    have hK := two_kp w s 9 v
    have hz : ((w.setCell ⟨s + 6, 9, none⟩ (.string v)).setCell ⟨s + 6, 9 + 1, none⟩ (.bool true)).heap.size = w.heap.size := by simp
    generalize ((w.setCell ⟨s + 6, 9, none⟩ (.string v)).setCell ⟨s + 6, 9 + 1, none⟩ (.bool true)) = u at *
    refine ⟨_, rfl, hK.alloc _, hN.kp (lo := s + 7) (hi := s + 7) (balloc (bself u) _).kp (.inl (Nat.le_refl _)), ?_⟩
    have : CV (u.alloc (.cells #[.int .i64 k, .int .i64 x.me, .string v] 32)) u.heap.size [.int .i64 k, .int .i64 x.me, .string v] := CV.new u [.int .i64 k, .int .i64 x.me, .string v] _
    rw [hz] at this
    simp only [Nd.otE, he, Option.isSome_none, Bool.false_eq_true, if_false, OutM]
    exact ⟨_, Nat.le_refl _, rfl, this⟩
theorem cSendR (s : Nat) (x : Nd) (k : Int) (v : ByteArray) (w : World) (h : NM w s x) :
    Calls Try.prog 31 #[pN s, .int .i64 k, .string v, .pointer (some ⟨s + 6, 11, none⟩)] w fun e' w' => ∃ r, e' = .returned r ∧ Kp s (s + 7) w w' ∧ NM w' s (x.sdR v) ∧ OutM w.heap.size w' r (x.otR k v) := by
  have hc := h.c
  have ls := hc.lt (by simp)
  cases he : x.r with
  | some q =>
    have h1 := (hc 12 _ rfl).1
    rw [he] at h1
    refine (cSend_yes s 11 k v w h1).mono ?_
    rintro e w1 ⟨rfl, rfl⟩
    have ex : x.sdR v = x := by cases x; simp_all [Nd.sdR]
    exact ⟨_, rfl, Kp.refl _ _ _, by rw [ex]; exact h, by simp [Nd.otR, he, OutM]⟩
  | none =>
    have c0 := hc 11 _ rfl
    have c1 := hc 12 _ rfl
    rw [he] at c1
    refine (cSend_no s 11 k x.me _ v w c0.1 c1.1 c0.2 c1.2 (hc 2 _ rfl).1 (by omega)).mono ?_
    rintro e w1 ⟨rfl, rfl⟩
    have hn : CV ((w.setCell ⟨s + 6, 11, none⟩ (.string v)).setCell ⟨s + 6, 11 + 1, none⟩ (.bool true)) (s + 6) (nC s (x.sdR v)) := by
      have := (hc.setC 11 (by simp) (.string v)).setC (11 + 1) (by simp) (.bool true)
      have e : ((nC s x).set 11 (.string v)).set (11 + 1) (.bool true) = nC s (x.sdR v) := by simp [nC, Nd.sdR, he]
      rw [e] at this; exact this
    have hN : NM ((w.setCell ⟨s + 6, 11, none⟩ (.string v)).setCell ⟨s + 6, 11 + 1, none⟩ (.bool true)) s (x.sdR v) := h.mid hn rfl rfl fun k _ hk => two_heap w _ _ v k hk
    have hK := two_kp w s 11 v
    have hz : ((w.setCell ⟨s + 6, 11, none⟩ (.string v)).setCell ⟨s + 6, 11 + 1, none⟩ (.bool true)).heap.size = w.heap.size := by simp
    generalize ((w.setCell ⟨s + 6, 11, none⟩ (.string v)).setCell ⟨s + 6, 11 + 1, none⟩ (.bool true)) = u at *
    refine ⟨_, rfl, hK.alloc _, hN.kp (lo := s + 7) (hi := s + 7) (balloc (bself u) _).kp (.inl (Nat.le_refl _)), ?_⟩
    have : CV (u.alloc (.cells #[.int .i64 k, .int .i64 x.me, .string v] 32)) u.heap.size [.int .i64 k, .int .i64 x.me, .string v] := CV.new u [.int .i64 k, .int .i64 x.me, .string v] _
    rw [hz] at this
    simp only [Nd.otR, he, Option.isSome_none, Bool.false_eq_true, if_false, OutM]
    exact ⟨_, Nat.le_refl _, rfl, this⟩
theorem cChooseD (s : Nat) (x : Nd) (v : ByteArray) (w : World) (h : NM w s x) :
    Calls Try.prog 33 #[.pointer (some ⟨s + 6, 13, none⟩), .string v] w fun e' w' => ∃ b, e' = .returned (.bool b) ∧ Kp s (s + 7) w w' ∧ NM w' s (x.sdD v) := by
  have hc := h.c
  cases he : x.d with
  | some q =>
    have h1 := (hc 14 _ rfl).1
    rw [he] at h1
    refine (cChoose_yes (s + 6) 13 v v w h1).mono ?_
    rintro e w1 ⟨rfl, rfl⟩
    have ex : x.sdD v = x := by cases x; simp_all [Nd.sdD]
    exact ⟨_, rfl, Kp.refl _ _ _, by rw [ex]; exact h⟩
  | none =>
    have c0 := hc 13 _ rfl
    have c1 := hc 14 _ rfl
    rw [he] at c1
    refine (cChoose_no (s + 6) 13 _ v w c0.1 c1.1 c0.2 c1.2).mono ?_
    rintro e w1 ⟨rfl, rfl⟩
    have hn : CV ((w.setCell ⟨s + 6, 13, none⟩ (.string v)).setCell ⟨s + 6, 13 + 1, none⟩ (.bool true)) (s + 6) (nC s (x.sdD v)) := by
      have := (hc.setC 13 (by simp) (.string v)).setC (13 + 1) (by simp) (.bool true)
      have e : ((nC s x).set 13 (.string v)).set (13 + 1) (.bool true) = nC s (x.sdD v) := by simp [nC, Nd.sdD, he]
      rw [e] at this; exact this
    exact ⟨_, rfl, two_kp w s 13 v, h.mid hn rfl rfl fun k _ hk => two_heap w _ _ v k hk⟩
end Go.Proofs.Ythncmahhnbpbkaa
