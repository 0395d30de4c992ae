/- Cast: a map of numbers that were heard, a map of counts by texts. -/
import Derived.Test.YthncmahhnbpbkaaProg
import Derived.Test.YthncmahhnbpbkaaGA
import Derived.Maps.Keyed
namespace Go.Proofs.Ythncmahhnbpbkaa
open Go.RowKit Go.ChangeMaps Go.Maps Go.WideMaps
set_option linter.unusedVariables false
set_option linter.unusedSimpArgs false
theorem kI : Keyed Try.prog 3 := int_keyed Try.underlying3
theorem kS : Keyed Try.prog 9 := string_keyed Try.underlying9
theorem koI {x : Int} (h : (Lit.int .i64 x).wf = true) : keyOf Try.prog 3 (.int .i64 x) = some (.int .i64 x) := keyOf_int_mk Try.underlying3 h
theorem koS {s : ByteArray} (h : s.size ≤ maxLen) : keyOf Try.prog 9 (.string s) = some (.string s.data.toList) := WideMaps.keyOf_string_mk Try.underlying9 h
/-- The numbers in a map, in the order of their coming. -/
def HM (w : World) (b : Nat) (l : List Int) : Prop := ∃ es clock, w.heap[b]? = some (.map es clock) ∧ es.toList.map (fun e => (e.key, e.val)) = l.map (fun x => (Value.int .i64 x, Value.agg #[])) ∧ ∀ x ∈ l, (Lit.int .i64 x).wf = true
/-- One answer is another. -/
def up1 (f : ByteArray → Int) (s : ByteArray) (n : Int) : ByteArray → Int := fun y => if y = s then n else f y
theorem up1_self (f : ByteArray → Int) (s : ByteArray) (n : Int) : up1 f s n s = n := if_pos rfl
theorem up1_ne {f : ByteArray → Int} {s y : ByteArray} {n : Int} (h : y ≠ s) : up1 f s n y = f y := if_neg h
/-- A map that counts texts. -/
def MM (w : World) (b : Nat) (f : ByteArray → Int) : Prop := ∃ es clock, w.heap[b]? = some (.map es clock) ∧ (∀ e ∈ es.toList, ∃ s : ByteArray, s.size ≤ maxLen ∧ e.key = .string s ∧ e.val = .int .i64 (f s)) ∧ (∀ s : ByteArray, (∀ e ∈ es.toList, e.key ≠ .string s) → f s = 0) ∧ (es.toList.map (·.key)).Nodup
theorem HM.same {w w' : World} {b : Nat} {l : List Int} (h : HM w b l) (e : w'.heap[b]? = w.heap[b]?) : HM w' b l := by
  obtain ⟨es, c, h1, h2⟩ := h
  exact ⟨es, c, e.trans h1, h2⟩
theorem MM.same {w w' : World} {b : Nat} {f : ByteArray → Int} (h : MM w b f) (e : w'.heap[b]? = w.heap[b]?) : MM w' b f := by
  obtain ⟨es, c, h1, h2⟩ := h
  exact ⟨es, c, e.trans h1, h2⟩
theorem HM.keys {l : List Int} {es : Array MapEntry} (h2 : es.toList.map (fun e => (e.key, e.val)) = l.map (fun x => (Value.int .i64 x, Value.agg #[]))) (h3 : ∀ x ∈ l, (Lit.int .i64 x).wf = true) : ∀ e ∈ es.toList, ∃ q, keyOf Try.prog 3 e.key = some q := fun e he => by
  have : (e.key, e.val) ∈ es.toList.map (fun e => (e.key, e.val)) := List.mem_map_of_mem (f := fun e : MapEntry => (e.key, e.val)) he
  rw [h2] at this
  obtain ⟨x, hx, hh⟩ := List.mem_map.1 this
  simp only [Prod.mk.injEq] at hh
  rw [← hh.1]; exact ⟨_, koI (h3 x hx)⟩
theorem zeroU (w : World) : (zeroValue 83).run Try.prog w = .ok (.agg #[]) w := by kernel_rfl
theorem zeroIc (w : World) : (zeroValue 3).run Try.prog w = .ok (.int .i64 0) w := by kernel_rfl
/-- Whether a number was heard. -/
theorem HM.look {w : World} {b : Nat} {l : List Int} {x : Int} (h : HM w b l) (hx : (Lit.int .i64 x).wf = true) : (Instr.lookup 61 (.map (some b)) (.int .i64 x) true).run Try.prog w = .ok (.tuple #[.agg #[], .bool (decide (x ∈ l))]) w := by
  obtain ⟨es, c, h1, h2, h3⟩ := h
  rcases kI.find w (koI hx) es.toList (HM.keys h2 h3) with ⟨g1, g2⟩ | ⟨j, e, g1, g2, g3⟩
  · have hn : ¬ x ∈ l := fun hm => by
      have : (Value.int .i64 x, Value.agg #[]) ∈ l.map (fun x => (Value.int .i64 x, Value.agg #[])) := List.mem_map_of_mem (f := fun x => (Value.int .i64 x, Value.agg #[])) hm
      rw [← h2] at this
      obtain ⟨e, he, hh⟩ := List.mem_map.1 this
      simp only [Prod.mk.injEq] at hh
      exact g2 e he hh.1
    simp [Instr.lookup, run_underlying Try.underlying61, MapKept.run_getObj_map h1, kI.check w _ (koI hx), g1, zeroU, Result.andThen, hn]
  · have : (e.key, e.val) ∈ es.toList.map (fun e => (e.key, e.val)) := List.mem_map_of_mem (f := fun e : MapEntry => (e.key, e.val)) (List.mem_of_getElem? g2)
    rw [h2] at this
    obtain ⟨y, hy, hh⟩ := List.mem_map.1 this
    simp only [Prod.mk.injEq] at hh
    rw [g3] at hh
    obtain ⟨e1, e2⟩ := hh
    have e3 : y = x := by injection e1
    subst e3
    simp [Instr.lookup, run_underlying Try.underlying61, MapKept.run_getObj_map h1, kI.check w _ (koI hx), g1, Result.andThen, hy, ← e2]
/-- One more is heard. -/
theorem HM.add {w : World} {b : Nat} {l : List Int} {x : Int} (h : HM w b l) (hx : (Lit.int .i64 x).wf = true) (hn : x ∉ l) : ∃ o, (Instr.mapUpdate 61 (.map (some b)) (.int .i64 x) (.agg #[])).run Try.prog w = .ok () (setBlock w b o) ∧ HM (setBlock w b o) b (l ++ [x]) := by
  obtain ⟨es, c, h1, h2, h3⟩ := h
  rcases kI.find w (koI hx) es.toList (HM.keys h2 h3) with ⟨g1, g2⟩ | ⟨j, e, g1, g2, g3⟩
  · refine ⟨.map (es.push ⟨.int .i64 x, .agg #[], c⟩) (c + 1), ?_, _, _, heap_setBlock_same h1 _, by simp [h2], ?_⟩
    · simp [Instr.mapUpdate, run_underlying Try.underlying61, MapKept.run_getObj_map h1, kI.check w false (koI hx), g1, MapKept.run_setObj_map _ h1, Result.andThen, setBlock]
    · intro y hy
      rw [List.mem_append, List.mem_singleton] at hy
      rcases hy with hy | rfl
      · exact h3 y hy
      · exact hx
  · exfalso
    have : (e.key, e.val) ∈ es.toList.map (fun e => (e.key, e.val)) := List.mem_map_of_mem (f := fun e : MapEntry => (e.key, e.val)) (List.mem_of_getElem? g2)
    rw [h2] at this
    obtain ⟨y, hy, hh⟩ := List.mem_map.1 this
    simp only [Prod.mk.injEq] at hh
    rw [g3] at hh
    have e3 : y = x := by injection hh.1
    exact hn (e3 ▸ hy)
theorem MM.keys {f : ByteArray → Int} {es : Array MapEntry} (h2 : ∀ e ∈ es.toList, ∃ s : ByteArray, s.size ≤ maxLen ∧ e.key = .string s ∧ e.val = .int .i64 (f s)) : ∀ e ∈ es.toList, ∃ q, keyOf Try.prog 9 e.key = some q := fun e he => by
  obtain ⟨s, hs, e1, _⟩ := h2 e he
  exact ⟨_, by rw [e1]; exact koS hs⟩
/-- How often a text came. -/
theorem MM.look {w : World} {b : Nat} {f : ByteArray → Int} {s : ByteArray} (h : MM w b f) (hs : s.size ≤ maxLen) : (Instr.lookup 62 (.map (some b)) (.string s) false).run Try.prog w = .ok (.int .i64 (f s)) w := by
  obtain ⟨es, c, h1, h2, h3, h4⟩ := h
  rcases kS.find w (koS hs) es.toList (MM.keys h2) with ⟨g1, g2⟩ | ⟨j, e, g1, g2, g3⟩
  · simp [Instr.lookup, run_underlying Try.underlying62, MapKept.run_getObj_map h1, kS.check w _ (koS hs), g1, zeroIc, Result.andThen, h3 s g2]
  · obtain ⟨s', _, e1, e2⟩ := h2 e (List.mem_of_getElem? g2)
    rw [g3] at e1
    have e3 : s = s' := by injection e1
    subst e3
    simp [Instr.lookup, run_underlying Try.underlying62, MapKept.run_getObj_map h1, kS.check w _ (koS hs), g1, Result.andThen, e2]
/-- It came once more. -/
theorem MM.put {w : World} {b : Nat} {f : ByteArray → Int} {s : ByteArray} {n : Int} (h : MM w b f) (hs : s.size ≤ maxLen) : ∃ o, (Instr.mapUpdate 62 (.map (some b)) (.string s) (.int .i64 n)).run Try.prog w = .ok () (setBlock w b o) ∧ MM (setBlock w b o) b (up1 f s n) := by
  obtain ⟨es, c, h1, h2, h3, h4⟩ := h
  rcases kS.find w (koS hs) es.toList (MM.keys h2) with ⟨g1, g2⟩ | ⟨j, e, g1, g2, g3⟩
  · refine ⟨.map (es.push ⟨.string s, .int .i64 n, c⟩) (c + 1), ?_, _, _, heap_setBlock_same h1 _, ?_, ?_, ?_⟩
    · simp [Instr.mapUpdate, run_underlying Try.underlying62, MapKept.run_getObj_map h1, kS.check w false (koS hs), g1, MapKept.run_setObj_map _ h1, Result.andThen, setBlock]
    · intro e he
      simp only [Array.toList_push, List.mem_append, List.mem_singleton] at he
      rcases he with he | rfl
      · obtain ⟨y, hy, e1, e2⟩ := h2 e he
        refine ⟨y, hy, e1, ?_⟩
        have : y ≠ s := fun e3 => g2 e he (by rw [e1, e3])
        rw [up1_ne this]; exact e2
      · exact ⟨s, hs, rfl, by rw [up1_self]⟩
    · intro y hy
      have : y ≠ s := fun e3 => hy ⟨.string s, .int .i64 n, c⟩ (by simp) (by rw [e3])
      rw [up1_ne this]
      exact h3 y fun e he => hy e (by simp [he])
    · rw [Array.toList_push, List.map_append, List.nodup_append]
      refine ⟨h4, by simp, fun x hx z hz => ?_⟩
      obtain ⟨e, he, rfl⟩ := List.mem_map.1 hx
      simp only [List.map_cons, List.map_nil, List.mem_singleton] at hz
      rw [hz]; exact g2 e he
  · have hje : es[j]? = some e := by rw [← Array.getElem?_toList]; exact g2
    have hset : (es.modify j fun e => { e with key := .string s, val := .int .i64 n }).toList = es.toList.set j { e with key := .string s, val := .int .i64 n } := by
      apply List.ext_getElem?
      intro i
      rw [Array.getElem?_toList, Array.getElem?_modify, List.getElem?_set, Array.getElem?_toList]
      by_cases hi : j = i
      · subst hi
        have hjl : j < es.toList.length := (List.getElem?_eq_some_iff.1 g2).1
        simp [hje]; simpa using hjl
      · rw [if_neg hi, if_neg hi]
    have hkey : (es.toList.set j { e with key := .string s, val := .int .i64 n }).map (·.key) = es.toList.map (·.key) := by
      rw [List.map_set]
      refine List.ext_getElem? fun i => ?_
      rw [List.getElem?_set]
      by_cases hi : j = i
      · subst hi
        rw [if_pos rfl, List.getElem?_map, g2, if_pos (by rw [List.length_map]; exact (List.getElem?_eq_some_iff.1 g2).1)]
        simp [g3]
      · rw [if_neg hi]
    have hoth : ∀ i x, i ≠ j → es.toList[i]? = some x → x.key ≠ .string s := fun i x hi hx hk => by
      refine hi ((List.getElem?_inj (h₀ := ?_) h4).1 ?_)
      · rw [List.length_map]; exact (List.getElem?_eq_some_iff.1 hx).1
      · rw [List.getElem?_map, List.getElem?_map, hx, g2]; simp [hk, g3]
    have hmem : ∀ x, x ∈ es.toList.set j { e with key := .string s, val := .int .i64 n } → (x ∈ es.toList ∧ x.key ≠ .string s) ∨ (x.key = .string s ∧ x.val = .int .i64 n) := by
      intro x hx
      obtain ⟨i, hi⟩ := List.getElem?_of_mem hx
      rw [List.getElem?_set] at hi
      by_cases e3 : j = i
      · subst e3
        rw [if_pos rfl, if_pos (List.getElem?_eq_some_iff.1 g2).1] at hi
        cases hi; exact .inr ⟨rfl, rfl⟩
      · rw [if_neg e3] at hi
        exact .inl ⟨List.mem_of_getElem? hi, hoth i x (fun h => e3 h.symm) hi⟩
    refine ⟨.map (es.modify j fun e => { e with key := .string s, val := .int .i64 n }) c, ?_, _, _, heap_setBlock_same h1 _, ?_, ?_, ?_⟩
    · simp [Instr.mapUpdate, run_underlying Try.underlying62, MapKept.run_getObj_map h1, kS.check w false (koS hs), g1, MapKept.run_setObj_map _ h1, Result.andThen, setBlock, hje, g3, kS.stays w (koS hs)]
    · rw [hset]
      intro x hx
      rcases hmem x hx with ⟨k1, k2⟩ | ⟨k1, k2⟩
      · obtain ⟨y, hy, e1, e2⟩ := h2 x k1
        refine ⟨y, hy, e1, ?_⟩
        have : y ≠ s := fun e3 => k2 (by rw [e1, e3])
        rw [up1_ne this]; exact e2
      · exact ⟨s, hs, k1, by rw [up1_self]; exact k2⟩
    · rw [hset]
      intro y hy
      have hy2 : ∀ z ∈ es.toList.map (·.key), z ≠ .string y := by
        rw [← hkey]; intro z hz
        obtain ⟨x, hx, rfl⟩ := List.mem_map.1 hz
        exact hy x hx
      have : y ≠ s := fun e3 => hy2 e.key (List.mem_map_of_mem (f := fun e : MapEntry => e.key) (List.mem_of_getElem? g2)) (by rw [g3, e3])
      rw [up1_ne this]
      exact h3 y fun e he => hy2 e.key (List.mem_map_of_mem (f := fun e : MapEntry => e.key) he)
    · rw [hset, hkey]; exact h4
theorem mkH (w : World) : (Instr.makeMap 61 none).run Try.prog w = .ok (.map (some w.heap.size)) (w.alloc (.map #[] 0)) := by
  simp [Instr.makeMap, Result.andThen]
theorem mkS (w : World) : (Instr.makeMap 62 none).run Try.prog w = .ok (.map (some w.heap.size)) (w.alloc (.map #[] 0)) := by
  simp [Instr.makeMap, Result.andThen]
theorem HM.new {w : World} {b : Nat} {c : Nat} (h : w.heap[b]? = some (.map #[] c)) : HM w b [] := ⟨_, _, h, by simp, by simp⟩
theorem MM.new {w : World} {b : Nat} {c : Nat} (h : w.heap[b]? = some (.map #[] c)) : MM w b fun _ => 0 := ⟨_, _, h, by simp, by simp, by simp⟩
end Go.Proofs.Ythncmahhnbpbkaa
