/- Copies of bytes, and bytes that are the same. -/
import Derived.Test.YtlcjbnhfmcnnfaaDoorMC4
namespace Go.Proofs.YtlcjbnhfmcnnfaaDoor
open Go.RowKit
set_option linter.unusedVariables false
set_option linter.unusedSimpArgs false
theorem ent_seneschalbase_Bytes (vs : Array Value) (w : World) : (callFunc 14 vs).run Tryd.prog w = .ok (.enter 14 vs) w := by kernel_rfl
theorem ent_seneschalbase_SameBytes (vs : Array Value) (w : World) : (callFunc 21 vs).run Tryd.prog w = .ok (.enter 21 vs) w := by kernel_rfl
theorem bs0b (w : World) : (Instr.buildSlice 24 0 #[]).run Tryd.prog w = .ok (.slice (some ⟨w.heap.size, 0, none⟩) 0 0) (w.alloc (.cells #[] 5)) := by kernel_rfl
theorem IN_NW {u : World} {m : Nat} {v : Value} {xs : List Nat} (h : IN u m v xs) : NW xs.length (U8 xs) u v := by
  obtain ⟨sl, cap, gb, go, rfl, h1, h2, h3, h4⟩ := h
  refine ⟨sl, cap, rfl, h2.imp_right fun e => ⟨_, e, fun j v hj => ?_⟩⟩
  have hj' : j < xs.length := by have := (List.getElem?_eq_some_iff.1 hj).1; rwa [U8_len] at this
  rw [Addr.addo, h4 j hj', ← hj]
  exact (U8_get xs j hj').symm
/-- Bytes appended to none. -/
theorem app_PZ {lo : Nat} {xs : List Nat} {y : Value} {ty : TypeId} {u : World} {vs : Value} (hlo : lo ≤ u.heap.size) (hl : xs.length ≤ 1000000) (hy : IN u u.heap.size y xs) (h : PZ lo u vs) :
    ∃ v u', (Builtin.append_ #[24, 24] ty #[vs, y]).run Tryd.prog u = .ok v u' ∧ Below u.heap.size u u' ∧ PG lo 1 xs.length (U8 xs) u' v := by
  obtain ⟨b, rfl, h1, h2⟩ := h
  obtain ⟨ti, hti, htm⟩ := Option.map_eq_some_iff.1 infoB
  simp only [Prod.mk.injEq] at htm
  obtain ⟨hzv, hsz, hby⟩ := htm
  obtain ⟨v', u', hr, hB, hg⟩ := run_appF (P := Tryd.prog) u (ty := ty) Tryd.underlying24 hti hzv (by rw [hsz]; rfl) (n := 0) (m := xs.length) (xs := []) (news := U8 xs) (fun j v h => by simp at h) h1 hlo h2 (by simp) (IN_NW hy) (by rw [hsz, U8_len]; omega) (by rw [hby]; omega) (by omega)
  rw [hsz, Nat.zero_add, List.nil_append] at hg
  exact ⟨v', u', hr, hB, hg⟩
theorem PG_in {lo s : Nat} {xs : List Nat} {u : World} {y : Value} (h : PG lo s xs.length (U8 xs) u y) : IN u u.heap.size y xs := by
  obtain ⟨b, cap, zs, rfl, h1, h2, h3, h4, h5⟩ := h
  refine ⟨_, _, b, 0, rfl, h3, .inr rfl, h2, fun j hj => ?_⟩
  rw [Nat.zero_add]; exact (h5.pre2 j _ (U8_get xs j hj)).1
theorem PG_sn {lo s n : Nat} {xs : List Value} {u : World} {y : Value} (h : PG lo s n xs u y) : ∀ n c, y = .slice none n c → c = 0 := fun n c e => by
  obtain ⟨b, cap, zs, rfl, _⟩ := h; cases e
set_option maxRecDepth 100000 in
set_option maxHeartbeats 4000000 in
theorem cBytes (xs : List Nat) (y : Value) (w : World) (hxl : xs.length ≤ 1000000) (hIN : Hid (IN w w.heap.size y xs)) :
    Calls Tryd.prog 14 #[y] w fun e w' => ∃ v, e = .returned v ∧ PG w.heap.size 1 xs.length (U8 xs) w' v ∧ Below w.heap.size w w' := by
  go_enter Tryd.func14, Tryd.ntmps14
  have HB0 : Below w.heap.size w w := Below.refl _ _
  have K0_1 := Bk.nil (w.heap.size) w
  go_upto_region 1 with fail
  refine rgF K0_1 HB0 HB0.size [] [] [(1, 4, y)] [] [] [⟨0, 3, some 2, PZ w.heap.size⟩, ⟨2, 5, some 3, PG w.heap.size 1 xs.length (U8 xs)⟩, ⟨3, 2, none, PG w.heap.size 1 xs.length (U8 xs)⟩] [] (.cons (fun _ _ _ h1 h2 => h2.stab h1) <| .cons (fun _ _ _ h1 h2 => h2.stab h1) <| .cons (fun _ _ _ h1 h2 => h2.stab h1) <| Stab.nil) ?_ ?_
  · refine oc (g_bs 0 (PZ w.heap.size) bs0b (fun u hu => PZ.new hu)) ?_
    refine oc g_mv ?_
    refine oc (g_a1 0 1 (PZ w.heap.size) (PG w.heap.size 1 xs.length (U8 xs)) (fun u vs hB hs hv => app_PZ hB.size hxl ((hIN.out.below hB).mono hB.size) hv)) ?_
    exact oc (g_sE 1 2 (PG w.heap.size 1 xs.length (U8 xs))) on
  intro u1 v1_0 hv1_0 v1_2 hv1_2 v1_3 hv1_3 HB1 sz1 K1
  simp only [fX, nK, nP, Wr.f, aK, pM] at K1
  simp only [setG, setN, setE, List.set_cons_zero, List.set_cons_succ]
  clear HB0
  have hz := hv1_3 rfl
  go_wp2
  refine bodyPost_ret (v := v1_3) (by simp [results, Tryd.results14, go_sem]) rfl ⟨_, rfl, hz, HB1⟩
theorem eql_str (p q : Operand) (s t : ByteArray) (b : Bool) (w : World) (h : decide (s = t) = b) : (do eqGuard .eql 9 p q (.string s) (.string t); binOp .eql 9 (.string s) (.string t) : Sem Value).run Tryd.prog w = .ok (.bool b) w := by
  have hb : (s.toList == t.toList) = b := by
    subst h
    by_cases e : s = t
    · subst e; simp
    · have e2 : ¬ s.toList = t.toList := fun h => e (by
        rw [ByteArray.toList_eq, ByteArray.toList_eq] at h
        cases s; cases t
        exact congrArg ByteArray.mk (Array.toList_inj.1 h))
      simp [e, e2]
  rw [← hb]
  go_simp
theorem strB_inj {xs ys : List Nat} (hx : ∀ x ∈ xs, x < 256) (hy : ∀ x ∈ ys, x < 256) : strB xs = strB ys ↔ xs = ys := by
  constructor
  · intro h
    have h1 := congrArg (fun s => s.data.toList) h
    simp only [strB, strOfNums_data, List.map_map] at h1
    have hl : xs.length = ys.length := by have := congrArg List.length h1; simpa using this
    refine List.ext_getElem hl fun j a b => ?_
    have h2 := congrArg (fun l => l[j]?) h1
    simp [List.getElem?_eq_getElem a, List.getElem?_eq_getElem b] at h2
    have h3 := congrArg UInt8.toNat h2
    have e1 := hx _ (List.getElem_mem a)
    have e2 := hy _ (List.getElem_mem b)
    simp [UInt8.toNat_ofNat'] at h3
    omega
  · rintro rfl; rfl
theorem IN.str {u : World} {m : Nat} {v : Value} {xs : List Nat} (h : IN u m v xs) : ∃ sl n cap, v = .slice sl n cap ∧ xs.length = n ∧ (n = 0 ∨ ∃ b off, sl = some ⟨b, off, none⟩ ∧ SB u b off xs) := by
  obtain ⟨sl, cap, gb, go, rfl, h1, h2, h3, h4⟩ := h
  exact ⟨sl, _, cap, rfl, rfl, h2.imp_right fun e => ⟨_, _, e, h4⟩⟩
set_option maxRecDepth 100000 in
set_option maxHeartbeats 4000000 in
theorem cSameB_core (n cap n2 cap2 : Nat) (sl sl2 : Option Addr) (s t : ByteArray) (r : Bool) (w : World) (hr : decide (s = t) = r) (h1 : Hid (∀ {o : Oper} {ev : Operand → Value} {x : Operand} (u : World), Below w.heap.size w u → o.op = .convert 24 9 x → ev x = .slice sl n cap → (execOp ev o).run Tryd.prog u = .ok (.value (.string s)) u)) (h2 : Hid (∀ {o : Oper} {ev : Operand → Value} {x : Operand} (u : World), Below w.heap.size w u → o.op = .convert 24 9 x → ev x = .slice sl2 n2 cap2 → (execOp ev o).run Tryd.prog u = .ok (.value (.string t)) u)) :
    Calls Tryd.prog 21 #[.slice sl n cap, .slice sl2 n2 cap2] w fun e w' => e = .returned (.bool r) ∧ Below w.heap.size w w' := by
  go_enter Tryd.func21, Tryd.ntmps21
  have HB0 : Below w.heap.size w w := Below.refl _ _
  have K0_1 := Bk.nil (w.heap.size) w
  go_upto_region 1 with fail
  refine rgP K0_1 HB0 HB0.size [] [] [(0, 5, (.slice sl n cap)), (1, 6, .string s), (2, 7, (.slice sl2 n2 cap2)), (3, 8, .string t), (4, 9, .bool r), (5, 4, .bool r)] [] [] [] ?_ ?_
  · refine oc g_mv ?_
    refine oc (g_ko (fun fZ ev uZ kZ bZ he => h1.out uZ bZ rfl (he _ _ rfl))) ?_
    refine oc g_mv ?_
    refine oc (g_ko (fun fZ ev uZ kZ bZ he => h2.out uZ bZ rfl (he _ _ rfl))) ?_
    refine oc (g_bn (fun uZ => eql_str _ _ s t r uZ hr)) ?_
    exact oc g_as on
  intro u1 HB1 sz1 K1
  simp only [fX, nK, nP, Wr.f, aK, pM] at K1
  simp only [setG, setN, List.set_cons_zero, List.set_cons_succ]
  clear HB0
  go_wp2
  refine bodyPost_ret (v := .bool r) (by simp [results, Tryd.results21, go_sem, ]) rfl ⟨rfl, HB1⟩
theorem cSameB (xs ys : List Nat) (v v2 : Value) (w : World) (h : IN w w.heap.size v xs) (h' : IN w w.heap.size v2 ys) (hx : ∀ x ∈ xs, x < 256) (hy : ∀ x ∈ ys, x < 256) :
    Calls Tryd.prog 21 #[v, v2] w fun e w' => e = .returned (.bool (decide (xs = ys))) ∧ Below w.heap.size w w' := by
  obtain ⟨sl, cap, gb, go, rfl, a1, a2, a3, a4⟩ := h
  obtain ⟨sl2, cap2, gb2, go2, rfl, b1, b2, b3, b4⟩ := h'
  refine cSameB_core xs.length cap ys.length cap2 sl sl2 (strB xs) (strB ys) _ w (by rw [decide_eq_decide]; exact strB_inj hx hy) (fun u hB ho hx => ?_) (fun u hB ho hx => ?_)
  · exact cvS xs u rfl (a2.imp_right fun e => ⟨_, _, e, a4.below hB a3⟩) ho hx
  · exact cvS ys u rfl (b2.imp_right fun e => ⟨_, _, e, b4.below hB b3⟩) ho hx
theorem eql_bs (p q : Operand) (r : Bool) (w : World) : (do eqGuard .eql 4 p q (.bool r) (.bool r); binOp .eql 4 (.bool r) (.bool r) : Sem Value).run Tryd.prog w = .ok (.bool true) w := by
  cases r <;> go_simp
end Go.Proofs.YtlcjbnhfmcnnfaaDoor
