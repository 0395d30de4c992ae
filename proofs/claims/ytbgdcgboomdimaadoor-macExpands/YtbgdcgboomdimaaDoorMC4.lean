/- HMAC: the chapter's example. -/
import Derived.Test.YtbgdcgboomdimaaDoorMC3
import Derived.Test.YtbgdcgboomdimaaDoorSW
namespace Go.Proofs.YtbgdcgboomdimaaDoor
open Go.RowKit
set_option linter.unusedVariables false
set_option linter.unusedSimpArgs false
section
variable {R : Rg} {P : Program} {ops : Array Oper} {Q : Exit → Act → World → Prop} {f : Nat → Bool} {t : Nat → Value} {u : World} {a : Act} {i : Nat} {o : Oper}
/-- A call of two such values. -/
theorem g_cQ (m m2 : Nat) (p p2 : World → Value → Prop) {N : FuncId} {j d j2 d2 : Nat} {tys : Array TypeId} {v : Value} (hr : ∀ (vs : Array Value) (w : World), (callFunc N vs).run P w = .ok (.enter N vs) w)
    (hcall : ∀ (w : World) (x y : Value), Below R.lo R.w w → p w x → p2 w y → Calls P N #[x, y] w fun e w' => e = .returned v ∧ Below w.heap.size w w') (hop : o.op = .call { callee := .value (.func N), args := [.tmp d, .tmp d2].toArray, argTypes := tys } := by rfl) (hm : R.E[m]? = some ⟨j, d, some i, p⟩ := by rfl) (hm2 : R.E[m2]? = some ⟨j2, d2, some i, p2⟩ := by rfl) (hd : (hasDep o j && R.S.contains d && (hasDep o j2 && R.S.contains d2)) = true := by rfl) (hv : some v = pickV i R.G := by rfl) (hc : R.chk ops i o = true := by rfl) : OG R P ops Q i o := fun f t u a X => by
  simp only [Bool.and_eq_true, List.contains_iff_mem] at hd
  obtain ⟨⟨h2, h4⟩, h5, h6⟩ := hd
  have e1 : p u (t d) := X.val hm h2 rfl
  have e2 : p2 u (t d2) := X.val hm2 h5 rfl
  exact X.go (chk_parts hc).choose_spec.2.2.2.2.2.2.2 fun K hK => wp_callF (vs := [t d, t d2]) hop (by rw [List.map_cons, List.map_cons, List.map_nil, X.inS h4, X.inS h6]) hr (hcall u (t d) (t d2) X.I.1.bel e1 e2) fun w' hB => hK _ _ (X.put hv hc (X.I.1.call hB) (X.I.2.1.below hB X.I.1.sz) hB)
end
theorem ent_seneschallaw05_works (vs : Array Value) (w : World) : (callFunc 31 vs).run Tryd.prog w = .ok (.enter 31 vs) w := by kernel_rfl
theorem ent_seneschallaw05_short (vs : Array Value) (w : World) : (callFunc 26 vs).run Tryd.prog w = .ok (.enter 26 vs) w := by kernel_rfl
theorem not_f (w : World) : (Op.unary .not (.bool false)).run Tryd.prog w = .ok (.bool true) w := by go_simp
/-- Bytes of a constant, as they lie in memory. -/
theorem PS_const (xs : List Nat) (n : Nat) (hn : xs.length = n) (w : World) (q : Nat × Nat) (hq : n ≤ q.1) {lo : Nat} (h : lo ≤ w.heap.size) : PS lo n (U8 xs) (w.alloc (.cells (U8 xs).toArray 5 q)) (.slice (some ⟨w.heap.size, 0, none⟩) n n) := by
  refine ⟨w.heap.size, n, rfl, h, by simp, Nat.le_refl _, fun j v hj => ?_⟩
  have hb : (w.alloc (.cells (U8 xs).toArray 5 q)).heap[w.heap.size]? = some (.cells (U8 xs).toArray 5 q) := by
    show (w.heap.push _)[w.heap.size]? = _
    simp
  have hj3 : j < n := by have := (List.getElem?_eq_some_iff.1 hj).1; rw [U8_len] at this; omega
  constructor
  · unfold World.cell?
    rw [hb]
    simpa using hj
  · unfold World.frozen?
    rw [hb]
    simp; omega
def qkb : List Nat := [84, 104, 101, 32, 113, 117, 105, 99, 107, 32, 98, 114, 111, 119, 110, 32, 102, 111, 120, 32, 106, 117, 109, 112, 115, 32, 111, 118, 101, 114, 32, 116, 104, 101, 32, 108, 97, 122, 121, 32, 100, 111, 103]
def kyb : List Nat := [107, 101, 121]
theorem mac_qkb : (mac kyb qkb).take 4 = [247, 188, 131, 244] := by decide +kernel
set_option maxRecDepth 100000 in
set_option maxHeartbeats 4000000 in
theorem works5_core (ds : List Nat) (w : World) (hds : ds.length = 32) (d0 : (U8 (ds))[0]? = some (.int .u8 ((247 : Nat) : Int))) (d1 : (U8 (ds))[1]? = some (.int .u8 ((188 : Nat) : Int))) (d2 : (U8 (ds))[2]? = some (.int .u8 ((131 : Nat) : Int))) (d3 : (U8 (ds))[3]? = some (.int .u8 ((244 : Nat) : Int)))
    (hSu : Hid (∀ (u : World) (y z : Value), Below w.heap.size w u → PS w.heap.size 3 (U8 kyb) u y → PS w.heap.size 43 (U8 qkb) u z → Calls Tryd.prog 27 #[y, z] u fun e u' => e = .returned (.agg (U8 (ds)).toArray) ∧ Below u.heap.size u u')) (hS1 : Hid (∀ (u : World) (x y : Value), PS w.heap.size 1 (U8 [1]) u x → PS w.heap.size 1 (U8 [1]) u y → Calls Tryd.prog 39 #[x, y] u fun e u' => e = .returned (.bool true) ∧ Below u.heap.size u u')) (hS2 : Hid (∀ (u : World) (x y : Value), PS w.heap.size 1 (U8 [1]) u x → PS w.heap.size 1 (U8 [2]) u y → Calls Tryd.prog 39 #[x, y] u fun e u' => e = .returned (.bool false) ∧ Below u.heap.size u u')) :
    Calls Tryd.prog 31 #[] w fun e w' => e = .returned (.bool true) ∧ Below w.heap.size w w' := by
  have kc := fun (w : World) (C : Array Value) (n c : Nat) => Lib.run_convert_bytes_const (P := Tryd.prog) w 22 5 C n c Tryd.underlying22 Tryd.underlying5
  have kc2 : ∀ (o1 : Obj) (C : Array Value) (n c : Nat), (convert 22 22 (.slice (some ⟨w.heap.size + 1, 0, none⟩) n c)).run Tryd.prog ((w.alloc o1).alloc (.cells C 5)) = .ok (.slice (some ⟨w.heap.size + 1, 0, none⟩) n c) ((w.alloc o1).alloc (.cells C 5 (C.size, C.size + 1))) := fun o1 C n c => by
    have h := kc (w.alloc o1) C n c
    rw [show (w.alloc o1).heap.size = w.heap.size + 1 by simp] at h
    exact h
  have hst := sc32 ds hds
  have hU : (U8 ds).length = 32 := by rw [U8_len]; exact hds
  have hy : PS w.heap.size 3 (U8 kyb) ((w.alloc (.cells #[.int .u8 107, .int .u8 101, .int .u8 121] 5 (3, 4))).alloc (.cells #[.int .u8 84, .int .u8 104, .int .u8 101, .int .u8 32, .int .u8 113, .int .u8 117, .int .u8 105, .int .u8 99, .int .u8 107, .int .u8 32, .int .u8 98, .int .u8 114, .int .u8 111, .int .u8 119, .int .u8 110, .int .u8 32, .int .u8 102, .int .u8 111, .int .u8 120, .int .u8 32, .int .u8 106, .int .u8 117, .int .u8 109, .int .u8 112, .int .u8 115, .int .u8 32, .int .u8 111, .int .u8 118, .int .u8 101, .int .u8 114, .int .u8 32, .int .u8 116, .int .u8 104, .int .u8 101, .int .u8 32, .int .u8 108, .int .u8 97, .int .u8 122, .int .u8 121, .int .u8 32, .int .u8 100, .int .u8 111, .int .u8 103] 5 (43, 44))) (.slice (some ⟨w.heap.size, 0, none⟩) 3 3) := (PS_const kyb 3 rfl w (3, 4) (by decide) (Nat.le_refl _)).stab (balloc (bself _) _)
  have hz : PS w.heap.size 43 (U8 qkb) ((w.alloc (.cells #[.int .u8 107, .int .u8 101, .int .u8 121] 5 (3, 4))).alloc (.cells #[.int .u8 84, .int .u8 104, .int .u8 101, .int .u8 32, .int .u8 113, .int .u8 117, .int .u8 105, .int .u8 99, .int .u8 107, .int .u8 32, .int .u8 98, .int .u8 114, .int .u8 111, .int .u8 119, .int .u8 110, .int .u8 32, .int .u8 102, .int .u8 111, .int .u8 120, .int .u8 32, .int .u8 106, .int .u8 117, .int .u8 109, .int .u8 112, .int .u8 115, .int .u8 32, .int .u8 111, .int .u8 118, .int .u8 101, .int .u8 114, .int .u8 32, .int .u8 116, .int .u8 104, .int .u8 101, .int .u8 32, .int .u8 108, .int .u8 97, .int .u8 122, .int .u8 121, .int .u8 32, .int .u8 100, .int .u8 111, .int .u8 103] 5 (43, 44))) (.slice (some ⟨w.heap.size + 1, 0, none⟩) 43 43) := by
    have h := PS_const qkb 43 rfl (w.alloc (.cells #[.int .u8 107, .int .u8 101, .int .u8 121] 5 (3, 4))) (43, 44) (by decide) (lo := w.heap.size) (by simp)
    rw [show (w.alloc (.cells #[.int .u8 107, .int .u8 101, .int .u8 121] 5 (3, 4))).heap.size = w.heap.size + 1 by simp] at h
    exact h
  go_enter Tryd.func31, Tryd.ntmps31
  go_upto_region 2 with (go_at_call 27; refine (hSu.out _ _ _ (balloc (balloc (bself w) _) _) hy hz).mono ?_; rintro e u1 ⟨rfl, hB1⟩)
  have hBA : Below w.heap.size w u1 := bstep (balloc (balloc (bself w) _) _) hB1
  have K0 := bk32 ds hds w.heap.size u1 hBA.size
  have HB0 : Below w.heap.size w ((u1.alloc (.cells #[.int .u8 0, .int .u8 0, .int .u8 0, .int .u8 0, .int .u8 0, .int .u8 0, .int .u8 0, .int .u8 0, .int .u8 0, .int .u8 0, .int .u8 0, .int .u8 0, .int .u8 0, .int .u8 0, .int .u8 0, .int .u8 0, .int .u8 0, .int .u8 0, .int .u8 0, .int .u8 0, .int .u8 0, .int .u8 0, .int .u8 0, .int .u8 0, .int .u8 0, .int .u8 0, .int .u8 0, .int .u8 0, .int .u8 0, .int .u8 0, .int .u8 0, .int .u8 0] 24)).setCells u1.heap.size 0 (U8 ds)) := below_setCells hBA.size (U8 ds) 0 _ (balloc hBA _)
  generalize hC : ((u1.alloc (.cells #[.int .u8 0, .int .u8 0, .int .u8 0, .int .u8 0, .int .u8 0, .int .u8 0, .int .u8 0, .int .u8 0, .int .u8 0, .int .u8 0, .int .u8 0, .int .u8 0, .int .u8 0, .int .u8 0, .int .u8 0, .int .u8 0, .int .u8 0, .int .u8 0, .int .u8 0, .int .u8 0, .int .u8 0, .int .u8 0, .int .u8 0, .int .u8 0, .int .u8 0, .int .u8 0, .int .u8 0, .int .u8 0, .int .u8 0, .int .u8 0, .int .u8 0, .int .u8 0] 24)).setCells u1.heap.size 0 (U8 ds)) = v0 at *
  clear hst hU kc kc2 hB1 hy hz
  have K0_1 : Bk w.heap.size v0 [(false, u1.heap.size, U8 (ds))] := ⟨.c (K0.lt 0) (K0.cv 0) <| trivial, by simp⟩
  go_upto_region 2 with fail
  refine rgF K0_1 HB0 HB0.size [] [] [(0, 7, .pointer (some ⟨u1.heap.size, 0, none⟩)), (1, 8, .int .u8 ((247 : Nat) : Int)), (2, 9, .bool true), (3, 10, .bool true), (4, 11, .pointer (some ⟨u1.heap.size, 1, none⟩)), (5, 12, .int .u8 ((188 : Nat) : Int)), (6, 13, .bool true), (7, 14, .bool true), (8, 15, .bool true), (9, 16, .pointer (some ⟨u1.heap.size, 2, none⟩)), (10, 17, .int .u8 ((131 : Nat) : Int)), (11, 18, .bool true), (12, 19, .bool true), (13, 20, .bool true), (14, 21, .pointer (some ⟨u1.heap.size, 3, none⟩)), (15, 22, .int .u8 ((244 : Nat) : Int)), (16, 23, .bool true), (17, 24, .bool true), (18, 25, .bool true), (21, 28, .bool true), (22, 29, .bool true), (23, 30, .bool true), (26, 33, .bool false), (27, 34, .bool true), (28, 35, .bool true), (29, 0, .bool true)] [] [] [⟨19, 26, some 21, PS w.heap.size 1 (U8 [1])⟩, ⟨20, 27, some 21, PS w.heap.size 1 (U8 [1])⟩, ⟨24, 31, some 26, PS w.heap.size 1 (U8 [1])⟩, ⟨25, 32, some 26, PS w.heap.size 1 (U8 [2])⟩] [false] (.cons (fun _ _ _ h1 h2 => h2.stab h1) <| .cons (fun _ _ _ h1 h2 => h2.stab h1) <| .cons (fun _ _ _ h1 h2 => h2.stab h1) <| .cons (fun _ _ _ h1 h2 => h2.stab h1) <| Stab.nil) ?_ ?_
  · refine oc (g_ix (fun uZ => x32 u1.heap.size 0 uZ (by decide))) ?_
    refine oc (g_lw 0 (0) l8 (d0)) ?_
    refine oc (g_bn (fun uZ => eql_8 _ _ _ 247 247 true uZ rfl)) ?_
    refine oc g_mv ?_
    refine oc (g_ix (fun uZ => x32 u1.heap.size 1 uZ (by decide))) ?_
    refine oc (g_lw 0 (1) l8 (d1)) ?_
    refine oc (g_bn (fun uZ => eql_8 _ _ _ 188 188 true uZ rfl)) ?_
    refine oc g_pk ?_
    refine oc g_mv ?_
    refine oc (g_ix (fun uZ => x32 u1.heap.size 2 uZ (by decide))) ?_
    refine oc (g_lw 0 (2) l8 (d2)) ?_
    refine oc (g_bn (fun uZ => eql_8 _ _ _ 131 131 true uZ rfl)) ?_
    refine oc g_pk ?_
    refine oc g_mv ?_
    refine oc (g_ix (fun uZ => x32 u1.heap.size 3 uZ (by decide))) ?_
    refine oc (g_lw 0 (3) l8 (d3)) ?_
    refine oc (g_bn (fun uZ => eql_8 _ _ _ 244 244 true uZ rfl)) ?_
    refine oc g_pk ?_
    refine oc g_mv ?_
    refine oc (g_bR 0 (PS w.heap.size 1 (U8 [1])) [0] [.int .u8 1] (U8 [1]) (e := 5) (fun w => by kernel_rfl) (fun u hu => PS.new 1 _ _ u (Nat.le_trans HB0.size hu))) ?_
    refine oc (g_bR 1 (PS w.heap.size 1 (U8 [1])) [0] [.int .u8 1] (U8 [1]) (e := 5) (fun w => by kernel_rfl) (fun u hu => PS.new 1 _ _ u (Nat.le_trans HB0.size hu))) ?_
    refine oc (g_cQ 0 1 (PS w.heap.size 1 (U8 [1])) (PS w.heap.size 1 (U8 [1])) ent_mac_Same (fun uZ x y bZ hx hy => hS1.out uZ x y hx hy)) ?_
    refine oc g_pk ?_
    refine oc g_mv ?_
    refine oc (g_bR 2 (PS w.heap.size 1 (U8 [1])) [0] [.int .u8 1] (U8 [1]) (e := 5) (fun w => by kernel_rfl) (fun u hu => PS.new 1 _ _ u (Nat.le_trans HB0.size hu))) ?_
    refine oc (g_bR 3 (PS w.heap.size 1 (U8 [2])) [0] [.int .u8 2] (U8 [2]) (e := 5) (fun w => by kernel_rfl) (fun u hu => PS.new 1 _ _ u (Nat.le_trans HB0.size hu))) ?_
    refine oc (g_cQ 2 3 (PS w.heap.size 1 (U8 [1])) (PS w.heap.size 1 (U8 [2])) ent_mac_Same (fun uZ x y bZ hx hy => hS2.out uZ x y hx hy)) ?_
    refine oc (g_un (fun uZ => not_f uZ)) ?_
    refine oc g_pk ?_
    exact oc g_as on
  intro u1 v1_19 hv1_19 v1_20 hv1_20 v1_24 hv1_24 v1_25 hv1_25 HB1 sz1 K1
  simp only [fX, nK, nP, Wr.f, aK, pM] at K1
  simp only [setG, setN, setE, List.set_cons_zero, List.set_cons_succ]
  clear HB0
  go_wp2
  refine bodyPost_ret (v := .bool true) (by simp [results, Tryd.results31, go_sem, ]) rfl ⟨rfl, HB1⟩
theorem PS_sn {lo n : Nat} {xs : List Value} {u : World} {y : Value} (h : PS lo n xs u y) : ∀ n c, y = .slice none n c → c = 0 := fun n c e => by
  obtain ⟨b, cap, rfl, _⟩ := h; cases e
theorem works5 (w : World) (hV : GV w) : Calls Tryd.prog 31 #[] w fun e w' => e = .returned (.bool true) ∧ Below w.heap.size w w' := by
  have hl := (mac_B kyb qkb).len
  have h4 : ∀ j, j < 4 → (U8 (mac kyb qkb))[j]? = some (.int .u8 ((([247, 188, 131, 244] : List Nat).getD j 0 : Nat) : Int)) := fun j hj => by
    rw [U8_get _ _ (by omega), ← mac_qkb, List.getD_eq_getElem?_getD, List.getD_eq_getElem?_getD, List.getElem?_take_of_lt hj]
  have e1 := h4 0 (by decide)
  have e2 := h4 1 (by decide)
  have e3 := h4 2 (by decide)
  have e4 := h4 3 (by decide)
  clear h4
  have hM : ∀ (u : World) (y z : Value), Below w.heap.size w u → PS w.heap.size 3 (U8 kyb) u y → PS w.heap.size 43 (U8 qkb) u z → Calls Tryd.prog 27 #[y, z] u fun e u' => e = .returned (.agg (U8 (mac kyb qkb)).toArray) ∧ Below u.heap.size u u' := fun u y z hB hy hz =>
    cMac kyb qkb y z u (hV.below hB hV.sz) (PS_in hy) (PS_sn hy) (PS_in hz) (by decide) (by decide) (by decide) (by decide)
  obtain ⟨ds, eds⟩ : ∃ ds, mac kyb qkb = ds := ⟨_, rfl⟩
  rw [eds] at hl e1 e2 e3 e4 hM
  clear eds
  exact works5_core ds w hl e1 e2 e3 e4 hM (fun u x y hx hy => cSame [1] [1] x y u (PS_in hx) (PS_in hy) (by decide) (by decide) (by decide) (by decide)) (fun u x y hx hy => cSame [1] [2] x y u (PS_in hx) (PS_in hy) (by decide) (by decide) (by decide) (by decide))
end Go.Proofs.YtbgdcgboomdimaaDoor
