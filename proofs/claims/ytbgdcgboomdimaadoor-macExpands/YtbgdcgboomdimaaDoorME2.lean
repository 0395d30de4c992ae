/- Expand. -/
import Derived.Test.YtbgdcgboomdimaaDoorME1
import Derived.Lib.ConvBytes
namespace Go.Proofs.YtbgdcgboomdimaaDoor
open Go.RowKit
set_option linter.unusedVariables false
set_option linter.unusedSimpArgs false
/-- A text's bytes. -/
def txt (s : ByteArray) : List Nat := s.data.toList.map (·.toNat)
theorem txt_len (s : ByteArray) : (txt s).length = s.size := by unfold txt; rw [List.length_map, Array.length_toList]; rfl
theorem txt_m (s : ByteArray) : ∀ x ∈ txt s, x < 256 := fun x hx => by
  obtain ⟨y, _, rfl⟩ := List.mem_map.1 hx; exact y.toNat_lt
/-- Bytes that lie somewhere below. -/
def PIN (xs : List Nat) (u : World) (y : Value) : Prop := IN u u.heap.size y xs
theorem PIN.stab {xs : List Nat} {u v : World} {x : Value} (hB : Below u.heap.size u v) (h : PIN xs u x) : PIN xs v x := (IN.below h hB).mono hB.size
theorem cvSB {o : Oper} {ev : Operand → Value} {x : Operand} {s : ByteArray} (u : World) (ho : o.op = .convert 9 22 x) (hx : ev x = .string s) : ∃ v u', (execOp ev o).run Tryd.prog u = .ok (.value v) u' ∧ Below u.heap.size u u' ∧ PIN (txt s) u' v := by
  have hr := Lib.run_convert_string_bytes (P := Tryd.prog) u 9 22 5 s Tryd.underlying9 Tryd.underlying22 Tryd.underlying5
  have hsz := Lib.bytesWorld_size u 5 s
  refine ⟨.slice (some ⟨u.heap.size, 0, none⟩) s.size (grownCap u s.size 0 5), Lib.bytesWorld u 5 s, ?_, ?_, ?_⟩
  · unfold execOp; rw [ho]; simp only [hx, Sem.run_bind, hr, Result.andThen_ok, Sem.run_pure]
  · exact ⟨rfl, rfl, rfl, by omega, fun k hk => Lib.bytesWorld_at_old u 5 s k hk⟩
  · refine ⟨_, _, u.heap.size, 0, by rw [txt_len], by rw [txt_len]; exact grownCap_ge u s.size 0 _, .inr rfl, by omega, fun j hj => ?_⟩
    rw [txt_len] at hj
    rw [Nat.zero_add, Lib.bytesWorld_cell u 5 s j hj]
    have hj2 : j < s.data.toList.length := by rw [Array.length_toList]; exact hj
    have e1 : s.data.toList.getD j 0 = s.data.toList[j] := by rw [List.getD_eq_getElem?_getD, List.getElem?_eq_getElem hj2]; rfl
    have e2 : (txt s).getD j 0 = (s.data.toList[j]).toNat := by rw [List.getD_eq_getElem?_getD, txt, List.getElem?_map, List.getElem?_eq_getElem hj2]; rfl
    rw [e1, e2]
theorem PQ_LV {lo : Nat} {ps : List (List Nat)} {u : World} {y : Value} (h : PQ lo ps u y) : LV u y ps := by
  obtain ⟨b, cap, rfl, _, h2, h3⟩ := h
  exact ⟨_, cap, b, 0, rfl, .inr rfl, h2, h3⟩
theorem exT_m (k tx : List Nat) : ∀ i, (∀ x ∈ exT k tx i, x < 256) ∧ (exT k tx i).length ≤ 32
  | 0 => by simp [exT]
  | i + 1 => ⟨(exT_B k tx i).mem, by rw [(exT_B k tx i).len]; omega⟩
theorem cExpanded (ks tx : List Nat) (tv : Value) (n : Nat) (w : World) (hV : GV w) (hk : BB 64 ks) (hn : n ≤ 8160) (htv : IN w w.heap.size tv tx) (hx : ∀ x ∈ tx, x < 256) (hl : tx.length ≤ 1000) :
    Calls Tryd.prog 57 #[.agg (U8 (ks)).toArray, tv, .int .i64 (n : Int)] w fun e w' => ∃ v, e = .returned v ∧ PS w.heap.size n (U8 (exN ks tx n)) w' v ∧ Below w.heap.size w w' := by
  refine (cExpanded_core ks tx tv n (exT ks tx) (exS ks tx) w hk.len hn htv rfl (fun k => (exT_B ks tx k).len) (exS_len ks tx) (fun k h => ex_step ks tx k n h) (fun k u y hB hy => ?_)).mono ?_
  · obtain ⟨m1, m2⟩ := exT_m ks tx k
    have e : exT ks tx (k + 1) = hm ks ([exT ks tx k, tx, [(k + 1) % 256]] : List (List Nat)).flatten := by
      rw [exT]; congr 1; simp
    rw [e]
    obtain ⟨a, ea⟩ : ∃ a, exT ks tx k = a := ⟨_, rfl⟩
    rw [ea] at hy m1 m2 ⊢
    exact cHmac ks [a, tx, [(k + 1) % 256]] y u (hV.below hB hV.sz) hk (PQ_LV hy) (by show 3 ≤ 100000; omega) (fun p hp => by
      simp at hp
      rcases hp with rfl | rfl | rfl
      · exact m1
      · exact hx
      · intro x hx; simp at hx; omega) (fun p hp => by
      simp at hp
      rcases hp with rfl | rfl | rfl
      · omega
      · exact hl
      · show 1 ≤ 1000; omega) (by
      rw [List.flatten_cons, List.flatten_cons, List.flatten_cons, List.flatten_nil, List.append_nil, List.length_append, List.length_append]
      show _ + (_ + 1) ≤ _
      omega)
  · rintro e w' ⟨v, e1, ⟨k, h1, h2⟩, h3⟩
    rw [exN_of ks tx k n h1] at h2
    exact ⟨v, e1, h2, h3⟩
set_option maxRecDepth 100000 in
set_option maxHeartbeats 4000000 in
theorem cExpand_core (kv : Value) (s : ByteArray) (n : Nat) (wk ex : List Nat) (w : World) (hn : n ≤ 8160) (hWh : Hid (∀ (u : World), Below w.heap.size w u → Calls Tryd.prog 54 #[kv] u fun e u' => e = .returned (.agg (U8 (wk)).toArray) ∧ Below u.heap.size u u')) (hEx : Hid (∀ (u : World) (y : Value), Below w.heap.size w u → PIN (txt s) u y → Calls Tryd.prog 57 #[.agg (U8 (wk)).toArray, y, .int .i64 ((n : Nat) : Int)] u fun e u' => ∃ v, e = .returned v ∧ PS w.heap.size n (U8 (ex)) u' v ∧ Below u.heap.size u u')) :
    Calls Tryd.prog 34 #[kv, .string s, .int .i64 ((n : Nat) : Int)] w fun e w' => ∃ v, e = .returned v ∧ PT 0 w.heap.size n (U8 (ex)) w' v ∧ Below w.heap.size w w' := by
  go_enter Tryd.func34, Tryd.ntmps34
  have HB0 : Below w.heap.size w w := Below.refl _ _
  have hl1 : decide ((n : Int) < 0) = false := by simp; try omega
  have hl2 : decide ((8160 : Int) < (n : Int)) = false := by simp; omega
  have K0_1 := Bk.nil (w.heap.size) w
  go_upto_region 1 with fail
  refine rgP K0_1 HB0 HB0.size [] [] [(0, 9, .int .i64 ((n : Nat) : Int)), (1, 10, .bool false), (2, 8, .bool false)] [] [] [] ?_ ?_
  · refine oc g_mv ?_
    refine oc (g_bn (fun uZ => lss_i _ _ (n : Int) 0 _ uZ hl1)) ?_
    exact oc g_as on
  intro u1 HB1 sz1 K1
  simp only [fX, nK, nP, Wr.f, aK, pM] at K1
  simp only [setG, setN, List.set_cons_zero, List.set_cons_succ]
  clear HB0
  go_upto_region 3 with fail
  refine rgP K1 HB1 HB1.size [] [] [(0, 12, .int .i64 ((n : Nat) : Int)), (1, 13, .bool false), (2, 11, .bool false)] [] [] [] ?_ ?_
  · refine oc g_mv ?_
    refine oc (g_bn (fun uZ => gtr_i _ _ (n : Int) 8160 _ uZ hl2)) ?_
    exact oc g_as on
  intro u2 HB2 sz2 K2
  simp only [fX, nK, nP, Wr.f, aK, pM] at K2
  simp only [setG, setN, List.set_cons_zero, List.set_cons_succ]
  clear K1 HB1
  go_upto_region 5 with fail
  refine rgF K2 HB2 HB2.size [] [] [(0, 14, kv), (1, 15, .agg (U8 (wk)).toArray), (2, 16, .string s), (4, 18, .int .i64 ((n : Nat) : Int)), (7, 7, (Go.Value.int Go.IntKind.i64 0))] [] [] [⟨3, 17, some 5, PIN (txt s)⟩, ⟨5, 19, some 6, PS w.heap.size n (U8 (ex))⟩, ⟨6, 6, none, PS w.heap.size n (U8 (ex))⟩] [] (.cons (fun _ _ _ h1 h2 => h2.stab h1) <| .cons (fun _ _ _ h1 h2 => h2.stab h1) <| .cons (fun _ _ _ h1 h2 => h2.stab h1) <| Stab.nil) ?_ ?_
  · refine oc g_mv ?_
    refine oc (g_cb ent_mac_whole (fun uZ bZ => hWh.out uZ bZ)) ?_
    refine oc g_mv ?_
    refine oc (g_vE 0 (PIN (txt s)) (fun ev u he bZ hs => cvSB u rfl (he _ _ rfl))) ?_
    refine oc g_mv ?_
    refine oc (g_cZ 0 1 (PIN (txt s)) (PS w.heap.size n (U8 (ex))) (fun y => [.agg (U8 (wk)).toArray, y, .int .i64 ((n : Nat) : Int)]) ent_mac_expanded (fun u y bZ hs hy => hEx.out u y bZ hy)) ?_
    refine oc (g_sE 1 2 (PS w.heap.size n (U8 (ex)))) ?_
    exact oc g_as on
  intro u3 v3_3 hv3_3 v3_5 hv3_5 v3_6 hv3_6 HB3 sz3 K3
  simp only [fX, nK, nP, Wr.f, aK, pM] at K3
  simp only [setG, setN, setE, List.set_cons_zero, List.set_cons_succ]
  clear K2 HB2
  have hz := hv3_6 rfl
  go_wp2
  refine bodyPost_ret (v := .tuple #[v3_6, .int .i64 0]) (by simp [results, Tryd.results34, go_sem]) rfl ⟨_, rfl, ⟨_, rfl, hz⟩, HB3⟩
theorem cExpand (ks : List Nat) (v : Value) (s : ByteArray) (n : Nat) (w : World) (hV : GV w) (hin : IN w w.heap.size v ks) (hsn : ∀ n c, v = .slice none n c → c = 0) (hk : ∀ x ∈ ks, x < 256) (hkl : ks.length ≤ 1000) (hs : s.size ≤ 1000) (hn : n ≤ 8160) :
    Calls Tryd.prog 34 #[v, .string s, .int .i64 ((n : Nat) : Int)] w fun e w' => ∃ v, e = .returned v ∧ PT 0 w.heap.size n (U8 (exN (whl ks) (txt s) n)) w' v ∧ Below w.heap.size w w' :=
  cExpand_core v s n (whl ks) _ w hn (fun u hB => cWhole ks v u (hV.below hB hV.sz) ((hin.below hB).mono hB.size) hsn hk hkl) (fun u y hB hy =>
    (cExpanded (whl ks) (txt s) y n u (hV.below hB hV.sz) (whl_B hk) hn hy (txt_m s) (by rw [txt_len]; exact hs)).mono fun e u' ⟨v, e1, h1, h2⟩ => ⟨v, e1, h1.mono hB.size, h2⟩)
end Go.Proofs.YtbgdcgboomdimaaDoor
