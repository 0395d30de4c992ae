/- The reference's Expand: its walk. -/
import Derived.Test.YtbgdcgboomdimaaDoorRN2
import Derived.Test.YtbgdcgboomdimaaDoorMP1
namespace Go.Proofs.YtbgdcgboomdimaaDoor
open Go.RowKit
set_option linter.unusedVariables false
set_option linter.unusedSimpArgs false
theorem wpList_app2 {P : Program} {w w' : World} {ops : Array Oper} {rest : List Oper} {o : Oper} {a : Act} {Q : Exit → Act → World → Prop} (hgd : o.guard = none) (s x : Operand) (t : TypeId) (ho : o.op = .call { callee := .builtin .append, args := #[s, x], argTypes := #[t, t] }) (vs vx v : Value) (hs : a.eval s = vs) (hx : a.eval x = vx) (hr : (Builtin.append_ #[t, t] o.type #[vs, vx]).run P w = .ok v w') (h : wpList P ops Q rest (a.put o.dst v) w') : wpList P ops Q (o :: rest) a w := by
  refine wpList_plain hgd fun K hK => ?_
  unfold Oper.wp execOp
  simp only [ho, resolve, invoke, builtin, Sem.run_bind, Sem.run_pure, Result.andThen_ok, List.map_toArray, List.map_cons, List.map_nil, hs, hx, hr]
  exact hK _ _ h
/-- Such bytes and a number, as a tuple. -/
def PTX (e : Int) (xs : List Nat) (u : World) (v : Value) : Prop := ∃ y, v = .tuple #[y, .int .i64 e] ∧ IN u u.heap.size y xs
/-- An append of bytes onto a row of one's own: the old block, or a new one. -/
theorem app_row {n m bo co : Nat} {xs ys : List Nat} {zs : List Value} {y : Value} {ty : TypeId} {u : World} (hc : CV u bo (U8 xs ++ zs)) (hb : bo < u.heap.size) (hxl : xs.length = n) (hyl : ys.length = m) (hnc : n ≤ co) (hz : zs.length = co - n) (hl : n + m ≤ 1000000) (hy : NW m (U8 ys) u y) :
    ∃ v u', (Builtin.append_ #[22, 22] ty #[.slice (some ⟨bo, 0, none⟩) n co, y]).run Tryd.prog u = .ok v u' ∧ u.grownBy u' (some bo) ∧ PH u.heap.size bo 1 (n + m) (U8 (xs ++ ys)) u' v := by
  obtain ⟨ti, hti, htm⟩ := Option.map_eq_some_iff.1 infoB
  simp only [Prod.mk.injEq] at htm
  obtain ⟨hzv, hsz, hby⟩ := htm
  obtain ⟨v', u', hr, hg, hp⟩ := run_app (P := Tryd.prog) u (ty := ty) Tryd.underlying22 hti hzv (by rw [hsz]; rfl) (base := u.heap.size) (n := n) (cap := co) (m := m) (news := U8 ys) hc hb (by rw [hsz, U8_len]; omega) (by rw [hsz]; omega) hnc (Nat.le_refl _) hy (by rw [hsz, U8_len]; omega) U8_mem (by rw [hby]; omega) (by omega)
  rw [hsz, ← U8_app] at hp
  exact ⟨v', u', hr, hg, hp⟩
theorem IN_of_txt (u : World) (s : ByteArray) : IN (Lib.bytesWorld u 5 s) (Lib.bytesWorld u 5 s).heap.size (.slice (some ⟨u.heap.size, 0, none⟩) s.size (grownCap u s.size 0 5)) (txt s) ∧ Below u.heap.size u (Lib.bytesWorld u 5 s) := by
  have hsz := Lib.bytesWorld_size u 5 s
  refine ⟨⟨_, _, u.heap.size, 0, by rw [txt_len], by rw [txt_len]; exact grownCap_ge u s.size 0 _, .inr rfl, by omega, fun j hj => ?_⟩, ⟨rfl, rfl, rfl, by omega, fun k hk => Lib.bytesWorld_at_old u 5 s k hk⟩⟩
  rw [txt_len] at hj
  rw [Nat.zero_add, Lib.bytesWorld_cell u 5 s j hj]
  have hj2 : j < s.data.toList.length := by rw [Array.length_toList]; exact hj
  have e1 : s.data.toList.getD j 0 = s.data.toList[j] := by rw [List.getD_eq_getElem?_getD, List.getElem?_eq_getElem hj2]; rfl
  have e2 : (txt s).getD j 0 = (s.data.toList[j]).toNat := by rw [List.getD_eq_getElem?_getD, txt, List.getElem?_map, List.getElem?_eq_getElem hj2]; rfl
  rw [e1, e2]
theorem PZ_new (u : World) : PZ u.heap.size (u.alloc (.cells #[] 5)) (.slice (some ⟨u.heap.size, 0, none⟩) 0 0) := ⟨_, rfl, Nat.le_refl _, by simp⟩
theorem NW_one (u : World) (x : Nat) : NW 1 (U8 [x]) (u.alloc (.cells #[.int .u8 (x : Int)] 5)) (.slice (some ⟨u.heap.size, 0, none⟩) 1 1) :=
  ⟨_, 1, rfl, .inr ⟨_, rfl, fun j v hj => by rw [Addr.add0]; exact (CV.new u (U8 [x]) 5 j v hj).1⟩⟩
/-- What a round of the reference's Expand reckons ahead of the digest. -/
theorem round_a {wr : World} {lv : Value} {tk : List Nat} (hlv : IN wr wr.heap.size lv tk) (hl : tk.length ≤ 1000) : ∃ v u, (Builtin.append_ #[22, 22] 22 #[.slice (some ⟨wr.heap.size, 0, none⟩) 0 0, lv]).run Tryd.prog (wr.alloc (.cells #[] 5)) = .ok v u ∧ Below wr.heap.size wr u ∧ PG wr.heap.size 1 tk.length (U8 tk) u v := by
  have hB : Below wr.heap.size wr (wr.alloc (.cells #[] 5)) := balloc (bself wr) _
  obtain ⟨v, u, h1, h2, h3⟩ := app_PZ (ty := 22) (lo := wr.heap.size) hB.size (by omega) ((hlv.below hB).mono hB.size) (PZ_new wr)
  exact ⟨v, u, h1, bstep hB h2, h3⟩
theorem round_b {wr u1 : World} {v1 : Value} {tk : List Nat} {s : ByteArray} (hB : Below wr.heap.size wr u1) (h : PG wr.heap.size 1 tk.length (U8 tk) u1 v1) (hl : tk.length ≤ 1000) (hs : s.size ≤ 1000) : ∃ v u, (Builtin.append_ #[22, 22] 22 #[v1, .slice (some ⟨u1.heap.size, 0, none⟩) s.size (grownCap u1 s.size 0 5)]).run Tryd.prog (Lib.bytesWorld u1 5 s) = .ok v u ∧ Below wr.heap.size wr u ∧ PG wr.heap.size 1 (tk ++ txt s).length (U8 (tk ++ txt s)) u v := by
  obtain ⟨h1, h2⟩ := IN_of_txt u1 s
  have hB2 := bstep hB h2
  have htl := txt_len s
  have hn := IN_NW h1
  rw [htl] at hn
  obtain ⟨v, u, b, r1, r2, r3, r4⟩ := app_PG (ty := 22) hB2.size rfl htl (by omega) hn (h.stab h2)
  refine ⟨v, u, r1, hB2.grown r3 hB2.size (fun k e => by cases e; exact r2), ?_⟩
  rw [List.length_append, htl]; exact r4
theorem round_c {wr u2 : World} {v2 : Value} {tk : List Nat} {x : Nat} (hB : Below wr.heap.size wr u2) (h : PG wr.heap.size 1 tk.length (U8 tk) u2 v2) (hl : tk.length ≤ 3000) : ∃ v u, (Builtin.append_ #[22, 22] 22 #[v2, .slice (some ⟨u2.heap.size, 0, none⟩) 1 1]).run Tryd.prog (u2.alloc (.cells #[.int .u8 (x : Int)] 5)) = .ok v u ∧ Below wr.heap.size wr u ∧ IN u u.heap.size v (tk ++ [x]) := by
  have h2 : Below u2.heap.size u2 (u2.alloc (.cells #[.int .u8 (x : Int)] 5)) := balloc (bself u2) _
  have hB2 := bstep hB h2
  obtain ⟨v, u, b, r1, r2, r3, r4⟩ := app_PG (ty := 22) (m := 1) (ys := [x]) hB2.size rfl rfl (by omega) (NW_one u2 x) (h.stab h2)
  refine ⟨v, u, r1, hB2.grown r3 hB2.size (fun k e => by cases e; exact r2), ?_⟩
  have e : (tk ++ [x]).length = tk.length + 1 := by rw [List.length_append]; rfl
  rw [← e] at r4
  exact PG_in r4
end Go.Proofs.YtbgdcgboomdimaaDoor
