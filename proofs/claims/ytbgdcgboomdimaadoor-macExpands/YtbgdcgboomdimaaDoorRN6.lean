/- Derive, of the program and of the reference. -/
import Derived.Test.YtbgdcgboomdimaaDoorRN5
import Derived.Test.YtbgdcgboomdimaaDoorME3
namespace Go.Proofs.YtbgdcgboomdimaaDoor
open Go.RowKit
set_option linter.unusedVariables false
set_option linter.unusedSimpArgs false
set_option maxRecDepth 100000 in
set_option maxHeartbeats 2000000 in
theorem cDerive_core (kv sv : Value) (s : ByteArray) (x er : Int) (ds ys : List Nat) (w : World) (hds : ds.length = 32) (hEx : Hid (∀ (u : World), Below w.heap.size w u → Calls Tryd.prog 29 #[sv, kv] u fun e u' => e = .returned (.agg (U8 (ds)).toArray) ∧ Below u.heap.size u u'))
    (hEp : Hid (∀ (u : World) (b : Nat), Below w.heap.size w u → CV u b (U8 (ds)) → b < u.heap.size → Calls Tryd.prog 34 #[.slice (some ⟨b, 0, none⟩) 32 32, .string s, .int .i64 x] u fun e u' => ∃ v, e = .returned v ∧ PTX er ys u' v ∧ Below u.heap.size u u')) :
    Calls Tryd.prog 36 #[kv, sv, .string s, .int .i64 x] w fun e w' => ∃ v, e = .returned v ∧ PTX er ys w' v ∧ Below w.heap.size w w' := by
  have hst := sc32 ds hds
  have hU : (U8 ds).length = 32 := by rw [U8_len]; exact hds
  go_enter Tryd.func36, Tryd.ntmps36
  go_upto_region 2 with (go_at_call 29; refine (hEx.out _ (Below.refl _ _)).mono ?_; rintro e u1 ⟨rfl, hB1⟩)
  have hBA : Below w.heap.size w u1 := hB1
  have K0 := bk32 ds hds w.heap.size u1 hBA.size
  have HB0 : Below w.heap.size w ((u1.alloc (.cells #[.int .u8 0, .int .u8 0, .int .u8 0, .int .u8 0, .int .u8 0, .int .u8 0, .int .u8 0, .int .u8 0, .int .u8 0, .int .u8 0, .int .u8 0, .int .u8 0, .int .u8 0, .int .u8 0, .int .u8 0, .int .u8 0, .int .u8 0, .int .u8 0, .int .u8 0, .int .u8 0, .int .u8 0, .int .u8 0, .int .u8 0, .int .u8 0, .int .u8 0, .int .u8 0, .int .u8 0, .int .u8 0, .int .u8 0, .int .u8 0, .int .u8 0, .int .u8 0] 24)).setCells u1.heap.size 0 (U8 ds)) := below_setCells hBA.size (U8 ds) 0 _ (balloc hBA _)
  generalize hC : ((u1.alloc (.cells #[.int .u8 0, .int .u8 0, .int .u8 0, .int .u8 0, .int .u8 0, .int .u8 0, .int .u8 0, .int .u8 0, .int .u8 0, .int .u8 0, .int .u8 0, .int .u8 0, .int .u8 0, .int .u8 0, .int .u8 0, .int .u8 0, .int .u8 0, .int .u8 0, .int .u8 0, .int .u8 0, .int .u8 0, .int .u8 0, .int .u8 0, .int .u8 0, .int .u8 0, .int .u8 0, .int .u8 0, .int .u8 0, .int .u8 0, .int .u8 0, .int .u8 0, .int .u8 0] 24)).setCells u1.heap.size 0 (U8 ds)) = v0 at *
  have hc0 := K0.cv 0
  have hl0 := K0.lt 0
  clear hst hU hC K0
  go_wp2_with (go_at_call 34; refine (hEp.out _ u1.heap.size HB0 hc0 hl0).mono ?_; rintro e u2 ⟨v, rfl, ⟨y, rfl, hy⟩, hB2⟩)
  exact bodyPost_ret (v := .tuple #[y, .int .i64 er]) (by simp [results, Tryd.results36, go_sem]) rfl ⟨_, rfl, ⟨y, rfl, hy⟩, bstep HB0 hB2⟩
set_option maxRecDepth 100000 in
set_option maxHeartbeats 2000000 in
theorem cDeriveR_core (kv sv : Value) (s : ByteArray) (x er : Int) (ds ys : List Nat) (w : World) (hds : ds.length = 32) (hEx : Hid (∀ (u : World), Below w.heap.size w u → Calls Tryd.prog 30 #[sv, kv] u fun e u' => e = .returned (.agg (U8 (ds)).toArray) ∧ Below u.heap.size u u'))
    (hEp : Hid (∀ (u : World) (b : Nat), Below w.heap.size w u → CV u b (U8 (ds)) → b < u.heap.size → Calls Tryd.prog 35 #[.slice (some ⟨b, 0, none⟩) 32 32, .string s, .int .i64 x] u fun e u' => ∃ v, e = .returned v ∧ PTX er ys u' v ∧ Below u.heap.size u u')) :
    Calls Tryd.prog 37 #[kv, sv, .string s, .int .i64 x] w fun e w' => ∃ v, e = .returned v ∧ PTX er ys w' v ∧ Below w.heap.size w w' := by
  have hst := sc32 ds hds
  have hU : (U8 ds).length = 32 := by rw [U8_len]; exact hds
  go_enter Tryd.func37, Tryd.ntmps37
  go_upto_region 2 with (go_at_call 30; refine (hEx.out _ (Below.refl _ _)).mono ?_; rintro e u1 ⟨rfl, hB1⟩)
  have hBA : Below w.heap.size w u1 := hB1
  have K0 := bk32 ds hds w.heap.size u1 hBA.size
  have HB0 : Below w.heap.size w ((u1.alloc (.cells #[.int .u8 0, .int .u8 0, .int .u8 0, .int .u8 0, .int .u8 0, .int .u8 0, .int .u8 0, .int .u8 0, .int .u8 0, .int .u8 0, .int .u8 0, .int .u8 0, .int .u8 0, .int .u8 0, .int .u8 0, .int .u8 0, .int .u8 0, .int .u8 0, .int .u8 0, .int .u8 0, .int .u8 0, .int .u8 0, .int .u8 0, .int .u8 0, .int .u8 0, .int .u8 0, .int .u8 0, .int .u8 0, .int .u8 0, .int .u8 0, .int .u8 0, .int .u8 0] 24)).setCells u1.heap.size 0 (U8 ds)) := below_setCells hBA.size (U8 ds) 0 _ (balloc hBA _)
  generalize hC : ((u1.alloc (.cells #[.int .u8 0, .int .u8 0, .int .u8 0, .int .u8 0, .int .u8 0, .int .u8 0, .int .u8 0, .int .u8 0, .int .u8 0, .int .u8 0, .int .u8 0, .int .u8 0, .int .u8 0, .int .u8 0, .int .u8 0, .int .u8 0, .int .u8 0, .int .u8 0, .int .u8 0, .int .u8 0, .int .u8 0, .int .u8 0, .int .u8 0, .int .u8 0, .int .u8 0, .int .u8 0, .int .u8 0, .int .u8 0, .int .u8 0, .int .u8 0, .int .u8 0, .int .u8 0] 24)).setCells u1.heap.size 0 (U8 ds)) = v0 at *
  have hc0 := K0.cv 0
  have hl0 := K0.lt 0
  clear hst hU hC K0
  go_wp2_with (go_at_call 35; refine (hEp.out _ u1.heap.size HB0 hc0 hl0).mono ?_; rintro e u2 ⟨v, rfl, ⟨y, rfl, hy⟩, hB2⟩)
  exact bodyPost_ret (v := .tuple #[y, .int .i64 er]) (by simp [results, Tryd.results37, go_sem]) rfl ⟨_, rfl, ⟨y, rfl, hy⟩, bstep HB0 hB2⟩
theorem cDerive (ks ss : List Nat) (v sv : Value) (s : ByteArray) (x : Int) (w : World) (hV : GV w) (hin : IN w w.heap.size v ks) (hin2 : IN w w.heap.size sv ss) (hsn : ∀ n c, sv = .slice none n c → c = 0) (hk : ∀ x ∈ ks, x < 256) (hss : ∀ x ∈ ss, x < 256) (hkl : ks.length ≤ 1000) (hsl : ss.length ≤ 1000) (hs : s.size ≤ 1000) :
    Calls Tryd.prog 36 #[v, sv, .string s, .int .i64 x] w fun e w' => ∃ v, e = .returned v ∧ PTX (exE x) (exY (mac ss ks) (txt s) x) w' v ∧ Below w.heap.size w w' := by
  have hm := mac_B ss ks
  have hE : ∀ u, Below w.heap.size w u → _ := fun u hB => cExtract ss ks sv v u (hV.below hB hV.sz) ((hin2.below hB).mono hB.size) hsn ((hin.below hB).mono hB.size) hss hk hsl hkl
  obtain ⟨ds, eds⟩ : ∃ ds, mac ss ks = ds := ⟨_, rfl⟩
  rw [eds] at hm hE ⊢
  exact cDerive_core v sv s x (exE x) ds (exY ds (txt s) x) w hm.len hE (fun u b hB hc hb => cExpandX ds _ s x u (hV.below hB hV.sz) (CV_in hm.len hc hb) (fun n c e => by cases e) hm.mem (by rw [hm.len]; omega) hs)
theorem cDeriveR (ks ss : List Nat) (v sv : Value) (s : ByteArray) (x : Int) (w : World) (hz : 0 < w.heap.size) (hin : IN w w.heap.size v ks) (hin2 : IN w w.heap.size sv ss) (hk : ∀ x ∈ ks, x < 256) (hss : ∀ x ∈ ss, x < 256) (hkl : ks.length ≤ 1000) (hsl : ss.length ≤ 1000) (hs : s.size ≤ 1000) :
    Calls Tryd.prog 37 #[v, sv, .string s, .int .i64 x] w fun e w' => ∃ v, e = .returned v ∧ PTX (exE x) (exY (mac ss ks) (txt s) x) w' v ∧ Below w.heap.size w w' := by
  have hm := mac_B ss ks
  have hE : ∀ u, Below w.heap.size w u → _ := fun u hB => cExtractR ss ks sv v u ((hin2.below hB).mono hB.size) ((hin.below hB).mono hB.size) hss hk hsl (by omega)
  obtain ⟨ds, eds⟩ : ∃ ds, mac ss ks = ds := ⟨_, rfl⟩
  rw [eds] at hm hE ⊢
  exact cDeriveR_core v sv s x (exE x) ds (exY ds (txt s) x) w hm.len hE (fun u b hB hc hb => cExpandRX ds _ s x u (by have := hB.size; omega) (CV_in hm.len hc hb) hm.mem (by rw [hm.len]; omega) hs)
end Go.Proofs.YtbgdcgboomdimaaDoor
