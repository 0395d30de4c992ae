/- Cast: one step of a node, in numbers. -/
import Derived.Test.YthncmahhnbpbkaaKB1
namespace Go.Proofs.Ythncmahhnbpbkaa
set_option linter.unusedVariables false
set_option linter.unusedSimpArgs false
theorem len_in : ∀ (n : Nat) (l : List Int), l.Nodup → (∀ x ∈ l, 1 ≤ x ∧ x ≤ n) → l.length ≤ n
  | 0, l, _, h => by
    cases l with
    | nil => simp
    | cons x r => have := h x (by simp); omega
  | n + 1, l, hd, h => by
    have h1 : (l.erase ((n : Int) + 1)).length ≤ n := by
      refine len_in n _ (hd.erase _) fun x hx => ?_
      have hx1 := (List.Nodup.mem_erase_iff hd).1 hx
      have := h x hx1.2
      have h3 := hx1.1
      omega
    have h2 := List.length_erase (a := ((n : Int) + 1)) (l := l)
    by_cases hm : ((n : Int) + 1) ∈ l
    · rw [if_pos hm] at h2; omega
    · rw [if_neg hm] at h2; omega
/-- Who these are is in order. -/
structure SO (n : Int) (l : List (Int × ByteArray)) : Prop where
  nd : (fs l).Nodup
  ran : ∀ f ∈ fs l, 1 ≤ f ∧ f ≤ n
theorem SO.len {n : Int} {l : List (Int × ByteArray)} (h : SO n l) (hn : 0 ≤ n) : (l.length : Int) ≤ n := by
  have := len_in n.toNat (fs l) h.nd (fun x hx => by have := h.ran x hx; omega)
  simp only [fs, List.length_map] at this
  omega
theorem SO.app {n f : Int} {v : ByteArray} {l : List (Int × ByteArray)} (h : SO n l) (hf : f ∉ fs l) (h1 : 1 ≤ f ∧ f ≤ n) : SO n (l ++ [(f, v)]) := by
  refine ⟨?_, ?_⟩
  · rw [fs_app, List.nodup_append]
    refine ⟨h.nd, by simp, fun a ha b hb => ?_⟩
    simp only [List.mem_singleton] at hb
    rw [hb]; intro e; exact hf (e ▸ ha)
  · intro g hg
    rw [fs_app, List.mem_append, List.mem_singleton] at hg
    rcases hg with hg | rfl
    · exact h.ran g hg
    · exact h1
/-- A node is in order. -/
structure NWF (x : Nd) : Prop where
  n : 1 ≤ x.n ∧ x.n ≤ 16
  t : 0 ≤ x.t ∧ x.t ≤ 5
  o1 : SO x.n x.ec
  o2 : SO x.n x.rd
  q : ∀ u, x.n + x.t < 2 * cnt x.ec u ∨ x.t < cnt x.rd u → x.r.isSome = true
  d : ∀ u, 2 * x.t < cnt x.rd u → x.d.isSome = true
theorem NWF.w {x : Nd} (h : NWF x) : NW0 x := ⟨h.n, h.t, by have := h.o1.len (by have := h.n; omega); have := h.n; omega, by have := h.o2.len (by have := h.n; omega); have := h.n; omega⟩
theorem NWF.new {n t me dl : Int} (h : okM n t me dl = true) : NWF (Nd.new n t me dl) := by
  simp only [okM, decide_eq_true_eq] at h
  refine ⟨?_, ?_, ⟨by simp [Nd.new, fs], by simp [Nd.new, fs]⟩, ⟨by simp [Nd.new, fs], by simp [Nd.new, fs]⟩, ?_, ?_⟩
  · show 1 ≤ n ∧ n ≤ 16; omega
  · show 0 ≤ t ∧ t ≤ 5; omega
  · intro u hu; simp only [Nd.new, cnt_nil] at hu; omega
  · intro u hu; simp only [Nd.new, cnt_nil] at hu; omega
/-- What a step does. -/
structure Stp (x : Nd) (k f : Int) (v : ByteArray) (y : Nd) (o : Option (Int × Int × ByteArray)) : Prop where
  n : y.n = x.n
  t : y.t = x.t
  me : y.me = x.me
  dl : y.dl = x.dl
  bg : y.bg = x.bg
  wf : NWF y
  ec : (y.ec = x.ec ∧ (k = 2 → mb x 2 f v = true → f ∈ fs x.ec)) ∨ (k = 2 ∧ mb x k f v = true ∧ f ∉ fs x.ec ∧ y.ec = x.ec ++ [(f, v)])
  rd : (y.rd = x.rd ∧ (k = 3 → mb x 3 f v = true → f ∈ fs x.rd)) ∨ (k = 3 ∧ mb x k f v = true ∧ f ∉ fs x.rd ∧ y.rd = x.rd ++ [(f, v)])
  d : y.d = x.d ∨ (x.d = none ∧ y.d = some v ∧ 2 * x.t < cnt y.rd v)
  o : (o = none ∧ y.e = x.e ∧ y.r = x.r ∧ (k = 1 → mb x 1 f v = true → x.e.isSome = true)) ∨ (o = some (2, x.me, v) ∧ x.e = none ∧ y.e = some v ∧ y.r = x.r ∧ k = 1 ∧ mb x k f v = true) ∨ (o = some (3, x.me, v) ∧ y.e = x.e ∧ x.r = none ∧ y.r = some v ∧ k ≠ 1 ∧ (x.n + x.t < 2 * cnt y.ec v ∨ x.t < cnt y.rd v))
theorem mb_of {x : Nd} {k f : Int} {v : ByteArray} (h : mb x k f v = true) : ((k = 1 ∧ f = x.dl) ∨ k = 2 ∨ k = 3) ∧ 1 ≤ f ∧ f ≤ x.n ∧ v.size ≤ 4096 := by simpa [mb] using h
theorem rdy_iff (x : Nd) (v : ByteArray) : rdy x v = true ↔ (x.n + x.t < 2 * cnt x.ec v ∨ x.t < cnt x.rd v) := by simp [rdy]
theorem cnt_other {l : List (Int × ByteArray)} {f : Int} {v u : ByteArray} (h : u ≠ v) : cnt (l ++ [(f, v)]) u = cnt l u := by rw [cnt_app, up1_ne h]
theorem tkC_stp {x y : Nd} {k f : Int} {v : ByteArray} (hk : k ≠ 1) (hn : y.n = x.n) (ht : y.t = x.t) (hme : y.me = x.me) (hdl : y.dl = x.dl) (hbg : y.bg = x.bg) (he : y.e = x.e) (hr : y.r = x.r) (hxn : 1 ≤ x.n ∧ x.n ≤ 16) (hxt : 0 ≤ x.t ∧ x.t ≤ 5) (o1 : SO x.n y.ec) (o2 : SO x.n y.rd)
    (hq : ∀ u, u ≠ v → (x.n + x.t < 2 * cnt y.ec u ∨ x.t < cnt y.rd u) → x.r.isSome = true) (hd : ∀ u, 2 * x.t < cnt y.rd u → y.d.isSome = true)
    (hec : (y.ec = x.ec ∧ (k = 2 → mb x 2 f v = true → f ∈ fs x.ec)) ∨ (k = 2 ∧ mb x k f v = true ∧ f ∉ fs x.ec ∧ y.ec = x.ec ++ [(f, v)])) (hrd : (y.rd = x.rd ∧ (k = 3 → mb x 3 f v = true → f ∈ fs x.rd)) ∨ (k = 3 ∧ mb x k f v = true ∧ f ∉ fs x.rd ∧ y.rd = x.rd ++ [(f, v)])) (hdd : y.d = x.d ∨ (x.d = none ∧ y.d = some v ∧ 2 * x.t < cnt y.rd v)) :
    Stp x k f v (y.tkC v).1 (y.tkC v).2 := by
  unfold Nd.tkC
  by_cases h : rdy y v = true
  · rw [if_pos h]
    have h2 := (rdy_iff y v).1 h
    rw [hn, ht] at h2
    have hwf : NWF (y.sdR v) := ⟨by show 1 ≤ y.n ∧ y.n ≤ 16; omega, by show 0 ≤ y.t ∧ y.t ≤ 5; omega, by show SO y.n y.ec; rw [hn]; exact o1, by show SO y.n y.rd; rw [hn]; exact o2, fun u _ => rfl, fun u hu => hd u (by rw [← ht]; exact hu)⟩
    refine ⟨hn, ht, hme, hdl, hbg, hwf, hec, hrd, hdd, ?_⟩
    cases hxr : x.r with
    | some q => exact .inl ⟨by simp [Nd.otR, hr, hxr], he, by simp [Nd.sdR, hr, hxr], fun h1 => absurd h1 hk⟩
    | none => exact .inr (.inr ⟨by simp [Nd.otR, hr, hxr, hme], he, rfl, by simp [Nd.sdR, hr, hxr], hk, h2⟩)
  · rw [if_neg h]
    have h2 : ¬ (x.n + x.t < 2 * cnt y.ec v ∨ x.t < cnt y.rd v) := fun h2 => h ((rdy_iff y v).2 (by rw [hn, ht]; exact h2))
    have hwf : NWF y := ⟨by omega, by omega, by rw [hn]; exact o1, by rw [hn]; exact o2, fun u hu => by
      rw [hn, ht] at hu
      rw [hr]
      by_cases huv : u = v
      · subst huv; exact absurd hu h2
      · exact hq u huv hu, fun u hu => hd u (by rw [← ht]; exact hu)⟩
    exact ⟨hn, ht, hme, hdl, hbg, hwf, hec, hrd, hdd, .inl ⟨rfl, he, hr, fun h1 => absurd h1 hk⟩⟩
theorem take_stp {x : Nd} (h : NWF x) (k f : Int) (v : ByteArray) : Stp x k f v (x.take k f v).1 (x.take k f v).2 := by
  have stay : (mb x 1 f v = true → k = 1 → x.e.isSome = true) → (k = 2 → mb x 2 f v = true → f ∈ fs x.ec) → (k = 3 → mb x 3 f v = true → f ∈ fs x.rd) → Stp x k f v x none := fun h1 h2 h3 =>
    ⟨rfl, rfl, rfl, rfl, rfl, h, .inl ⟨rfl, h2⟩, .inl ⟨rfl, h3⟩, .inl rfl, .inl ⟨rfl, rfl, rfl, fun a b => h1 b a⟩⟩
  unfold Nd.take
  by_cases hb : mb x k f v = false
  · rw [if_pos hb]
    exact stay (fun a b => by subst b; rw [hb] at a; cases a) (fun a b => by subst a; rw [hb] at b; cases b) (fun a b => by subst a; rw [hb] at b; cases b)
  · rw [if_neg hb]
    have hb : mb x k f v = true := by simpa using hb
    obtain ⟨hk, hf1, hf2, hv⟩ := mb_of hb
    by_cases k1 : k = 1
    · subst k1
      rw [if_pos rfl]
      unfold Nd.tkE
      cases he : x.e with
      | some q => exact stay (fun _ _ => by rw [he]; rfl) (fun a => by omega) (fun a => by omega)
      | none =>
        refine ⟨rfl, rfl, rfl, rfl, rfl, ⟨h.n, h.t, h.o1, h.o2, h.q, h.d⟩, .inl ⟨rfl, fun a => by omega⟩, .inl ⟨rfl, fun a => by omega⟩, .inl rfl, .inr (.inl ⟨?_, he, ?_, rfl, rfl, hb⟩)⟩
        · simp [Nd.otE, he]
        · simp [Nd.sdE, he]
    · rw [if_neg k1]
      by_cases k2 : k = 2
      · subst k2
        rw [if_pos rfl]
        by_cases hm : f ∈ fs x.ec
        · rw [if_pos hm]
          exact stay (fun _ a => by omega) (fun _ _ => hm) (fun a => by omega)
        · rw [if_neg hm]
          have ey : x.addE f v = { x with ec := x.ec ++ [(f, v)] } := if_neg hm
          rw [ey]
          refine tkC_stp (by omega) rfl rfl rfl rfl rfl rfl rfl h.n h.t (h.o1.app hm ⟨hf1, hf2⟩) h.o2 (fun u hu hq => ?_) h.d (.inr ⟨rfl, hb, hm, rfl⟩) (.inl ⟨rfl, fun a => by omega⟩) (.inl rfl)
          simp only [cnt_other hu] at hq
          exact h.q u hq
      · rw [if_neg k2]
        have k3 : k = 3 := by omega
        subst k3
        by_cases hm : f ∈ fs x.rd
        · rw [if_pos hm]
          exact stay (fun _ a => by omega) (fun a => by omega) (fun _ _ => hm)
        · rw [if_neg hm]
          have ey : x.addR f v = { x with rd := x.rd ++ [(f, v)] } := if_neg hm
          rw [ey]
          have hqq : ∀ u, u ≠ v → (x.n + x.t < 2 * cnt x.ec u ∨ x.t < cnt (x.rd ++ [(f, v)]) u) → x.r.isSome = true := fun u hu hq => by
            rw [cnt_other hu] at hq
            exact h.q u hq
          unfold Nd.tkD
          by_cases hd : 2 * x.t < cnt (x.rd ++ [(f, v)]) v
          · rw [if_pos hd]
            refine tkC_stp (by omega) rfl rfl rfl rfl rfl rfl rfl h.n h.t h.o1 (h.o2.app hm ⟨hf1, hf2⟩) hqq (fun u hu => rfl) (.inl ⟨rfl, fun a => by omega⟩) (.inr ⟨rfl, hb, hm, rfl⟩) ?_
            cases hxd : x.d with
            | some q => exact .inl (by simp [Nd.sdD, hxd])
            | none => exact .inr ⟨rfl, by simp [Nd.sdD, hxd], hd⟩
          · rw [if_neg hd]
            refine tkC_stp (by omega) rfl rfl rfl rfl rfl rfl rfl h.n h.t h.o1 (h.o2.app hm ⟨hf1, hf2⟩) hqq (fun u hu => ?_) (.inl ⟨rfl, fun a => by omega⟩) (.inr ⟨rfl, hb, hm, rfl⟩) (.inl rfl)
            by_cases huv : u = v
            · subst huv; exact absurd hu hd
            · rw [show cnt ({ x with rd := x.rd ++ [(f, v)] } : Nd).rd u = cnt x.rd u from cnt_other huv] at hu
              exact h.d u hu
end Go.Proofs.Ythncmahhnbpbkaa
