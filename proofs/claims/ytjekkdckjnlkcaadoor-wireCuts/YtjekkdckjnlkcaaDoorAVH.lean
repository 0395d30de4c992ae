/- Wire: all that is asked of its functions. -/
import Derived.Test.YtjekkdckjnlkcaaDoorAVG
import Derived.Test.YtjekkdckjnlkcaaDoorAWL
namespace Go.Proofs.YtjekkdckjnlkcaaDoor
open Go.RowKit
set_option linter.unusedVariables false
set_option linter.unusedSimpArgs false
theorem PF_inW {lo n : Nat} {xs : List Nat} {u : World} {v : Value} (h : PF lo n (U8 xs) u v) (hn : xs.length = n) : IN u u.heap.size v xs := by
  obtain ⟨b, rfl, h1, h2, h3⟩ := h
  exact ⟨_, n, b, 0, by rw [hn], by omega, .inr rfl, h2, fun j hj => by rw [Nat.zero_add]; exact (h3 j _ (U8_get xs j hj)).1⟩
theorem wireOK (w : World) (hG : GW w) : WireOK w where
  put := fun u v fs hB h hok => cPutW fs v u (hG.below hB) h hok
  get := fun u v fs tag hB h hok h1 h2 => cGetW fs tag v u (hG.below hB) h hok h1 h2
  read := fun u v bs hB h hok => cReadW bs v u (hG.below hB) h hok
  int := fun u n hB h1 h2 => (cIntW n u).mono fun e u' ⟨v, e1, e2, e3⟩ => ⟨v, e1, PF_inW e2 (int8_len 8 _), e3⟩
  readInt := fun u v bs hB h hok => cReadIntW bs v u (hG.below hB) h hok
  list := fun u v ps hB h hok => cListW ps v u (hG.below hB) h hok
  readList := fun u v bs hB h hok => cReadListW bs v u (hG.below hB) h hok
end Go.Proofs.YtjekkdckjnlkcaaDoor
