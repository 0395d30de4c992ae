import Derived.Test.YtgieoghechekpaaGreatDoorMR1
namespace Go.Proofs.YtgieoghechekpaaGreatDoor
set_option linter.unusedVariables false
set_option linter.unusedSimpArgs false
set_option maxRecDepth 100000
set_option maxHeartbeats 4000000
section
def Pr(p:Nat):Prop:=2<=p/\ ∀d,d∣p->d=1\/d=p
theorem Pr.ex: ∀(n d:Nat),d<=n->2<=d-> ∃p,Pr p/\p∣d
 | 0,d,h,h2=>by omega
 | n+1,d,h,h2=>by
  by_cases hp:Pr d
  ·exact⟨d,hp,Nat.dvd_refl d⟩
  ·have: ∃e,e∣d/\e≠1/\e≠d:=Classical.byContradiction fun hn=>hp ⟨h2,fun e he=>by
    by_cases e1:e=1
    ·exact .inl e1
    ·by_cases e2:e=d
     ·exact .inr e2
     ·exact absurd ⟨e,he,e1,e2⟩ hn⟩
   obtain⟨e,he,e1,e2⟩:=this
   have hpos:0<e:=Nat.pos_of_dvd_of_pos he (by omega)
   have hle:e<=d:=Nat.le_of_dvd (by omega) he
   obtain⟨p,hp,hd⟩:=Pr.ex n e (by omega) (by omega)
   exact⟨p,hp,Nat.dvd_trans hd he⟩
end
section
open Go.RowKit
theorem nCompare(n m:Int)(w:World)(hn:In n)(hm:In m):CC 67 #[NV n,NV m] w (.int .i64 (cmpI n m)):=by
 have k:=Compare_any _ _ _ _ _ _ _ _ w (W_D0 n) (W_D1 n) (W_D2 n) (W_D3 n) (W_D0 m) (W_D1 m) (W_D2 m) (W_D3 m)
 simp only[V_In hn,V_In hm] at k
 exact k
theorem Yh:EnT 67:=fun _ _=>by kernel_rfl
open Classical in
end
end Go.Proofs.YtgieoghechekpaaGreatDoor
