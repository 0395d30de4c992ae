import Derived.Test.YtgieoghechekpaaGreatDoorAPM
namespace Go.Proofs.YtgieoghechekpaaGreatDoor
set_option linter.unusedVariables false
set_option linter.unusedSimpArgs false
set_option maxRecDepth 100000
set_option maxHeartbeats 4000000
section ring
variable {R:Type} [Lean.Grind.CommRing R]
def evF:Nat->(Nat->R)->R->R
 | 0,_,_=>0
 | n+1,f,x=>f 0+x*evF n (fun i=>f (i+1)) x
theorem evF_add(x:R): ∀(n:Nat) (f g:Nat->R),evF n (fun i=>f i+g i) x=evF n f x+evF n g x
 | 0,f,g=>by simp only[evF];grind
 | n+1,f,g=>by simp only[evF];rw[evF_add x n (fun i=>f (i+1)) (fun i=>g (i+1))];grind
theorem evF_tab(x:R): ∀(n:Nat) (f:Nat->Int),evPR ((tab n f).map cR) x=evF n (fun i=>cR (f i)) x
 | 0,f=>rfl
 | n+1,f=>by
  have h:=evF_tab x n (fun i=>f (i+1))
  rw[tab,List.range_succ_eq_map,List.map_cons,List.map_map,List.map_cons,evPR,evF,<-h]
  rfl
theorem evF_list(x:R): ∀(n:Nat) (l:List Int),l.length<=n->evF n (fun i=>cR (l.getD i 0)) x=evPR (l.map cR) x
 | 0,l,h=>by rw[List.eq_nil_of_length_eq_zero (Nat.le_zero.1 h)];rfl
 | n+1,[],h=>by
  have e:=evF_list x n [] (Nat.zero_le _)
  rw[evF,show (fun i=>(cR (([]:List Int).getD (i+1) 0):R))=fun i=>cR (([]:List Int).getD i 0) from funext fun i=>by simp,e]
  simp only[List.map_nil,evPR,List.getD_nil,cR_0];grind
 | n+1,a::l,h=>by
  rw[evF,List.map_cons,evPR,<-evF_list x n l (by simpa using h)]
  rfl
variable (p:Nat) [Lean.Grind.IsCharP R p]
end ring
def sAd(q:Int)(aa bs:List Int):List Int:=tab (max aa.length bs.length) fun i=>(aa.getD i 0+bs.getD i 0)%q
theorem sAd_len(q:Int)(aa bs:List Int):(sAd q aa bs).length=max aa.length bs.length:=tab_len _ _
theorem hoN_sAd(p:Nat)[NeZero p](aa bs:List Int)(x:Int):(hoN p x aa aa.length+hoN p x bs bs.length)%(p:Int)=hoN p x (sAd p aa bs) (sAd p aa bs).length:=by
 have hp0:0<p:=Nat.pos_of_ne_zero (NeZero.ne p)
 have r:=hoN_rng (q:=p) (by omega) (x:=x) (ns:=sAd p aa bs) (sAd p aa bs).length
 have e:(cR (hoN p x aa aa.length+hoN p x bs bs.length):Fin p)=cR (hoN p x (sAd p aa bs) (sAd p aa bs).length):=by
  rw[cR_add,cR_hoN,cR_hoN,cR_hoN,sAd,evF_tab,<-evF_list (cR x) (max aa.length bs.length) aa (by omega),<-evF_list (cR x) (max aa.length bs.length) bs (by omega),<-evF_add]
  congr 1
  funext i
  rw[Y1,cR_add]
 rw[cR_ext p,Int.emod_eq_of_lt r.1 r.2] at e
 exact e
theorem take_getD{α:Type}{l:List α}{m i:Nat}{d:α}(h:i<m):(l.take m).getD i d=l.getD i d:=by
 simp[List.getElem?_take,h]
theorem line_yes{xs vs:List Int}{m:Nat}(h:Invs OQ (xs.take m) vs)(ns:List Int)(hn:ns.length<=m)(hm:m<=xs.length)(t:Int):smN OQ (fac OQ t (xs.take m) vs) ((pts OQ ns xs).take m) m=hoN OQ t ns ns.length:=by
 have hl:(xs.take m).length=m:=by rw[List.length_take];omega
 have e:=lagN 581039633 h ns (by omega) t ((pts OQ ns xs).take m) (fun i hi=>by rw[take_getD (by omega),pts_get (by omega),take_getD (by omega)];rfl)
 rw[hl] at e
 exact e
end Go.Proofs.YtgieoghechekpaaGreatDoor
