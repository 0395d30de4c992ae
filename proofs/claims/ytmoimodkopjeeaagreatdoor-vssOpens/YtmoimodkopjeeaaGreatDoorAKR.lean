import Derived.Test.YtmoimodkopjeeaaGreatDoorAKQ
import Derived.Test.YtmoimodkopjeeaaGreatDoorAK7
namespace Go.Proofs.YtmoimodkopjeeaaGreatDoor
set_option linter.unusedVariables false
set_option linter.unusedSimpArgs false
set_option maxRecDepth 100000
set_option maxHeartbeats 4000000
open Go.RowKit
theorem Xz:EnT 53:=fun _ _=>by kernel_rfl
theorem flt_sn: ∀(ps:List (Int×Int)) (x y:Int),flN (flt (ps++[(x,y)]))=flN (flt ps)++(LN x++LN y)
 | [],x,y=>by simp[flt,flN]
 | p::l,x,y=>by simp[flt,flN,flt_sn l x y]
theorem pl_rw{u:World}{b m c:Nat}{ps:List (Int×Int)}{zs:List Value}(hb:b<u.heap.size)(h:CV u b (flN (flt ps)++zs))(hm:ps.length=m)(hc:m<=c):PtL u (.slice (some ⟨b,0,none⟩) m c) ps:=by
 subst hm
 refine⟨_,b,0,c,rfl,hc,(by simp),.inr rfl,.inr hb,fun j v hj=>?_⟩
 rw[Nat.zero_add]
 exact(h j v (by rw[List.getElem?_append_left (List.getElem?_eq_some_iff.1 hj).1];exact hj)).1
theorem ixSh(g o n cap j:Nat)(h:j<n)(w:World):(Instr.indexAt 48 (.slice (some ⟨g,o,none⟩) n cap) (iI j)).run Tryz.prog w= .ok (.pointer (some ⟨g,o+9*j,none⟩)) w:=by
 have hj:(j:Int)<n:=by omega
 go_simp
 all_goals first | omega | (simp[Addr.add];omega) | simp[Addr.add,Nat.mul_comm]
theorem flS_at: ∀(l:List (Int×Int×Int)) (j:Nat),j<l.length->flS l=flS (l.take j)++SE (l.getD j (0,0,0)).1 (l.getD j (0,0,0)).2.1 (l.getD j (0,0,0)).2.2++flS (l.drop (j+1))
 | [],j,h=>by simp at h
 | x::l,0,h=>by simp[flS]
 | x::l,j+1,h=>by
  have:=flS_at l j (by simpa using h)
  simp only[List.take_succ_cons,List.drop_succ_cons,List.getD_cons_succ,flS,List.append_assoc] at this⊢
  rw[this]
theorem sh_pt{w:World}{g o:Nat}{l:List (Int×Int×Int)}(h: ∀j v,(flS l)[j]?=some v->w.cell? ⟨g,o+j,none⟩=some v)(j:Nat)(hj:j<l.length):w.rangeAt g (o+9*j) (SE (l.getD j (0,0,0)).1 (l.getD j (0,0,0)).2.1 (l.getD j (0,0,0)).2.2):=fun c v hc=>by
 have:=h (9*j+c) v (by rw[flS_at l j hj];exact mid_at (by rw[flS_len,List.length_take];omega) c v hc)
 rwa [<-Nat.add_assoc] at this
def ndsB(l:List (Int×Int×Int)):Bool:=l.all fun x=>ndB x.1
theorem nds_get{l:List (Int×Int×Int)}:ndsB l=true↔ ∀k,k<l.length->ndB (l.getD k (0,0,0)).1=true:=by
 unfold ndsB
 rw[List.all_eq_true]
 constructor
 ·exact fun h k hk=>h _ (by simp[List.getElem?_eq_getElem hk])
 ·intro h x hx
  obtain⟨k,hk,rfl⟩:=List.mem_iff_getElem.1 hx
  have:=h k hk
  simpa [List.getElem?_eq_getElem hk] using this
theorem vhave_core(r:Bool)(sl:Option Addr)(gb go cap:Nat)(l:List (Int×Int×Int))(w:World)(hix:Hid (∀j,j<l.length-> ∀W,(Instr.indexAt 48 (.slice sl l.length cap) (iI j)).run Tryz.prog W= .ok (.pointer (some ⟨gb,go+9*j,none⟩)) W))(hg:l.length=0\/gb<w.heap.size)(hS:Hid (∀j,j<l.length->w.rangeAt gb (go+9*j) (SE (l.getD j (0,0,0)).1 (l.getD j (0,0,0)).2.1 (l.getD j (0,0,0)).2.2)))(hl0:l.length<=1000)(hyes:Hid ((∀k,k<l.length->ndB (l.getD k (0,0,0)).1=true)->r=true))(hno:Hid (∀k,k<l.length->ndB (l.getD k (0,0,0)).1=false->r=false)):
 CC 53 #[.slice sl l.length cap] w (.bool r):=by
 go_enter Tryz.func53,Tryz.ntmps53
 have HB0:Bw w w:=Below.refl _ _
 have K0_1:=Bk.nil (w.heap.size) w
 go_upto_region 1 with fail
 refine Rn K0_1 HB0 (cG 0 5 [_,_,_] []) (oc g_mv<|oc (g_ln Tryz.underlying48)<|oc g_mv on) fun u1 HB1 _ K1=>?_
 simp only[sQ] at K1⊢
 go_wp2_with fail
 go_loopw [7] (fun s7 wr=> ∃(k:Nat),k<=l.length/\s7=iI (k:Int)/\Bw w wr/\Hid (∀j,j<k->ndB (l.getD j (0,0,0)).1=true)) (fun s7 _=>l.length -(intOf s7).toNat)
 case atStart=>exact⟨0,by omega,rfl,HB1,(fun j h=>by omega)⟩
 case round=>
  obtain⟨k,hk,rfl,HBr,hall⟩:=hrel
  by_cases hj:k<l.length
  ·have hl:decide ((k:Int)<(l.length:Int))=true:=by simp;omega
   have hX:=hix.out _ hj
   have hX:Hid _:=hX
   have hR:=hS.out _ hj
   have hR:Hid _:=hR
   have hg':=hg.resolve_left (by omega)
   have hr1:=hno.out k hj
   have hr0:Hid (ndB (l.getD k (0,0,0)).1=true-> ∀j,j<k+1->ndB (l.getD j (0,0,0)).1=true):=fun e j hjk=>by
    by_cases ej:j=k
    ·subst ej;exact e
    ·exact hall.out j (by omega)
   have hN:Hid (∀u,CC 35 #[iI (l.getD k (0,0,0)).1] u (.bool (ndB (l.getD k (0,0,0)).1))):=fun u=>vNode _ u
   obtain⟨n,en⟩: ∃n,(l.getD k (0,0,0)).1=n:=⟨_,rfl⟩
   obtain⟨s,es⟩: ∃n,(l.getD k (0,0,0)).2.1=n:=⟨_,rfl⟩
   obtain⟨t,et⟩: ∃n,(l.getD k (0,0,0)).2.2=n:=⟨_,rfl⟩
   rw[en,es,et] at hR
   rw[en] at hr1 hr0 hN
   clear en es et
   by_cases hb:ndB n=true
   ·rw[hb] at hN
    have K1_2:=Bk.nil (w.heap.size) wr
    go_upto_region 2 with fail
    refine Rn K1_2 HBr [(0,8,_)] (oc (g_bn (fun uZ=>Z6 _ _ (k:Int) (l.length:Int) _ uZ hl)) on) fun u2 HB2 sz2 K2=>?_
    simp only[sQ] at K2⊢
    go_upto_region 3 with fail
    refine Rp K2 HB2 [] [(2,4,L0h,some (3,SE n s t))] [(0,9,_),(1,10,_)] [(3,2)] [] [] (oc (g_ix hX.out)<|oc (g_lf hR.out hg' Tryz.underlying35 Zb)<|oc (g_al 0 X7)<|oc (g_sn 0 Zb) on) fun u3 b3_2 HB3 sz3 K3=>?_
    simp only[sQ] at K3⊢
    go_upto_region 4 with fail
    refine Rn K3 HB3 (cG 0 11 [_,_,_,_] []) (oc (g_fd (fdS0 _))<|oc (g_lc 0 0 lI)<|oc (g_cl Zj hN.out)<|oc (g_un Vj) on) fun u4 HB4 sz4 K4=>?_
    simp only[sQ] at K4⊢
    go_upto_region 6 with fail
    refine Rp K4 HB4 [] [] [(0,15,_),(1,7,_)] [(1,0)] [(1,7)] [] (oc (g_bn (fun uZ=>Zm _ _ (k:Int) 1 ((k+1:Nat):Int) uZ (by omega) (by omega) (by omega)))<|oc g_mv on) fun u5 HB5 sz5 K5=>?_
    simp only[sQ] at K5⊢
    go_wp2
    refine⟨⟨k+1,by omega,rfl,HB5,hr0.out hb⟩,?_⟩
    simp[intOf]<;>omega
   ·rw[Bool.not_eq_true] at hb
    rw[hb] at hN
    have K1_2:=Bk.nil (w.heap.size) wr
    go_upto_region 2 with fail
    refine Rn K1_2 HBr [(0,8,_)] (oc (g_bn (fun uZ=>Z6 _ _ (k:Int) (l.length:Int) _ uZ hl)) on) fun u2 HB2 sz2 K2=>?_
    simp only[sQ] at K2⊢
    go_upto_region 3 with fail
    refine Rp K2 HB2 [] [(2,4,L0h,some (3,SE n s t))] [(0,9,_),(1,10,_)] [(3,2)] [] [] (oc (g_ix hX.out)<|oc (g_lf hR.out hg' Tryz.underlying35 Zb)<|oc (g_al 0 X7)<|oc (g_sn 0 Zb) on) fun u3 b3_2 HB3 sz3 K3=>?_
    simp only[sQ] at K3⊢
    go_upto_region 4 with fail
    refine Rn K3 HB3 (cG 0 11 [_,_,_,_] []) (oc (g_fd (fdS0 _))<|oc (g_lc 0 0 lI)<|oc (g_cl Zj hN.out)<|oc (g_un Ue) on) fun u4 HB4 sz4 K4=>?_
    simp only[sQ] at K4⊢
    go_upto_region 5 with fail
    refine Rn K4 HB4 [(0,2,_)] (oc g_as on) fun u5 HB5 sz5 K5=>?_
    simp only[sQ] at K5⊢
    go_wp2
    obtain rfl:=hr1 hb
    exact bodyPost_ret (v:= .bool false) (by simp[results,Tryz.results53,go_sem]) rfl ⟨rfl,HB5⟩
  ·have hl:decide ((k:Int)<(l.length:Int))=false:=by simp;omega
   have hk0:=hyes.out fun j hj2=>hall.out j (by omega)
   have K1_2:=Bk.nil (w.heap.size) wr
   go_upto_region 2 with fail
   refine Rn K1_2 HBr [(0,8,_)] (oc (g_bn (fun uZ=>Z6 _ _ (k:Int) (l.length:Int) _ uZ hl)) on) fun u2 HB2 sz2 K2=>?_
   simp only[sQ] at K2⊢
   go_upto_region 7 with fail
   refine Rn K2 HB2 [(0,2,_)] (oc g_as on) fun u3 HB3 sz3 K3=>?_
   simp only[sQ] at K3⊢
   go_wp2
   subst hk0
   exact bodyPost_ret (v:= .bool true) (by simp[results,Tryz.results53,go_sem]) rfl ⟨rfl,HB3⟩
theorem sh_ix{l:List (Int×Int×Int)}{sl:Option Addr}{gb go cap:Nat}(h:l=[]\/sl=some ⟨gb,go,none⟩): ∀j,j<l.length-> ∀W,(Instr.indexAt 48 (.slice sl l.length cap) (iI j)).run Tryz.prog W= .ok (.pointer (some ⟨gb,go+9*j,none⟩)) W:=fun j hj W=>by
 have e:=h.resolve_left (fun e=>by subst e;simp at hj)
 subst e
 exact ixSh gb go l.length cap j hj W
theorem vHave(l:List (Int×Int×Int))(v:Value)(w:World)(hv:ShL w v l)(hl:l.length<=1000):CC 53 #[v] w (.bool (ndsB l)):=by
 obtain⟨sl,gb,go,cap,rfl,h2,h3,h4,h5,h6⟩:=hv
 refine vhave_core _ sl gb go cap l w (sh_ix h4) h5 (sh_pt h6) hl (fun h=>nds_get.2 h) (fun k hk h=>?_)
 rw[Bool.eq_false_iff]
 intro e
 rw[nds_get.1 e k hk] at h
 cases h
theorem bsP1(x y:Int)(w:World):(Instr.buildSlice 73 1 #[(0,PtX x y)]).run Tryz.prog w= .ok (.slice (some ⟨w.heap.size,0,none⟩) 1 1) (w.alloc (.cells (LN x++LN y:List Value).toArray 102)):=by kernel_rfl
theorem CV.grow{u u2:World}{r:Option Nat}{c:Nat}{l:List Value}(h:CV u c l)(hg:u.grownBy u2 r)(hc:c<u.heap.size)(hne:some c≠r):CV u2 c l:=fun j v hj=>by
 have e:=hg.block c hc hne
 rw[World.cell?_of_block (a:=⟨c,j,none⟩) e,World.frozen?_of_block (a:=⟨c,j,none⟩) e]
 exact h j v hj
def QP(lo m:Nat)(ps:List (Int×Int))(b:Nat)(u:World)(v:Value):Prop:=ps.length=m/\((m=0/\v= .slice none 0 0)\/(0<m/\lo<=b/\ ∃co zs,v= .slice (some ⟨b,0,none⟩) m co/\b<u.heap.size/\m<=co/\zs.length=8*(co -m)/\CV u b (flN (flt ps)++zs)))
theorem QP.stab{lo m b:Nat}{ps:List (Int×Int)}{u u2:World}{v:Value}(h:QP lo m ps b u v)(hB:Bw u u2):QP lo m ps b u2 v:=by
 obtain⟨h1,h3⟩:=h
 refine⟨h1,h3.imp id ?_⟩
 rintro⟨h0,h2,co,zs,e,g1,g2,g3,g4⟩
 exact⟨h0,h2,co,zs,e,Nat.lt_of_lt_of_le g1 hB.size,g2,g3,g4.below hB g1⟩
theorem QP.grow{lo m c:Nat}{r:Option Nat}{ps:List (Int×Int)}{u u2:World}{v:Value}(h:QP lo m ps c u v)(hg:u.grownBy u2 r)(hne:0<m->some c≠r):QP lo m ps c u2 v:=by
 obtain⟨h1,h3⟩:=h
 refine⟨h1,h3.imp id ?_⟩
 rintro⟨h0,h2,co,zs,e,g1,g2,g3,g4⟩
 exact⟨h0,h2,co,zs,e,Nat.lt_of_lt_of_le g1 hg.size,g2,g3,g4.grow hg g1 (hne h0)⟩
theorem QP.lt{lo m c:Nat}{ps:List (Int×Int)}{u:World}{v:Value}(h:QP lo m ps c u v)(h0:0<m):lo<=c/\c<u.heap.size:=by
 rcases h.2 with⟨h1,_⟩ | ⟨_,h2,_,_,_,h3,_⟩
 ·omega
 ·exact⟨h2,h3⟩
theorem QP.pl{lo m c:Nat}{ps:List (Int×Int)}{u:World}{v:Value}(h:QP lo m ps c u v):PtL u v ps:=by
 obtain⟨h1,h3⟩:=h
 rcases h3 with⟨h0,rfl⟩ | ⟨h0,h2,co,zs,rfl,g1,g2,g3,g4⟩
 ·obtain rfl:ps=[]:=List.eq_nil_of_length_eq_zero (by omega)
  exact⟨none,0,0,0,rfl,Nat.le_refl _,fun _=>rfl,.inl rfl,.inl rfl,SN.empty rfl⟩
 ·subst h1
  exact⟨_,c,0,co,rfl,g2,(by simp),.inr rfl,.inr g1,fun j v hj=>by
   rw[Nat.zero_add]
   exact(g4 j v (by rw[List.getElem?_append_left (List.getElem?_eq_some_iff.1 hj).1];exact hj)).1⟩
abbrev UP(x y:Int)(u:World):World:=u.alloc (.cells (LN x++LN y:List Value).toArray 102)
theorem app_q{u:World}{lo m b:Nat}{ps:List (Int×Int)}{v:Value}{x y:Int}{ty:TypeId}(h:QP lo m ps b u v)(hlo:lo<=u.heap.size)(hl:m<=1000000):
 ∃v' u' b',(Builtin.append_ #[73,73] ty #[v,.slice (some ⟨u.heap.size,0,none⟩) 1 1]).run Tryz.prog (UP x y u)= .ok v' u'/\(UP x y u).grownBy u' (if m=0 then none else some b)/\QP lo (m+1) (ps++[(x,y)]) b' u' v'/\((0<m/\b'=b)\/u.heap.size<b'):=by
 obtain⟨ti,hti,htm⟩:=Option.map_eq_some_iff.1 infoPt
 simp only[Prod.mk.injEq] at htm
 obtain⟨hzv,hsz,hby⟩:=htm
 have hss:(UP x y u).heap.size=u.heap.size+1:=by simp[UP]
 have hnew: ∀j v,(LN x++LN y)[j]?=some v->(UP x y u).cell? ⟨u.heap.size,j,none⟩=some v:=fun j v hj=>(CV.new u (LN x++LN y) 102 j v hj).1
 obtain⟨h1,h3⟩:=h
 rcases h3 with⟨rfl,rfl⟩ | ⟨h0,h2,co,zs,rfl,g1,g2,g3,g4⟩
 ·obtain rfl:ps=[]:=List.eq_nil_of_length_eq_zero h1
  obtain⟨v',w',hr,hB,b',cap,zs,rfl,k1,k2,k3,k4,k5⟩:=Wq (P:=Tryz.prog) (UP x y u) (ty:=ty) Tryz.underlying73 hti hzv (by rw[hsz];rfl) (lo:=(UP x y u).heap.size) (n:=0) (xs:=[]) (news:=LN x++LN y) (v:= .slice none 0 0) ⟨by simp,.inl ⟨rfl,rfl⟩⟩ (ad:=⟨u.heap.size,0,none⟩) (c:=1) (by rw[hsz];rfl) (fun j v hj=>by rw[Addr.add0];exact hnew j v hj) (Nat.le_refl _) (by rw[hby];omega) (by omega)
  rw[hsz] at k4
  refine⟨_,w',b',hr,Vs hB,⟨by simp,.inr ⟨by omega,by omega,cap,zs,rfl,k2,k3,by rw[k4];omega,?_⟩⟩,.inr (by omega)⟩
  rw[flt_sn];exact k5
 ·have hc2:CV (UP x y u) b (flN (flt ps)++zs):=g4.below (Z1 (Z5 u) _) g1
  obtain⟨v',u',hr,hg,b',cap,zs',rfl,k1,k2,k3,k4,k5⟩:=Vh (P:=Tryz.prog) (UP x y u) (ty:=ty) Tryz.underlying73 hti hzv (by rw[hsz];rfl) (base:=(UP x y u).heap.size) (n:=m) (cap:=co) (m:=1) (news:=LN x++LN y) (y:= .slice (some ⟨u.heap.size,0,none⟩) 1 1) hc2 (by omega) (by rw[hsz,Wb,Vl];omega) (by rw[hsz];omega) g2 (Nat.le_refl _) ⟨_,1,rfl,.inr ⟨_,rfl,fun j v hj=>by rw[Addr.add0];exact hnew j v hj⟩⟩ (by rw[hsz];rfl) (fun v hv=>by simp at hv;rcases hv with h | h | h | h | h | h | h | h<;>(subst h;rfl)) (by rw[hby];omega) (by omega)
  rw[hsz] at k4
  rw[if_neg (by omega)]
  refine⟨_,u',b',hr,hg,⟨by simp[h1],.inr ⟨by omega,by rcases k1 with e | e<;>omega,cap,zs',rfl,k2,k3,by rw[k4];omega,?_⟩⟩,k1.imp (fun e=>⟨h0,e⟩) (fun e=>by omega)⟩
  rw[flt_sn];exact k5
theorem vpoints_core(sl:Option Addr)(gb go cap:Nat)(l:List (Int×Int×Int))(w:World)(hix:Hid (∀j,j<l.length-> ∀W,(Instr.indexAt 48 (.slice sl l.length cap) (iI j)).run Tryz.prog W= .ok (.pointer (some ⟨gb,go+9*j,none⟩)) W))(hg:l.length=0\/gb<w.heap.size)(hS:Hid (∀j,j<l.length->w.rangeAt gb (go+9*j) (SE (l.getD j (0,0,0)).1 (l.getD j (0,0,0)).2.1 (l.getD j (0,0,0)).2.2)))(hl0:l.length<=1000)(hnds:Hid (∀k,k<l.length->0<=(l.getD k (0,0,0)).1/\(l.getD k (0,0,0)).1<=16)):
 Calls Tryz.prog 54 #[.slice sl l.length cap] w fun e' w'=> ∃v2 v3 b2 b3,e'= .returned (.tuple #[v2,v3])/\QP w.heap.size l.length (opS l) b2 w' v2/\QP w.heap.size l.length (opT l) b3 w' v3/\(0<l.length->b2≠b3)/\Bw w w':=by
 have hb1:=bsP1
 go_enter Tryz.func54,Tryz.ntmps54
 go_wp2_with fail
 go_loopw [9,2,3] (fun s9 s2 s3 wr=> ∃(i b2 b3:Nat) (v2 v3:Value),i<=l.length/\s9=iI (i:Int)/\v2=s2/\v3=s3/\Hid (QP w.heap.size i ((opS l).take i) b2 wr v2)/\Hid (QP w.heap.size i ((opT l).take i) b3 wr v3)/\(0<i->b2≠b3)/\Bw w wr) (fun s9 _ _ _=>l.length -(intOf s9).toNat)
 case atStart=>exact⟨0,0,0,_,_,by omega,rfl,rfl,rfl,⟨by simp,.inl ⟨rfl,rfl⟩⟩,⟨by simp,.inl ⟨rfl,rfl⟩⟩,by omega,Below.refl _ _⟩
 case round=>
  obtain⟨i,b2,b3,y2,y3,hi,rfl,rfl,rfl,Q2,Q3,hne,HBr⟩:=hrel
  obtain⟨wo,rfl⟩: ∃x,x=wr:=⟨_,rfl⟩
  have HBw:Bw wo wo:=Below.refl _ _
  by_cases hj:i<l.length
  ·have hl:decide ((i:Int)<(l.length:Int))=true:=by simp;omega
   have hX:=hix.out _ hj
   have hX:Hid _:=hX
   have hg':=hg.resolve_left (by omega)
   have hR0:=hS.out _ hj
   have hR:Hid (wo.rangeAt gb (go+9*i) (SE (l.getD i (0,0,0)).1 (l.getD i (0,0,0)).2.1 (l.getD i (0,0,0)).2.2)):=fun c v hc=>(HBr.cell (p:=⟨gb,go+9*i+c,none⟩) hg').trans (hR0 c v hc)
   have hgo:=Nat.lt_of_lt_of_le hg' HBr.size
   have hnd:=hnds.out i hj
   have t2:Hid ((opS l).take (i+1)=(opS l).take i++[((l.getD i (0,0,0)).1,(l.getD i (0,0,0)).2.1)]):=by
    show (opS l).take (i+1)=_
    rw[List.take_add_one];simp[opS,List.getElem?_eq_getElem hj]
   have t3:Hid ((opT l).take (i+1)=(opT l).take i++[((l.getD i (0,0,0)).1,(l.getD i (0,0,0)).2.2)]):=by
    show (opT l).take (i+1)=_
    rw[List.take_add_one];simp[opT,List.getElem?_eq_getElem hj]
   obtain⟨n,en⟩: ∃n,(l.getD i (0,0,0)).1=n:=⟨_,rfl⟩
   obtain⟨s,es⟩: ∃n,(l.getD i (0,0,0)).2.1=n:=⟨_,rfl⟩
   obtain⟨t,et⟩: ∃n,(l.getD i (0,0,0)).2.2=n:=⟨_,rfl⟩
   rw[en,es,et] at hR
   rw[en] at hnd t2 t3
   rw[es] at t2
   rw[et] at t3
   clear en es et hR0
   have K0_1:=Bk.nil (wo.heap.size) wo
   go_upto_region 2 with fail
   refine Rn K0_1 HBw [(0,10,_)] (oc (g_bn (fun uZ=>Z6 _ _ (i:Int) (l.length:Int) _ uZ hl)) on) fun u1 HB1 sz1 K1=>?_
   simp only[sQ] at K1⊢
   go_upto_region 3 with fail
   refine Rp K1 HB1 [] [(2,5,L0h,some (3,SE n s t))] [(0,11,_),(1,12,_)] [(3,2)] [] [] (oc (g_ix hX.out)<|oc (g_lf hR.out hgo Tryz.underlying35 Zb)<|oc (g_al 0 X7)<|oc (g_sn 0 Zb) on) fun u2 b2_2 HB2 sz2 K2=>?_
   simp only[sQ] at K2⊢
   go_upto_region 4 with fail
   refine Rp K2 HB2 [] [(3,6,L0s,some (4,LN n))] (cG 0 13 [_,_,_] []) [(4,3)] [] [] (oc (g_fd (fdS0 _))<|oc (g_lc 0 0 lI)<|oc (g_cl Yx (fun uZ=>vNumber n uZ (by omega) (by omega)))<|oc (g_al 0 aN)<|oc (g_sn 0 iN) on) fun u3 b3_3 HB3 sz3 K3=>?_
   simp only[sQ] at K3⊢
   have HBu:=HB3
   have hq2:0<i->b2<wo.heap.size:=fun h=>(Q2.out.lt h).2
   have hq3:0<i->b3<wo.heap.size:=fun h=>(Q3.out.lt h).2
   have q2l:0<i->w.heap.size<=b2:=fun h=>(Q2.out.lt h).1
   have q3l:0<i->w.heap.size<=b3:=fun h=>(Q3.out.lt h).1
   obtain⟨b5,eb5⟩: ∃x,x=b2_2:=⟨_,rfl⟩
   obtain⟨b6,eb6⟩: ∃x,x=b3_3:=⟨_,rfl⟩
   have K5:CV u3 b5 (SE n s t):=by rw[eb5];exact(K3.cv 0)
   have K6:CV u3 b6 (LN n):=by rw[eb6];exact(K3.cv 1)
   have L5:b5<u3.heap.size:=by rw[eb5];exact(K3.lt 0)
   have L6:b6<u3.heap.size:=by rw[eb6];exact(K3.lt 1)
   have N5:wo.heap.size<=b5:=by rw[eb5];exact(K3.lo 0)
   have N6:wo.heap.size<=b6:=by rw[eb6];exact(K3.lo 1)
   rw[<-eb5,<-eb6]
   clear eb5 eb6
   have hsb:=HBu.size
   have hsr:=HBr.size
   replace Q2:=Q2.out.stab HBu
   replace Q3:=Q3.out.stab HBu
   have hTu:Bw w u3:=Zg HBr HBu
   obtain⟨v2,uc,c2,r2,rg2,Q2',hc2⟩:=app_q (ty:=73) (x:=n) (y:=s) Q2 (by omega) (by omega)
   have sz1:(UP n s u3).heap.size=u3.heap.size+1:=by simp[UP]
   have sz2:=rg2.size
   have Q3a:=(Q3.stab (Z1 (Z5 u3) (.cells (LN n++LN s:List Value).toArray 102))).grow rg2 (fun h e=>by
    rw[if_neg (by omega)] at e;exact hne h (Option.some.inj e).symm)
   have K5c:CV uc b5 (SE n s t):=(K5.below (Z1 (Z5 u3) (.cells (LN n++LN s:List Value).toArray 102)) L5).grow rg2 (by show b5<(UP n s u3).heap.size;omega) (fun e=>by
    by_cases h:i=0
    ·rw[if_pos h] at e;cases e
    ·rw[if_neg h] at e;have:=Option.some.inj e;have:=hq2 (by omega);omega)
   have K6c:CV uc b6 (LN n):=(K6.below (Z1 (Z5 u3) (.cells (LN n++LN s:List Value).toArray 102)) L6).grow rg2 (by show b6<(UP n s u3).heap.size;omega) (fun e=>by
    by_cases h:i=0
    ·rw[if_pos h] at e;cases e
    ·rw[if_neg h] at e;have:=Option.some.inj e;have:=hq2 (by omega);omega)
   obtain⟨v3,ud,c3,r3,rg3,Q3',hc3⟩:=app_q (ty:=73) (x:=n) (y:=t) Q3a (by omega) (by omega)
   have sz3:(UP n t uc).heap.size=uc.heap.size+1:=by simp[UP]
   have _:=rg3.size
   have hcl:=(Q2'.lt (by omega)).2
   have Q2b:=(Q2'.stab (Z1 (Z5 uc) (.cells (LN n++LN t:List Value).toArray 102))).grow rg3 (fun _ e=>by
    by_cases h:i=0
    ·rw[if_pos h] at e;cases e
    ·rw[if_neg h] at e
     have e:=Option.some.inj e
     have:=hq3 (by omega)
     rcases hc2 with⟨_,h2⟩ | h2
     ·exact hne (by omega) (by omega)
     ·omega)
   have hBd:Bw w ud:=by
    have h1:Bw w (UP n s u3):=Z1 hTu _
    have h2:Bw w uc:=h1.grown rg2 h1.size (fun k e=>by
     by_cases h:i=0
     ·rw[if_pos h] at e;cases e
     ·rw[if_neg h] at e;cases e;exact q2l (by omega))
    have h3:Bw w (UP n t uc):=Z1 h2 _
    exact h3.grown rg3 h3.size (fun k e=>by
     by_cases h:i=0
     ·rw[if_pos h] at e;cases e
     ·rw[if_neg h] at e;cases e;exact q3l (by omega))
   have hne':c2≠c3:=by
    rcases hc3 with⟨h0,h3⟩ | h3
    ·have:=hq3 h0
     rcases hc2 with⟨_,h2⟩ | h2
     ·intro e;exact hne h0 (by omega)
     ·omega
    ·omega
   have x0:=(K6 0 _ rfl).1
   have x1:=(K6 1 _ rfl).1
   have x2:=(K6 2 _ rfl).1
   have x3:=(K6 3 _ rfl).1
   have s1:=(K5 1 _ rfl).1
   have s2:=(K5 2 _ rfl).1
   have s3:=(K5 3 _ rfl).1
   have s4:=(K5 4 _ rfl).1
   have z0:=(K6c 0 _ rfl).1
   have z1:=(K6c 1 _ rfl).1
   have z2:=(K6c 2 _ rfl).1
   have z3:=(K6c 3 _ rfl).1
   have t5:=(K5c 5 _ rfl).1
   have t6:=(K5c 6 _ rfl).1
   have t7:=(K5c 7 _ rfl).1
   have t8:=(K5c 8 _ rfl).1
   have Q2b:Hid _:=Q2b
   have Q3':Hid _:=Q3'
   have e1:IntKind.i64.wrap ((i:Int)+1)=((i+1:Nat):Int):=by rw[IntKind.wrap_i64];omega
   clear Q2 Q3 Q3a Q2' K5 K6 K5c K6c rg2 rg3
   go_wp2_with (first
    | (at_builtin;refine Zz rfl _ _ 73 rfl _ _ _ rfl rfl r2 ?_;clear r2)
    | (at_builtin;refine Zz rfl _ _ 73 rfl _ _ _ rfl rfl r3 ?_;clear r3))
   refine⟨⟨i+1,c2,c3,_,_,by omega,by simp,rfl,rfl,by rw[t2.out];exact Q2b,by rw[t3.out];exact Q3',fun _=>hne',hBd⟩,?_⟩
   simp[intOf];omega
  ·have hl: ¬((i:Int)<(l.length:Int)):=by omega
   have hio:i=l.length:=by omega
   go_wp2_with fail
   refine bodyPost_ret (v:= .tuple #[y2,y3]) (by simp[results,Tryz.results54,go_sem]) rfl ⟨y2,y3,rfl,b2,?_,b3,?_,fun h=>hne (by omega),HBr⟩
   ·have:=Q2.out;rwa [hio,List.take_of_length_le (by simp[opS])] at this
   ·have:=Q3.out;rwa [hio,List.take_of_length_le (by simp[opT])] at this
theorem vPoints(sl:Option Addr)(cap:Nat)(l:List (Int×Int×Int))(w:World)(hv:ShL w (.slice sl l.length cap) l)(hl:l.length<=1000)(h1:1<=l.length)(hn:ndsB l=true):Calls Tryz.prog 54 #[.slice sl l.length cap] w fun e u=> ∃c2 c3 o2 o3 z2 z3,e= .returned (.tuple #[.slice (some ⟨c2,0,none⟩) l.length o2,.slice (some ⟨c3,0,none⟩) l.length o3])/\w.heap.size<=c2/\w.heap.size<=c3/\c2≠c3/\c2<u.heap.size/\c3<u.heap.size/\l.length<=o2/\l.length<=o3/\CV u c2 (flN (flt (opS l))++z2)/\CV u c3 (flN (flt (opT l))++z3)/\Bw w u:=by
 obtain⟨sl',gb,go,cap',e,h2,h3,h4,h5,h6⟩:=hv
 cases e
 refine(vpoints_core sl gb go cap l w (sh_ix h4) h5 (sh_pt h6) hl fun k hk=>by have:=ndB_iff.1 (nds_get.1 hn k hk);omega).mono ?_
 rintro e u ⟨v2,v3,b2,b3,rfl,q2,q3,hne,hB⟩
 obtain⟨q21,⟨q22,_⟩ | ⟨q22,q23,co,zs,rfl,q24,q25,q26,q27⟩⟩:=q2
 ·omega
 obtain⟨q31,⟨q32,_⟩ | ⟨q32,q33,co',zs',rfl,q34,q35,q36,q37⟩⟩:=q3
 ·omega
 exact⟨b2,b3,co,co',zs,zs',rfl,q23,q33,hne h1,q24,q34,q25,q35,q27,q37,hB⟩
theorem vopn_c(p q g h:Int)(sl:Option Addr)(cap:Nat)(l:List (Int×Int×Int))(w:World)(hC:Hid (∀u,CC 50 #[GX p q g h] u (iI 90))):
 CC 25 #[GX p q g h,.slice sl l.length cap] w (.tuple #[A4 0 0 0 0,A4 0 0 0 0,iI 90]):=by
 go_enter Tryz.func25,Tryz.ntmps25
 go_upto_region 1 with fail
 obtain⟨v0,hC,HB0,K0⟩:=bx3 w (GE p q g h) 26 L0s 24 L0s 24
 rw[hC]
 clear hC
 refine Rn K0 HB0 (cG 0 14 [_,_,_] [(3,13,_)]) (oc (g_ld 0 Tryz.underlying26 Z0)<|oc (g_cl Ux hC.out)<|oc (g_bn (fun uZ=>Zw _ _ _ 90 0 _ uZ rfl))<|oc g_as on) fun u1 HB1 _ K1=>?_
 simp only[sQ] at K1⊢
 go_upto_region 4 with fail
 refine Rp K1 HB1 [.no,.all 2 ([iU (0),iU (0),iU (0),iU (0)]),.all 3 ([iU (0),iU (0),iU (0),iU (0)])] [] [(0,30,_),(1,31,_),(4,6,_)] [] [] [] (oc (g_bd zN)<|oc (g_bd zN)<|oc (g_st 1 iN)<|oc (g_st 2 iN)<|oc g_as on) fun u2 HB2 _ K2=>?_
 simp only[sQ] at K2⊢
 have c4:=(K2.cv 1).n4
 have c5:=(K2.cv 2).n4
 go_wp2
 refine bodyPost_ret (v:= .tuple #[A4 0 0 0 0,A4 0 0 0 0,iI 90]) (by simp[results,Tryz.results25,go_sem,c4,c5]) rfl ⟨rfl,HB2⟩
theorem vopn_0(p q g h:Int)(sl:Option Addr)(cap:Nat)(l:List (Int×Int×Int))(w:World)(h1:((l.length:Int)==0)=true)(hC:Hid (∀u,CC 50 #[GX p q g h] u (iI 0))):
 CC 25 #[GX p q g h,.slice sl l.length cap] w (.tuple #[A4 0 0 0 0,A4 0 0 0 0,iI 2]):=by
 go_enter Tryz.func25,Tryz.ntmps25
 go_upto_region 1 with fail
 obtain⟨v0,hC,HB0,K0⟩:=bx3 w (GE p q g h) 26 L0s 24 L0s 24
 rw[hC]
 clear hC
 refine Rn K0 HB0 (cG 0 14 [_,_,_] [(3,13,_)]) (oc (g_ld 0 Tryz.underlying26 Z0)<|oc (g_cl Ux hC.out)<|oc (g_bn (fun uZ=>Zw _ _ _ 0 0 _ uZ rfl))<|oc g_as on) fun u1 HB1 _ K1=>?_
 simp only[sQ] at K1⊢
 go_upto_region 2 with fail
 refine Rn K1 HB1 (cG 0 18 [_,_,_,_,undef,undef,undef,_] [(8,17,_)]) (oc g_mv<|oc (g_ln Tryz.underlying48)<|oc (g_bn (fun uZ=>T4 _ _ _ (l.length:Int) 0 _ uZ h1))<|oc g_mv<|oc g_sk<|oc g_sk<|oc g_sk<|oc g_pk<|oc g_as on) fun u2 HB2 _ K2=>?_
 simp only[sQ] at K2⊢
 go_upto_region 5 with fail
 refine Rp K2 HB2 [.no,.all 2 ([iU (0),iU (0),iU (0),iU (0)]),.all 3 ([iU (0),iU (0),iU (0),iU (0)])] [] [(0,32,_),(1,33,_),(4,6,_)] [] [] [] (oc (g_bd zN)<|oc (g_bd zN)<|oc (g_st 1 iN)<|oc (g_st 2 iN)<|oc g_as on) fun u3 HB3 _ K3=>?_
 simp only[sQ] at K3⊢
 have c4:=(K3.cv 1).n4
 have c5:=(K3.cv 2).n4
 go_wp2
 refine bodyPost_ret (v:= .tuple #[A4 0 0 0 0,A4 0 0 0 0,iI 2]) (by simp[results,Tryz.results25,go_sem,c4,c5]) rfl ⟨rfl,HB3⟩
theorem vopn_n(p q g h:Int)(sl:Option Addr)(cap:Nat)(l:List (Int×Int×Int))(w:World)(h1:((l.length:Int)==0)=false)(h2:decide (256<(l.length:Int))=false)(hC:Hid (∀u,CC 50 #[GX p q g h] u (iI 0)))(hH:Hid (∀u,Bw w u->CC 53 #[.slice sl l.length cap] u (.bool false))):
 CC 25 #[GX p q g h,.slice sl l.length cap] w (.tuple #[A4 0 0 0 0,A4 0 0 0 0,iI 2]):=by
 go_enter Tryz.func25,Tryz.ntmps25
 go_upto_region 1 with fail
 obtain⟨v0,hC,HB0,K0⟩:=bx3 w (GE p q g h) 26 L0s 24 L0s 24
 rw[hC]
 clear hC
 refine Rn K0 HB0 (cG 0 14 [_,_,_] [(3,13,_)]) (oc (g_ld 0 Tryz.underlying26 Z0)<|oc (g_cl Ux hC.out)<|oc (g_bn (fun uZ=>Zw _ _ _ 0 0 _ uZ rfl))<|oc g_as on) fun u1 HB1 _ K1=>?_
 simp only[sQ] at K1⊢
 go_upto_region 2 with fail
 refine Rn K1 HB1 (cG 0 18 [_,_,_,_,_,_,_,_] [(8,17,_)]) (oc g_mv<|oc (g_ln Tryz.underlying48)<|oc (g_bn (fun uZ=>T4 _ _ _ (l.length:Int) 0 _ uZ h1))<|oc g_mv<|oc g_mv<|oc (g_ln Tryz.underlying48)<|oc (g_bn (fun uZ=>gtr_i _ _ (l.length:Int) 256 _ uZ h2))<|oc g_pk<|oc g_as on) fun u2 HB2 _ K2=>?_
 simp only[sQ] at K2⊢
 go_upto_region 3 with fail
 refine Rn K2 HB2 (cG 0 27 [_,_,_] [(3,26,_)]) (oc g_mv<|oc (g_cb Xz hH.out)<|oc (g_un Ue)<|oc g_as on) fun u3 HB3 _ K3=>?_
 simp only[sQ] at K3⊢
 go_upto_region 5 with fail
 refine Rp K3 HB3 [.no,.all 2 ([iU (0),iU (0),iU (0),iU (0)]),.all 3 ([iU (0),iU (0),iU (0),iU (0)])] [] [(0,32,_),(1,33,_),(4,6,_)] [] [] [] (oc (g_bd zN)<|oc (g_bd zN)<|oc (g_st 1 iN)<|oc (g_st 2 iN)<|oc g_as on) fun u4 HB4 _ K4=>?_
 simp only[sQ] at K4⊢
 have c4:=(K4.cv 1).n4
 have c5:=(K4.cv 2).n4
 go_wp2
 refine bodyPost_ret (v:= .tuple #[A4 0 0 0 0,A4 0 0 0 0,iI 2]) (by simp[results,Tryz.results25,go_sem,c4,c5]) rfl ⟨rfl,HB4⟩
theorem vopn(p q g h a b er f ra rb:Int)(sl:Option Addr)(cap:Nat)(l:List (Int×Int×Int))(w:World)(h1:((l.length:Int)==0)=false)(h2:decide (256<(l.length:Int))=false)(hE1:Hid ((er !=0)=true->ra=0/\rb=0))(hE0:Hid ((er !=0)=false->ra=a/\rb=b/\er=0))(hC:Hid (∀u,CC 50 #[GX p q g h] u (iI 0)))(hH:Hid (∀u,Bw w u->CC 53 #[.slice sl l.length cap] u (.bool true)))(hP:Hid (∀u,Bw w u->Calls Tryz.prog 54 #[.slice sl l.length cap] u fun e u'=> ∃c2 c3 o2 o3 z2 z3,e= .returned (.tuple #[.slice (some ⟨c2,0,none⟩) l.length o2,.slice (some ⟨c3,0,none⟩) l.length o3])/\u.heap.size<=c2/\u.heap.size<=c3/\c2≠c3/\c2<u'.heap.size/\c3<u'.heap.size/\l.length<=o2/\l.length<=o3/\CV u' c2 (flN (flt (opS l))++z2)/\CV u' c3 (flN (flt (opT l))++z3)/\Bw u u'))(hC1:Hid (∀(u:World) (c o:Nat) z,Bw w u->c<u.heap.size->l.length<=o->CV u c (flN (flt (opS l))++z)->CC 55 #[NV q,A4 0 0 0 0,.slice (some ⟨c,0,none⟩) l.length o] u (.tuple #[NV a,iI er])))(hC2:Hid (∀(u:World) (c o:Nat) z,Bw w u->c<u.heap.size->l.length<=o->CV u c (flN (flt (opT l))++z)->CC 55 #[NV q,A4 0 0 0 0,.slice (some ⟨c,0,none⟩) l.length o] u (.tuple #[NV b,iI f]))):
 CC 25 #[GX p q g h,.slice sl l.length cap] w (.tuple #[NV ra,NV rb,iI er]):=by
 go_enter Tryz.func25,Tryz.ntmps25
 go_upto_region 1 with fail
 obtain⟨v0,hC,HB0,K0⟩:=bx3 w (GE p q g h) 26 L0s 24 L0s 24
 rw[hC]
 clear hC
 refine Rn K0 HB0 (cG 0 14 [_,_,_] [(3,13,_)]) (oc (g_ld 0 Tryz.underlying26 Z0)<|oc (g_cl Ux hC.out)<|oc (g_bn (fun uZ=>Zw _ _ _ 0 0 _ uZ rfl))<|oc g_as on) fun u1 HB1 _ K1=>?_
 simp only[sQ] at K1⊢
 go_upto_region 2 with fail
 refine Rn K1 HB1 (cG 0 18 [_,_,_,_,_,_,_,_] [(8,17,_)]) (oc g_mv<|oc (g_ln Tryz.underlying48)<|oc (g_bn (fun uZ=>T4 _ _ _ (l.length:Int) 0 _ uZ h1))<|oc g_mv<|oc g_mv<|oc (g_ln Tryz.underlying48)<|oc (g_bn (fun uZ=>gtr_i _ _ (l.length:Int) 256 _ uZ h2))<|oc g_pk<|oc g_as on) fun u2 HB2 _ K2=>?_
 simp only[sQ] at K2⊢
 go_upto_region 3 with fail
 refine Rn K2 HB2 (cG 0 27 [_,_,_] [(3,26,_)]) (oc g_mv<|oc (g_cb Xz hH.out)<|oc (g_un Vj)<|oc g_as on) fun u3 HB3 _ K3=>?_
 simp only[sQ] at K3⊢
 have hTu:=HB3
 have J0:CV u3 (w.heap.size) (GE p q g h):=(K3.cv 0)
 have J4:CV u3 (w.heap.size+1) L0s:=(K3.cv 1)
 have J5:CV u3 (w.heap.size+1+1) L0s:=(K3.cv 2)
 have j5:w.heap.size+1+1<u3.heap.size:=(K3.lt 2)
 go_upto_region 6 with fail
 go_cut [7,8] (fun s7 s8 wx=> ∃c2 c3 o2 o3 z2 z3,s7= .slice (some ⟨c2,0,none⟩) l.length o2/\s8= .slice (some ⟨c3,0,none⟩) l.length o3/\u3.heap.size<=c2/\u3.heap.size<=c3/\c2≠c3/\c2<wx.heap.size/\c3<wx.heap.size/\l.length<=o2/\l.length<=o3/\CV wx c2 (flN (flt (opS l))++z2)/\CV wx c3 (flN (flt (opT l))++z3)/\Bw u3 wx)
 case first=>
  go_wp2_with (go_at_call 54;refine(hP.out u3 hTu).mono ?_;rintro e ub ⟨c2,c3,o2,o3,z2,z3,rfl,g1,g2,g3,g4,g5,g6,g7,g8,g9,gB⟩;have g8:Hid _:=g8;have g9:Hid _:=g9)
  go_meet
  exact⟨c2,c3,o2,o3,z2,z3,rfl,rfl,g1,g2,g3,g4,g5,g6,g7,g8.out,g9.out,gB⟩
 case rest=>
  obtain⟨c2,c3,o2,o3,z2,z3,rfl,rfl,g1,g2,g3,g4,g5,g6,g7,g8,g9,gB⟩:=hcut
  have hTw:Bw w wc:=Zg hTu gB
  have R0:=CV.below J0 gB (by omega)
  have R4:=CV.below J4 gB (by omega)
  have R5:=CV.below J5 gB j5
  have gsz:=gB.size
  have i0:w.heap.size<wc.heap.size:=by omega
  have i4:w.heap.size+1<wc.heap.size:=by omega
  have i5:w.heap.size+1+1<wc.heap.size:=by omega
  clear J0 J4 J5
  have K3_1:Bk w.heap.size wc [(false,w.heap.size,GE p q g h),(true,w.heap.size+1,L0s),(true,w.heap.size+1+1,L0s),(false,c2,flN (flt (opS l))++z2),(false,c3,flN (flt (opT l))++z3)]:=⟨.c i0 R0<| .o i4 (by omega) R4<| .o i5 (by omega) R5<| .c g4 g8<| .c g5 g9<|trivial,by simp<;>omega⟩
  go_upto_region 7 with fail
  refine Rp K3_1 hTw [] [(8,9,L0s,some (9,LN a))] (cG 0 40 [_,_,_,_,_] [(5,39,_),(6,45,_),(7,46,_),(10,10,_)]) [(9,8)] [] [] (oc (g_fd (fdG1 _))<|oc (g_lo 0 4 uN iN)<|oc (g_bd zN)<|oc g_mv<|oc (g_cK ent_V6 (fun fZ uZ kZ sZ bZ=>hC1.out uZ c2 o2 z2 bZ (kZ.lb sZ 3) g6 (kZ.cv 3)))<|oc g_mv<|oc g_ex<|oc g_ex<|oc (g_al 0 aN)<|oc (g_sn 0 iN)<|oc g_as on) fun u4 b4_8 HB4 _ K4=>?_
  simp only[sQ] at K4⊢
  cases he:(er !=0)
  ·skip
   go_upto_region 8 with fail
   refine Rn K4 HB4 [(0,47,_),(1,48,_)] (oc g_mv<|oc (g_bn (fun uZ=>Zw _ _ _ er 0 _ uZ he)) on) fun u5 HB5 sz5 K5=>?_
   simp only[sQ] at K5⊢
   go_upto_region 10 with fail
   refine Rp K5 HB5 [] [(8,11,L0s,some (9,LN b))] (cG 0 53 [_,_,_,_,_] [(5,52,_),(6,58,_),(7,59,_),(10,12,_)]) [(9,8)] [] [] (oc (g_fd (fdG1 _))<|oc (g_lo 0 4 uN iN)<|oc (g_bd zN)<|oc g_mv<|oc (g_cK ent_V6 (fun fZ uZ kZ sZ bZ=>hC2.out uZ c3 o3 z3 bZ (kZ.lb sZ 4) g7 (kZ.cv 4)))<|oc g_mv<|oc g_ex<|oc g_ex<|oc (g_al 0 aN)<|oc (g_sn 0 iN)<|oc g_as on) fun u6 b6_8 HB6 sz6 K6=>?_
   simp only[sQ] at K6⊢
   go_upto_region 11 with fail
   refine Rd K6 HB6 [.no,.all 2 (LN a),.all 3 (LN b)] [] [(0,60,_),(1,61,_),(4,6,_)] [] [] [] (oc (g_ld 5 uN iN)<|oc (g_ld 6 uN iN)<|oc (g_st 1 iN)<|oc (g_st 2 iN)<|oc g_as on) fun u7 HB7 _ K7=>?_
   simp only[sQ] at K7⊢
   have c4:=(K7.cv 1).n4
   have c5:=(K7.cv 2).n4
   go_wp2
   refine bodyPost_ret (v:= .tuple #[NV a,NV b,iI 0]) (by simp[results,Tryz.results25,go_sem,c4,c5]) rfl ⟨by obtain⟨ea,eb,ee⟩:=hE0.out he;rw[ea,eb,ee],HB7⟩
  ·skip
   go_upto_region 8 with fail
   refine Rn K4 HB4 [(0,47,_),(1,48,_)] (oc g_mv<|oc (g_bn (fun uZ=>Zw _ _ _ er 0 _ uZ he)) on) fun u5 HB5 sz5 K5=>?_
   simp only[sQ] at K5⊢
   go_upto_region 9 with fail
   refine Rp K5 HB5 [.no,.all 3 ([iU (0),iU (0),iU (0),iU (0)]),.all 4 ([iU (0),iU (0),iU (0),iU (0)])] [] (cG 0 49 [_,_,_] [(5,6,_)]) [] [] [] (oc (g_bd zN)<|oc (g_bd zN)<|oc g_mv<|oc (g_st 1 iN)<|oc (g_st 2 iN)<|oc g_as on) fun u6 HB6 sz6 K6=>?_
   simp only[sQ] at K6⊢
   have c4:=(K6.cv 1).n4
   have c5:=(K6.cv 2).n4
   go_wp2
   refine bodyPost_ret (v:= .tuple #[A4 0 0 0 0,A4 0 0 0 0,iI er]) (by simp[results,Tryz.results25,go_sem,c4,c5]) rfl ⟨by obtain⟨ea,eb⟩:=hE1.out he;rw[ea,eb,NV_0],HB6⟩
end Go.Proofs.YtmoimodkopjeeaaGreatDoor
