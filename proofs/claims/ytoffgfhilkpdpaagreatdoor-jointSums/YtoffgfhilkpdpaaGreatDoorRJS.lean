/- Proved: for any group, dealings and shares, JointSums returns true and leaves its arguments as they were. The four variables that the program lays as its text says. -/
import Derived.Test.YtoffgfhilkpdpaaGreatDoorAJM
namespace Go.Proofs.YtoffgfhilkpdpaaGreatDoor
set_option linter.unusedVariables false
set_option linter.unusedSimpArgs false
set_option maxRecDepth 100000
set_option maxHeartbeats 4000000
section
open Go.RowKit
theorem works12(w:World)(hG:GP w):CC 11 #[] w (.bool true):=works_core w hG fun u x hB hx=>by
 have h:=jSum P0 Q0 4 H0 dsW x u (hG.below hB) Ti In_Q0' hx (by simp) (fun d hd=>by
  simp at hd
  rcases hd with rfl | rfl
  ·exact⟨by rw[W4];decide,cM_In _⟩
  ·exact⟨by rw[W4];decide,cM_In _⟩)
 have e1:smE P0 Q0 dsW=0:=w_sm
 rw[smD,smC,e1,if_pos rfl,if_pos rfl,w_cs] at h
 exact h
theorem app_sn{w:World}{m c:Nat}{sl:Option Addr}{gb go:Nat}{l:List (Int×Int×Int)}{ty:TypeId}(hm:l.length=m)(hl:m<=100000)(hs:l=[]\/sl=some ⟨gb,go,none⟩)(hg:l.length=0\/gb<w.heap.size)(hS: ∀j v,(flS l)[j]?=some v->w.cell? ⟨gb,go+j,none⟩=some v):
 ∃v u',(Builtin.append_ #[28,28] ty #[.slice (some ⟨w.heap.size,0,none⟩) 0 0,.slice sl m c]).run Tryz.prog (w.alloc (.cells #[] 39))= .ok v u'/\Bw w u'/\ShL u' v l:=by
 obtain⟨ti,hti,htm⟩:=Option.map_eq_some_iff.1 infoSh
 simp only[Prod.mk.injEq] at htm
 obtain⟨hzv,hsz,hby⟩:=htm
 obtain⟨v',u',hr,hB,hp⟩:=Vh (P:=Tryz.prog) (w.alloc (.cells #[] 39)) (ty:=ty) Tryz.underlying28 hti hzv (by rw[hsz];rfl) (lo:=0) (b:=w.heap.size) (n:=0) (m:=m) (xs:=[]) (news:=flS l) (y:= .slice sl m c) (fun j v h=>by simp at h) (Nat.zero_le _) (Nat.zero_le _) (by simp) (by rw[hsz];rfl) ⟨sl,c,rfl,by
  rcases hs with rfl | rfl
  ·exact .inl hm.symm
  ·rcases hg with hg | hg
   ·exact .inl Z1
   ·refine .inr ⟨_,rfl,fun j v hj=>?_⟩
    have e1:(⟨gb,go,none⟩:Addr).add j=⟨gb,go+j,none⟩:=by unfold Addr.add;split<;>simp_all
    rw[e1,World.cell?_alloc_past _ _ _ hg];exact hS j v hj⟩ (by rw[hsz,flS_len];omega) (by rw[hby];omega) Z1
 rw[hsz,List.nil_append,Nat.zero_add] at hp
 obtain⟨b2,c2,zs,rfl,h1,h2,h3,h4,h5⟩:=hp
 exact⟨_,u',hr,Z7 (Z5 (Zf w) _) hB,sh_row h2 h5 hm h3⟩
theorem shares_core(sl:Option Addr)(len cap m gb go:Nat)(l:List (Int×Int×Int))(w:World)(hm:min ((len:Nat):Int) 17=((m:Nat):Int))(hmn:m<=len)(hlc:len<=cap)(hsn:sl=none->cap=0)(hml:Hid (l.length=m))(hm17:m<=17)(hs:Hid (l=[]\/sl=some ⟨gb,go,none⟩))(hg:Hid (l.length=0\/gb<w.heap.size))(hS:Hid (∀j v,(flS l)[j]?=some v->w.cell? ⟨gb,go+j,none⟩=some v)):
 Calls Tryz.prog 5 #[.slice sl len cap] w fun e u=> ∃y,e= .returned y/\ShL u y l/\Bw w u:=by
 have hbs:=bsS0
 have hsl:=slSh sl len cap m hmn hlc hsn
 obtain⟨v',u',r,hB,hN⟩:=app_sn (w:=w) (c:=cap) (ty:=28) hml.out Z1 hs.out hg.out hS.out
 have hN:Hid _:=hN
 have hB:Hid _:=hB
 clear hsn hm17
 go_enter Tryz.func5,Tryz.ntmps5
 go_wp2_with (at_builtin;refine Y2 rfl _ _ 28 rfl _ _ _ rfl rfl r ?_;clear r)
 exact bodyPost_ret (v:=v') (by simp[results,Tryz.results5,go_sem]) rfl ⟨_,rfl,hN.out,hB.out⟩
theorem shares12(l:List (Int×Int×Int))(v:Value)(w:World)(hv:ShL w v l):Calls Tryz.prog 5 #[v] w fun e u=> ∃y,e= .returned y/\ShL u y (l.take 17)/\Bw w u:=by
 obtain⟨sl,gb,go,cap,rfl,h2,h3,h4,h5,h6⟩:=hv
 have e:(l.take (min l.length 17)).length=min l.length 17:=by rw[List.length_take];omega
 have et:l.take (min l.length 17)=l.take 17:=by
  by_cases h:l.length<=17
  ·rw[Nat.min_eq_left h,List.take_length,List.take_of_length_le h]
  ·rw[Nat.min_eq_right Z1]
 rw[<-et]
 exact shares_core sl l.length cap (min l.length 17) gb go _ w Z1 (Nat.min_le_left _ _) h2 h3 e (Nat.min_le_right _ _) (h4.imp (fun e=>by rw[e,List.take_nil]) id) (h5.imp (fun e=>by rw[List.length_take];omega) id) fun j v hj=>h6 j v (flS_pre l _ j v hj)
theorem ent_seneschalbase_SameNats:EnT 28:=fun _ _=>by kernel_rfl
theorem jsame_core(d:Int)(sa sb:Option Addr)(na nb ca cb:Nat)(w:World)(hS:Hid (∀u,Bw w u->CC 28 #[.slice sa na ca,.slice sb nb cb] u (.bool true))):
 CC 10 #[DX d (.slice sa na ca),DX d (.slice sb nb cb)] w (.bool true):=by
 go_enter Tryz.func10,Tryz.ntmps10
 go_upto_region 1 with fail
 obtain⟨v0,hC,HB0,K0⟩:=bx2 w (DE d (.slice sa na ca)) 33 (DE d (.slice sb nb cb)) 33
 rw[hC]
 clear hC
 refine Rn K0 HB0 (cG 0 5 [_,_,_,_,_,_,_,_,_,_,_,_] [(12,4,_)]) (Od8 (g_fd (fdD0 _)) (g_lc 0 0 lI) (g_fd (fdD0 _)) (g_lc 1 0 lI) (g_bn (fun uZ=>Ue _ _ _ d d true uZ (by simp))) g_mv (g_fd (fdD1 _)) (g_lc 0 1 lSN)<|Oc5 (g_fd (fdD1 _)) (g_lc 1 1 lSN) (g_cb ent_seneschalbase_SameNats hS.out) g_pk g_as) fun u1 HB1 _ K1=>?_
 simp only[sQ] at K1⊢
 go_wp2
 exact bodyPost_ret (v:= .bool true) (by simp[results,Tryz.results10,go_sem]) rfl ⟨rfl,HB1⟩
theorem same12(d:Int)(ns:List Int)(y z:Value)(w:World)(hM: ∀u,NL u y ns->NL u z ns->CC 28 #[y,z] u (.bool true))(hy:NL w y ns)(hz:NL w z ns):CC 10 #[DX d y,DX d z] w (.bool true):=by
 obtain⟨sa,ca,rfl⟩:=hy.sl
 obtain⟨sb,cb,rfl⟩:=hz.sl
 exact jsame_core d sa sb _ _ ca cb w fun u hB=>hM u (hy.up hB) (hz.up hB)
section
def Cls(ops:Array Oper)(f:Nat->Bool):Prop:= ∀i o,ops[i]?=some o->f i=true-> ∀e∈o.after,Region.binds .any e=true->f e.on=true
theorem Cls.step{ops:Array Oper}{f:Nat->Bool}{i:Nat}{o:Oper}(h:Cls ops f)(ho:ops[i]?=some o)(hd: ∀e∈o.after,Region.binds .any e=true->f e.on=true):Cls ops (updF f i):=fun j o' hj hf e he hb=>by
 unfold updF at hf⊢
 by_cases h1:e.on=i
 ·rw[if_pos h1]
 ·rw[if_neg h1]
  by_cases h2:j=i
  ·subst h2
   rw[ho] at hj;cases hj
   exact hd e he hb
  ·rw[if_neg h2] at hf
   exact h j o' hj hf e he hb
def needs(ops:Array Oper):Nat->List Nat->List Nat
 | 0,l=>l
 | n+1,l=>needs ops n (if l.contains n then l++(match ops[n]? with | some o=>(o.after.toList.filter fun e=>Region.binds .any e).map (·.on) | none=>[]) else l)
theorem needs_ok{ops:Array Oper}{f:Nat->Bool}(h:Cls ops f): ∀(n:Nat) (l:List Nat),(∀j∈l,f j=true)-> ∀j∈needs ops n l,f j=true
 | 0,l,hl=>hl
 | n+1,l,hl=>by
  rw[needs]
  refine needs_ok h n _ fun j hj=>?_
  split at hj
  ·rename_i hc
   rw[List.mem_append] at hj
   rcases hj with hj | hj
   ·exact hl j hj
   ·cases ho:ops[n]? with
    | none=>rw[ho] at hj;simp at hj
    | some o=>
     rw[ho] at hj
     obtain⟨e,he,rfl⟩:=List.mem_map.1 hj
     rw[List.mem_filter] at he
     exact h n o ho (hl n (by rwa [List.contains_iff_mem] at hc)) e (Array.mem_toList_iff.1 he.1) he.2
  ·exact hl j hj
section
variable {P:Program} {ops:Array Oper} {Q:Exit->Act->World->Prop} {id:Nat} {w0:World} {R:Rg} {k:Nat}
theorem region_two(J:(Nat->Value)->World->Prop)(hok:R.ok=true)(hnd:(R.es.map (·.2.1)).Nodup)(hst:Stab R.E)(h0:Inv R (fun _=>false) (fun s=>R.fr.getD s undef) w0.drew)
 (hopa:OpsAll R P ops Q 0 (ops.toList.take k))
 (hk: ∀f t u a o,Xs R ops f t u a k o->(∀j,j<k->f j=true)->wpOp P ops Q k (fun a' u'=> ∃t',Fr R.fr R.S a' t'/\J t' u') a u)
 (hl: ∀t u a,R.S.Nodup->Fr R.fr R.S a t->J t u->wpOp P ops Q (k+1) (fun a' u'=> ∃t',Fr R.fr R.S a' t'/\Q .normal ⟨(ovr R.fr R.S t').toArray,[]⟩ u') a u)
 (hsz:ops.size=k+2:=by rfl)(han:((List.range k).all fun j=>(needs ops k (match ops[k]? with | some o=>(o.after.toList.filter fun e=>Region.binds .any e).map (·.on) | none=>[])).contains j)=true:=by kernel_rfl)
 (hk1:(match ops[k+1]? with | some o=>o.after.toList.any fun e=>e.on==k&&Region.binds .any e | none=>false)=true:=by kernel_rfl)
 (hm:P.follows .mixedOrders=true:=by kernel_rfl)(hb:We .any ops=true:=by kernel_rfl):(Code.region id ops true).wp P Q ⟨R.fr.toArray,[]⟩ w0:=by
 have hops: ∀i o,i<k->ops[i]?=some o->OG R P ops Q i o:=fun i o hi ho=>by
  have:=hopa.get (n:=i) (o:=o) (by rw[List.getElem?_take,if_pos hi,Array.getElem?_toList];exact ho)
  rwa [Nat.zero_add] at this
 have hSn:R.S.Nodup:=by
  unfold Rg.ok at hok
  simp only[Bool.and_eq_true,decide_eq_true_eq] at hok
  exact hok.1.1.1
 have all_k: ∀f o,Cls ops f->ops[k]?=some o->(∀e∈o.after,Region.binds .any e=true->f e.on=true)-> ∀j,j<k->f j=true:=fun f o hc ho hd j hj=>by
  have h:=List.all_eq_true.1 han j (List.mem_range.2 hj)
  rw[List.contains_iff_mem,ho] at h
  refine needs_ok hc k _ (fun i hi=>?_) j h
  obtain⟨e,he,rfl⟩:=List.mem_map.1 hi
  rw[List.mem_filter] at he
  exact hd e (Array.mem_toList_iff.1 he.1) he.2
 refine Xr R.S (fun f t u=>Cls ops f/\((f k=false/\f (k+1)=false/\Inv R f t u)\/((∀j,j<k+1->f j=true)/\f (k+1)=false/\J t u)\/((∀j,j<k+2->f j=true)/\Q .normal ⟨(ovr R.fr R.S t).toArray,[]⟩ u))) hm hb ⟨(fun i o _ h=>by cases h),.inl ⟨rfl,rfl,h0⟩⟩ ?_ ?_
 ·rintro f t u i o a hF ⟨hC,hI⟩ ho hf hd
  have hi:i<k+2:=by rw[<-hsz];exact(Array.getElem?_eq_some_iff.1 ho).1
  have hC2:=hC.step ho hd
  rcases hI with⟨f1,f2,hI⟩ | ⟨f1,f2,hJ⟩ | ⟨f1,_⟩
  ·have X:Xs R ops f t u a i o:=⟨hok,hnd,hst,hF,hI,ho,hf,hd⟩
   by_cases h1:i<k
   ·refine wpOp_mono ?_ (hops i o h1 ho f t u a X)
    rintro a' u' ⟨t',hF',hI'⟩
    refine⟨t',hF',hC2,.inl ⟨?_,?_,hI'⟩⟩
    ·unfold updF;rw[if_neg Z1];exact f1
    ·unfold updF;rw[if_neg Z1];exact f2
   ·by_cases h2:i=k
    ·subst h2
     have hall:=all_k f o hC ho hd
     refine wpOp_mono ?_ (hk f t u a o X hall)
     rintro a' u' ⟨t',hF',hJ⟩
     refine⟨t',hF',hC2,.inr (.inl ⟨fun j hj=>?_,?_,hJ⟩)⟩
     ·unfold updF
      by_cases h:j=i
      ·rw[if_pos h]
      ·rw[if_neg h];exact hall j Z1
     ·unfold updF;rw[if_neg Z1];exact f2
    ·exfalso
     have e1:i=k+1:=Z1
     subst e1
     rw[ho] at hk1
     obtain⟨e,he,h⟩:=List.any_eq_true.1 hk1
     rw[Bool.and_eq_true,beq_iff_eq] at h
     have:=hd e (Array.mem_toList_iff.1 he) h.2
     rw[h.1,f1] at this
     cases this
  ·have e1:i=k+1:=by
    by_cases h:i<k+1
    ·rw[f1 i h] at hf;cases hf
    ·omega
   subst e1
   refine wpOp_mono ?_ (hl t u a hSn hF hJ)
   rintro a' u' ⟨t',hF',hQ⟩
   refine⟨t',hF',hC2,.inr (.inr ⟨fun j hj=>?_,hQ⟩)⟩
   unfold updF
   by_cases h:j=k+1
   ·rw[if_pos h]
   ·rw[if_neg h];exact f1 j Z1
  ·rw[f1 i hi] at hf;cases hf
 ·rintro f t u ⟨hC,hI⟩ hall
  rcases hI with⟨f1,_,_⟩ | ⟨_,f2,_⟩ | ⟨_,hQ⟩
  ·rw[hall k Z1] at f1;cases f1
  ·rw[hall (k+1) Z1] at f2;cases f2
  ·exact hQ
end
end
section
section
variable {R:Rg} {P:Program} {ops:Array Oper} {Q:Exit->Act->World->Prop} {f:Nat->Bool} {t:Nat->Value} {u:World} {a:Act} {i:Nat} {o:Oper}
theorem g_bE(m n:Nat)(p p':World->Value->Prop){T:TypeId}{j d k0 k1:Nat}{x:Operand}{vx:Value}(hr: ∀u y,p u y-> ∃v,(∀w,(Instr.build T [(k0,vx),(k1,y)].toArray).run P w= .ok v w)/\p' u v)(hop:o.op= .build T [(k0,x),(k1,.tmp d)].toArray:=by rfl)(hx:evR R i o x=some vx:=by rfl)(hm:R.E[m]?=some ⟨j,d,some i,p⟩:=by rfl)(hn0:(R.E[n]?).map (·.p)=some p':=by rfl)(hd:(Zs o j&&R.S.contains d)=true:=by rfl)(hc:R.chkE ops n i o=true:=by rfl):OG R P ops Q i o:=fun f t u a X=>by
 rw[Bool.and_eq_true,List.contains_iff_mem] at hd
 obtain⟨h2,h4⟩:=hd
 obtain⟨d',q',hd',hq',_,_,_,_,_,_,_,_,hw⟩:=Zm hc
 obtain⟨v,e1,hv⟩:=hr u (t d) (X.val hm h2 rfl)
 exact X.go hw fun K hK=>wp_buildR (vps:=[(k0,vx),(k1,t d)]) hop (by show [(k0,a.eval x),(k1,a.eval (.tmp d))]=_;rw[X.ev hx,X.inS h4]) (e1 u) (hK _ _ (X.putE hc (fun q' hq'=>by rw[hq'] at hn0;cases hn0;exact hv) (Below.refl _ _)))
theorem g_b1(m n:Nat)(p p':World->Value->Prop){T:TypeId}{j d:Nat}(hr: ∀u y,R.base<=u.heap.size->p u y-> ∃v u',(Instr.buildSlice T 1 ([0].zip [y]).toArray).run P u= .ok v u'/\Bw u u'/\p' u' v)(hop:o.op= .buildSlice T 1 [(0,.tmp d)].toArray:=by rfl)(hm:R.E[m]?=some ⟨j,d,some i,p⟩:=by rfl)(hn0:(R.E[n]?).map (·.p)=some p':=by rfl)(hd:(Zs o j&&R.S.contains d)=true:=by rfl)(hc:R.chkE ops n i o=true:=by rfl):OG R P ops Q i o:=fun f t u a X=>by
 rw[Bool.and_eq_true,List.contains_iff_mem] at hd
 obtain⟨h2,h4⟩:=hd
 obtain⟨d',q',hd',hq',_,_,_,_,_,_,_,_,hw⟩:=Zm hc
 obtain⟨v,u',e1,hB,hv⟩:=hr u (t d) X.I.1.sz (X.val hm h2 rfl)
 exact X.go hw fun K hK=>wp_bS (vs:=[t d]) hop (by rw[List.map_cons,List.map_nil,List.map_cons,List.map_nil,X.inS h4]) e1 (hK _ _ (X.putE hc (fun q' hq'=>by rw[hq'] at hn0;cases hn0;exact hv) hB))
end
end
def PQx(lo bo:Nat)(ns:List Int)(u:World)(y:Value):Prop:= ∃b co zs,y= .slice (some ⟨b,0,none⟩) ns.length co/\lo<=b/\b≠bo/\b<u.heap.size/\ns.length<=co/\CV u b (flN ns++zs)
theorem PQx.nl{lo bo:Nat}{ns:List Int}{u:World}{y:Value}(h:PQx lo bo ns u y):NL u y ns:=by
 obtain⟨b,co,zs,e,h1,_,h2,h3,h4⟩:=h
 exact PQn.nl ⟨b,co,zs,e,h1,h2,h3,h4⟩
def P1w(lo:Nat)(d:Int)(ns:List Int)(u:World)(v:Value):Prop:= ∃b y,v= .slice (some ⟨b,0,none⟩) 1 1/\b<u.heap.size/\CV u b (DE d y)/\PQn lo ns u y
def RwD(lo:Nat)(ds:List (Int×List Int))(i bo co:Nat)(u:World):Prop:= ∃(ys:Nat->Value) (zs:List Value),i<=co/\zs.length=2*(co -i)/\lo<=bo/\bo<u.heap.size/\CV u bo (rwD (fun j=>DE (ds.getD j (0,[])).1 (ys j)) i++zs)/\ ∀j,j<i->PQx lo bo (dN ds j) u (ys j)
theorem RwD.dl{lo:Nat}{ds:List (Int×List Int)}{bo co:Nat}{u:World}(h:RwD lo ds ds.length bo co u):DL u (.slice (some ⟨bo,0,none⟩) ds.length co) ds:=by
 obtain⟨ys,zs,h1,h2,h3,h4,h5,h6⟩:=h
 exact DL.mk ys h4 h5 h1 fun j hj=>(h6 j hj).nl
theorem RwD.stab{lo:Nat}{ds:List (Int×List Int)}{i bo co:Nat}{u u2:World}(hB:Bw u u2)(h:RwD lo ds i bo co u):RwD lo ds i bo co u2:=by
 obtain⟨ys,zs,h1,h2,h3,h4,h5,h6⟩:=h
 refine⟨ys,zs,h1,h2,h3,Nat.lt_of_lt_of_le h4 hB.size,h5.below hB h4,fun j hj=>?_⟩
 obtain⟨b,c,z,e,k1,k2,k3,k4,k5⟩:=h6 j hj
 exact⟨b,c,z,e,k1,k2,Nat.lt_of_lt_of_le k3 hB.size,k4,k5.below hB k3⟩
theorem rwD_eq{f g:Nat->List Value}: ∀{n:Nat},(∀j,j<n->f j=g j)->rwD f n=rwD g n
 | 0,_=>rfl
 | n+1,h=>by rw[rwD,rwD,rwD_eq fun j hj=>h j Z1,h n Z1]
theorem one_D(d:Int)(y:Value)(h:y.oneCell'=true): ∀v∈DE d y,v.oneCell'=true:=fun v hv=>by
 simp at hv
 rcases hv with rfl | rfl
 ·rfl
 ·exact h
theorem rw_app{u:World}{lo base i bo co:Nat}{ds:List (Int×List Int)}{x:Value}{ty:TypeId}(h:RwD lo ds i bo co u)(hi:i<=1000)(hb:bo<base)(hlo:lo<=base)(hx:P1w base (ds.getD i (0,[])).1 (dN ds i) u x):
 ∃v u' b2 c2,(Builtin.append_ #[27,27] ty #[.slice (some ⟨bo,0,none⟩) i co,x]).run Tryz.prog u= .ok v u'/\u.grownBy u' (some bo)/\v= .slice (some ⟨b2,0,none⟩) (i+1) c2/\RwD lo ds (i+1) b2 c2 u':=by
 obtain⟨ti,hti,htm⟩:=Option.map_eq_some_iff.1 infoDl
 simp only[Prod.mk.injEq] at htm
 obtain⟨hzv,hsz,hby⟩:=htm
 obtain⟨ys,zs,h1,h2,h3,h4,h5,h6⟩:=h
 obtain⟨bx,y,rfl,x1,x2,by_,cy,zy,rfl,y1,y2,y3,y4⟩:=hx
 have h1c: ∀j,j<i->(DE (ds.getD j (0,[])).1 (ys j):List Value).length=2:=fun _ _=>rfl
 obtain⟨v',u',hr,hg,b2,c2,z2,rfl,k1,k2,k3,k4,k5⟩:=V2 (P:=Tryz.prog) u (ty:=ty) Tryz.underlying27 hti hzv (by rw[hsz];rfl) (base:=u.heap.size) (n:=i) (cap:=co) (m:=1) (news:=DE (ds.getD i (0,[])).1 (.slice (some ⟨by_,0,none⟩) (dN ds i).length cy)) (y:= .slice (some ⟨bx,0,none⟩) 1 1) h5 h4 (by rw[hsz,Uo h1c];omega) (by rw[hsz];omega) h1 (Nat.le_refl _) ⟨_,1,rfl,.inr ⟨_,rfl,fun j v hj=>by rw[Addr.add0];exact(x2 j v hj).1⟩⟩ (by rw[hsz];rfl) (one_D _ _ rfl) (by rw[hby];omega) Z1
 rw[hsz] at k4
 refine⟨_,u',b2,c2,hr,hg,rfl,fun j=>if j=i then .slice (some ⟨by_,0,none⟩) (dN ds i).length cy else ys j,z2,k3,Z1,?_,k2,?_,fun j hj=>?_⟩
 ·rcases k1 with e | e<;>omega
 ·have e0:rwD (fun j=>DE (ds.getD j (0,[])).1 (if j=i then .slice (some ⟨by_,0,none⟩) (dN ds i).length cy else ys j)) (i+1)=rwD (fun j=>DE (ds.getD j (0,[])).1 (ys j)) i++DE (ds.getD i (0,[])).1 (.slice (some ⟨by_,0,none⟩) (dN ds i).length cy):=by
   rw[rwD]
   exact congr (congrArg _ (rwD_eq fun j hj=>by show DE _ (if j=i then _ else _)=_;rw[if_neg Z1])) (by show DE _ (if i=i then _ else _)=_;rw[if_pos rfl])
  show CV u' b2 (rwD (fun j=>DE (ds.getD j (0,[])).1 (if j=i then _ else ys j)) (i+1)++z2)
  rw[e0]
  exact k5
 ·show PQx lo b2 (dN ds j) u' (if j=i then _ else ys j)
  by_cases e:j=i
  ·subst e
   rw[if_pos rfl]
   exact⟨by_,cy,zy,rfl,Z1,by rcases k1 with e | e<;>omega,Nat.lt_of_lt_of_le y2 hg.size,y3,y4.grow hg y2 (by intro e;cases e;omega)⟩
  ·rw[if_neg e]
   obtain⟨b,c,z,e1,g1,g2,g3,g4,g5⟩:=h6 j Z1
   exact⟨b,c,z,e1,g1,by rcases k1 with e | e<;>omega,Nat.lt_of_lt_of_le g3 hg.size,g4,g5.grow hg g3 (by intro e;cases e;exact g2 rfl)⟩
theorem nl_cut2{u:World}{sl:Option Addr}{cap n k:Nat}{ns:List Int}(h:NL u (.slice sl n cap) ns)(hk:k<=ns.length):NL u (.slice sl k cap) (ns.take k):=by
 obtain⟨sl',gb,go,cap',e,h2,h3,h4,h5,h6⟩:=h
 cases e
 have el:(ns.take k).length=k:=by rw[List.length_take];omega
 exact⟨_,gb,go,_,by rw[el],Z1,h3,h4.imp (fun e=>by rw[e,List.take_nil]) id,h5.imp (fun e=>Z1) id,h6.take k⟩
theorem app_nqz{u:World}{base m c:Nat}{sl:Option Addr}{ns:List Int}{ty:TypeId}{vs:Value}(hlu:base<=u.heap.size)(h:PZ base u vs)(hN:NL u (.slice sl m c) ns)(hl:ns.length<=100000):
 ∃v u',(Builtin.append_ #[31,31] ty #[vs,.slice sl m c]).run Tryz.prog u= .ok v u'/\Bw u u'/\PQn base ns u' v:=by
 obtain⟨b,rfl,hlo,hb⟩:=h
 obtain⟨sl',gb,go,cap',e,h2,h3,h4,h5,h6⟩:=hN
 cases e
 obtain⟨ti,hti,htm⟩:=Option.map_eq_some_iff.1 infoN
 simp only[Prod.mk.injEq] at htm
 obtain⟨hzv,hsz,hby⟩:=htm
 obtain⟨v',u',hr,hB,hg⟩:=Vh (P:=Tryz.prog) u (ty:=ty) Tryz.underlying31 hti hzv (by rw[hsz];rfl) (lo:=base) (n:=0) (m:=ns.length) (xs:=[]) (news:=flN ns) (y:= .slice sl ns.length c) (fun j v h=>by simp at h) hlo hlu hb (by rw[hsz];rfl) ⟨sl,c,rfl,by
  rcases h4 with rfl | rfl
  ·exact .inl rfl
  ·refine .inr ⟨_,rfl,fun j v hj=>?_⟩
   have e1:(⟨gb,go,none⟩:Addr).add j=⟨gb,go+j,none⟩:=by unfold Addr.add;split<;>simp_all
   rw[e1];exact h6 j v hj⟩ (by rw[hsz,Xf];omega) (by rw[hby];omega) Z1
 rw[hsz,List.nil_append,Nat.zero_add] at hg
 obtain⟨b2,c2,zs,rfl,k1,k2,k3,k4,k5⟩:=hg
 exact⟨_,u',hr,hB,b2,c2,zs,rfl,k1,k2,k3,k5⟩
theorem PQn.stab{lo:Nat}{ns:List Int}{u u2:World}{y:Value}(hB:Bw u u2)(h:PQn lo ns u y):PQn lo ns u2 y:=by
 obtain⟨b,co,zs,e,h1,h2,h3,h4⟩:=h
 exact⟨b,co,zs,e,h1,Nat.lt_of_lt_of_le h2 hB.size,h3,h4.below hB h2⟩
def PDw(lo:Nat)(d:Int)(ns:List Int)(u:World)(v:Value):Prop:= ∃y,v=DX d y/\PQn lo ns u y
theorem PDw.stab{lo:Nat}{d:Int}{ns:List Int}{u u2:World}{v:Value}(hB:Bw u u2)(h:PDw lo d ns u v):PDw lo d ns u2 v:=by
 obtain⟨y,e,h⟩:=h
 exact⟨y,e,h.stab hB⟩
theorem P1w.stab{lo:Nat}{d:Int}{ns:List Int}{u u2:World}{v:Value}(hB:Bw u u2)(h:P1w lo d ns u v):P1w lo d ns u2 v:=by
 obtain⟨b,y,e,h1,h2,h3⟩:=h
 exact⟨b,y,e,Nat.lt_of_lt_of_le h1 hB.size,h2.below hB h1,h3.stab hB⟩
theorem bdDw(d:Int)(s:Option Addr)(n c:Nat)(w:World):(Instr.build 33 [(0,iI d),(1,.slice s n c)].toArray).run Tryz.prog w= .ok (DX d (.slice s n c)) w:=by kernel_rfl
theorem b1Dw{lo:Nat}{d:Int}{ns:List Int}{u:World}{v:Value}(h:PDw lo d ns u v): ∃x u',(Instr.buildSlice 27 1 ([0].zip [v]).toArray).run Tryz.prog u= .ok x u'/\Bw u u'/\P1w lo d ns u' x:=by
 obtain⟨y,rfl,hy⟩:=h
 have hy2:=hy
 obtain⟨b,co,zs,rfl,h1,h2,h3,h4⟩:=hy2
 exact⟨_,_,bsD1 d _ _ _ u,Z5 (Zf u) _,u.heap.size,_,rfl,by simp,CV.new u _ _,hy.stab (Z5 (Zf u) _)⟩
theorem fdD0o(b o:Nat)(w:World):(Instr.fieldAt 33 (.pointer (some ⟨b,o,none⟩)) 0).run Tryz.prog w= .ok (.pointer (some ⟨b,o,none⟩)) w:=by go_simp
theorem bsD0z(w:World):(Instr.buildSlice 27 0 #[]).run Tryz.prog w= .ok (.slice (some ⟨w.heap.size,0,none⟩) 0 0) (w.alloc (.cells #[] 33)):=by kernel_rfl
theorem bsN0z(w:World):(Instr.buildSlice 31 0 #[]).run Tryz.prog w= .ok (.slice (some ⟨w.heap.size,0,none⟩) 0 0) (w.alloc (.cells #[] 24)):=by kernel_rfl
def cutD(ds:List (Int×List Int)):List (Int×List Int):=(ds.take 6).map fun d=>(d.1,d.2.take 7)
theorem cutD_len(ds:List (Int×List Int)):(cutD ds).length=min 6 ds.length:=by simp[cutD]
theorem cutD_get(ds:List (Int×List Int))(i:Nat)(h:i<6)(h2:i<ds.length):(cutD ds).getD i (0,[])=((ds.getD i (0,[])).1,(dN ds i).take 7):=by
 simp[cutD,List.getD_eq_getElem?_getD,List.getElem?_take,h,List.getElem?_eq_getElem h2,dN]
theorem deals_core(sl:Option Addr)(gb go cap:Nat)(sy:Nat->Option Addr)(cy gy oy:Nat->Nat)(ds:List (Int×List Int))(w:World)(hDM:Hid (DM w sl gb go ds.length cap (fun j=>(ds.getD j (0,[])).1) sy (fun j=>dN ds j) cy gy oy)):
 Calls Tryz.prog 4 #[.slice sl ds.length cap,iI 6] w fun e' w'=> ∃y,e'= .returned y/\DL w' y (cutD ds)/\Bw w w':=by
 have hb0:=bsD0z
 go_enter Tryz.func4,Tryz.ntmps4
 go_wp2_with fail
 go_loopw [5,6] (fun s5 s6 wr=> ∃i bo co:Nat,i<=min 6 ds.length/\s6=iI (i:Int)/\s5= .slice (some ⟨bo,0,none⟩) i co/\Hid (RwD w.heap.size (cutD ds) i bo co wr)/\Bw w wr) (fun _ s6 _=>7 -(intOf s6).toNat)
 case atStart=>exact⟨0,w.heap.size,0,Z1,rfl,rfl,⟨fun _=>.bool false,[],Z1,rfl,Nat.le_refl _,by simp,(fun j v h=>by simp[rwD] at h),fun j hj=>absurd hj Z1⟩,Z5 (Zf w) _⟩
 case round=>
  obtain⟨i,bo,co,hi,rfl,rfl,hR,HBr⟩:=hrel
  by_cases hj:i<min 6 ds.length
  ·have hl1:(i:Int)<(ds.length:Int):=Z1
   have hl2:(i:Int)<6:=Z1
   go_upto_region 5 with fail
   have hX:=Hid.on (hDM.out.ix i Z1)
   have hgo:=hDM.out.lt.resolve_left Z1
   have hRg:=Tj HBr hgo (hDM.out.at_ i Z1)
   have hc0:=Hid.on (hRg 0 _ rfl)
   have hc1:=Hid.on (hRg 1 _ rfl)
   have hgw:=Nat.lt_of_lt_of_le hgo HBr.size
   have hNi:=(hDM.out.nl i Z1).up HBr
   have hEi:=cutD_get ds i Z1 Z1
   clear hRg
   have en:dN ds i=(ds.getD i (0,[])).2:=rfl
   generalize (ds.getD i (0,[])).1=d at *
   generalize hns:dN ds i=ns at *
   have hX2:=hX.out
   obtain⟨sy',hsy⟩:=Z3 (sy i)
   obtain⟨cy',hcy⟩:=Z3 (cy i)
   rw[hsy,hcy] at hc1 hNi
   have hmn:min (ns.length:Int) 7=((min ns.length 7:Nat):Int):=Z1
   have hNc:=nl_cut2 hNi (Nat.min_le_left ns.length 7)
   rw[show ns.take (min ns.length 7)=ns.take 7 by
    by_cases h:ns.length<=7
    ·rw[Nat.min_eq_left h,List.take_length,List.take_of_length_le h]
    ·rw[Nat.min_eq_right Z1]] at hNc
   have hsl7:=slNt sy' ns.length cy' (min ns.length 7) (Nat.min_le_left _ _) (by obtain⟨_,_,_,_,e,h,_⟩:=hNi;cases e;exact h) (by obtain⟨_,_,_,_,e,_,h,_⟩:=hNi;cases e;exact h)
   have hNc:=Hid.on hNc
   have HBo:Bw wr wr:=Below.refl _ _
   obtain⟨_,_,_,_,hlo,hbo,_⟩:=hR.out
   clear en hns hsy hcy hNi hX2
   have K0_1:=Bk.nil (wr.heap.size) wr
   go_upto_region 5 with fail
   refine region_two (R:=mkR _ wr.heap.size wr wr.heap.size [] [] [] [(0,19,.slice (some ⟨bo,0,none⟩) i co),(1,20,.slice sl ds.length cap),(2,21,iI (i:Int)),(3,22,.pointer (some ⟨gb,go+2*i,none⟩)),(4,23,.pointer (some ⟨gb,go+2*i,none⟩)),(5,24,iI d),(7,26,.slice sl ds.length cap),(8,27,iI (i:Int)),(9,28,.pointer (some ⟨gb,go+2*i,none⟩)),(10,29,.pointer (some ⟨gb,go+2*i+1,none⟩)),(11,30,(.slice sy' ns.length cy')),(12,31,.slice sl ds.length cap),(13,32,iI (i:Int)),(14,33,.pointer (some ⟨gb,go+2*i,none⟩)),(15,34,.pointer (some ⟨gb,go+2*i+1,none⟩)),(16,35,(.slice sy' ns.length cy')),(17,36,iI (ns.length:Int)),(18,37,iI ((min ns.length 7:Nat):Int)),(19,38,(.slice sy' (min ns.length 7) cy'))] [(24,0)] [(24,5)] [⟨6,25,some 20,PZ wr.heap.size⟩,⟨20,39,some 21,PQn wr.heap.size (ns.take 7)⟩,⟨21,40,some 22,PDw wr.heap.size d (ns.take 7)⟩,⟨22,41,some 23,P1w wr.heap.size d (ns.take 7)⟩,⟨23,42,some 24,P1w wr.heap.size d (ns.take 7)⟩,⟨24,5,none,P1w wr.heap.size d (ns.take 7)⟩]) (k:=23) (fun t u=> ∃b2 c2,t 42= .slice (some ⟨b2,0,none⟩) (i+1) c2/\RwD w.heap.size (cutD ds) (i+1) b2 c2 u/\Bw w u) (by kernel_rfl) List.nodup_nil (.cons (fun _ _ _ h1 h2=>h2.stab h1)<| .cons (fun _ _ _ h1 h2=>h2.stab h1)<| .cons (fun _ _ _ h1 h2=>h2.stab h1)<| .cons (fun _ _ _ h1 h2=>h2.stab h1)<| .cons (fun _ _ _ h1 h2=>h2.stab h1)<| .cons (fun _ _ _ h1 h2=>h2.stab h1)<|Stab.nil) (Inv.start (ks:=[]) HBo.drew rfl trivial (Nat.le_refl _) [] [] [(0,19,.slice (some ⟨bo,0,none⟩) i co),(1,20,.slice sl ds.length cap),(2,21,iI (i:Int)),(3,22,.pointer (some ⟨gb,go+2*i,none⟩)),(4,23,.pointer (some ⟨gb,go+2*i,none⟩)),(5,24,iI d),(7,26,.slice sl ds.length cap),(8,27,iI (i:Int)),(9,28,.pointer (some ⟨gb,go+2*i,none⟩)),(10,29,.pointer (some ⟨gb,go+2*i+1,none⟩)),(11,30,(.slice sy' ns.length cy')),(12,31,.slice sl ds.length cap),(13,32,iI (i:Int)),(14,33,.pointer (some ⟨gb,go+2*i,none⟩)),(15,34,.pointer (some ⟨gb,go+2*i+1,none⟩)),(16,35,(.slice sy' ns.length cy')),(17,36,iI (ns.length:Int)),(18,37,iI ((min ns.length 7:Nat):Int)),(19,38,(.slice sy' (min ns.length 7) cy'))] [(24,0)] [(24,5)] [⟨6,25,some 20,PZ wr.heap.size⟩,⟨20,39,some 21,PQn wr.heap.size (ns.take 7)⟩,⟨21,40,some 22,PDw wr.heap.size d (ns.take 7)⟩,⟨22,41,some 23,P1w wr.heap.size d (ns.take 7)⟩,⟨23,42,some 24,P1w wr.heap.size d (ns.take 7)⟩,⟨24,5,none,P1w wr.heap.size d (ns.take 7)⟩]) ?_ ?_ ?_
   ·exact Od8 g_mv g_mv g_mv (g_ix hX.out) (g_fd (fdD0o _ _)) (V9 gb (go+2*i) lI hc0.out hgw) (g_bs 0 (PZ wr.heap.size) bsN0z (fun u hu=>PZ.new hu)) g_mv<|Od8 g_mv (g_ix hX.out) (g_fd (fdD1o _ _)) (V9 gb (go+2*i+1) lSN hc1.out hgw) g_mv g_mv (g_ix hX.out) (g_fd (fdD1o _ _))<|Oc7 (V9 gb (go+2*i+1) lSN hc1.out hgw) (g_ln Tryz.underlying31) (g_mn hmn) (g_sl hsl7) (g_a1 0 1 (PZ wr.heap.size) (PQn wr.heap.size (ns.take 7)) (fun u vs hB hs hz=>app_nqz hs hz (hNc.out.up hB) (by rw[List.length_take];omega))) (g_bE 1 2 (PQn wr.heap.size (ns.take 7)) (PDw wr.heap.size d (ns.take 7)) (fun u y hy=>by obtain⟨b,c,z,rfl,h⟩:=hy;exact⟨_,bdDw d _ _ _,_,rfl,b,c,z,rfl,h⟩)) (g_b1 2 3 (PDw wr.heap.size d (ns.take 7)) (P1w wr.heap.size d (ns.take 7)) (fun u y hs hy=>b1Dw hy))
   ·intro f t u a o X hall
    have ho:=X.ho
    cases ho
    have hB:=X.I.1.bel
    have hv:=X.val (n:=3) rfl rfl rfl
    obtain⟨v,u',b2,c2,hr,hg,rfl,hR2⟩:=rw_app (ty:=27) (base:=wr.heap.size) (hR.out.stab hB) Z1 hbo HBr.size (x:=t 41) (by rw[dN,hEi];exact hv)
    have hBw:=Z7 HBr hB
    exact X.go rfl fun K hK=>Vn rfl (X.ev rfl) (X.inS (List.contains_iff_mem.1 rfl)) hr (hK _ _ ⟨_,X.F.put X.parts.1 (List.contains_iff_mem.1 rfl) _,b2,c2,rfl,hR2,hBw.grown hg hBw.size (fun k e=>by cases e;exact hlo)⟩)
   ·rintro t u a hS hF ⟨b2,c2,e1,hR2,hB2⟩
    refine wpOp_step rfl fun K' hK=>?_
    rw[if_pos (by rfl)]
    refine U7 (x:= .tmp 42) rfl ((hF.ev hS (N:=44) rfl 42 (List.contains_iff_mem.1 rfl) Z2).trans e1) (hK _ _ ⟨_,hF.put hS (List.contains_iff_mem.1 rfl) _,?_⟩)
    have hR2:=Hid.on hR2
    have e9:IntKind.i64.wrap ((i:Int)+1)=((i+1:Nat):Int):=by rw[IntKind.wrap_i64];omega
    simp only[mkR,List.map_cons,List.map_nil,List.nil_append,List.cons_append,ovr,List.set_cons_zero,List.set_cons_succ,updT,Nat.reduceEqDiff,↓reduceIte]
    go_wp2_with fail
    refine⟨⟨i+1,b2,c2,Z1,by first | rfl | rw[e9] | simp[e9],rfl,hR2,hB2⟩,?_⟩
    simp[intOf]<;>omega
  ·have eL:(cutD ds).length=i:=by rw[cutD_len];omega
   have hD:DL wr (.slice (some ⟨bo,0,none⟩) i co) (cutD ds):=by
    have h:=hR.out
    rw[<-eL] at h⊢
    exact h.dl
   have hD:=Hid.on hD
   by_cases hl:i<ds.length
   ·have hl1:(i:Int)<(ds.length:Int):=Z1
    have hl2: ¬(i:Int)<6:=Z1
    clear eL
    go_wp2_with fail
    exact bodyPost_ret (v:= .slice (some ⟨bo,0,none⟩) i co) (by simp[results,Tryz.results4,go_sem]) rfl ⟨_,rfl,hD.out,HBr⟩
   ·have hl1: ¬(i:Int)<(ds.length:Int):=Z1
    clear eL
    go_wp2_with fail
    exact bodyPost_ret (v:= .slice (some ⟨bo,0,none⟩) i co) (by simp[results,Tryz.results4,go_sem]) rfl ⟨_,rfl,hD.out,HBr⟩
theorem deals12(ds:List (Int×List Int))(v:Value)(w:World)(hv:DL w v ds):Calls Tryz.prog 4 #[v,iI 6] w fun e u=> ∃y,e= .returned y/\DL u y (cutD ds)/\Bw w u:=by
 obtain⟨sl,gb,go,cap,sy,cy,gy,oy,rfl,_,_,_,h⟩:=hv
 refine(deals_core sl gb go cap sy cy gy oy ds w h).mono ?_
 rintro e u ⟨y,h1,h2,h3⟩
 exact⟨y,h1,h2,h3⟩
theorem slD1(gb go n cap:Nat)(h1:1<=n)(hc:n<=cap): ∃go',(n=1\/go'=go+2)/\ ∀w,(Instr.sliceAt 27 (.slice (some ⟨gb,go,none⟩) n cap) (some (iI 1)) none none).run Tryz.prog w= .ok (.slice (some ⟨gb,go',none⟩) (n -1) (cap -1)) w:=by
 have h2:(1:Int)<=n:=Z1
 by_cases e:cap=1
 ·refine⟨go,.inl Z1,fun w=>?_⟩
  simp[Instr.sliceAt,Instr.slice,go_sem,Tryz.underlying27,h1,h2,hc,e]
 ·refine⟨go+2,.inr rfl,fun w=>?_⟩
  simp[Instr.sliceAt,Instr.slice,go_sem,Tryz.underlying27,h1,h2,hc,e]
theorem ixDl(gb go n cap j:Nat)(h:j<n)(w:World):(Instr.indexAt 27 (.slice (some ⟨gb,go,none⟩) n cap) (iI j)).run Tryz.prog w= .ok (.pointer (some ⟨gb,go+2*j,none⟩)) w:=by
 have h1:(j:Int)<n:=Z1
 simp[Instr.indexAt,go_sem,Tryz.underlying27,h1,h,Nat.mul_comm]
theorem DL.tail{u:World}{v:Value}{d:Int×List Int}{ds:List (Int×List Int)}(h:DL u v (d::ds)): ∃y,(∀w,(Instr.sliceAt 27 v (some (iI 1)) none none).run Tryz.prog w= .ok y w)/\DL u y ds:=by
 obtain⟨sl,gb,go,cap,sy,cy,gy,oy,rfl,h2,h3,h4,h5⟩:=h
 have e4:=h4.resolve_left (by simp)
 subst e4
 obtain⟨go',hg,hr⟩:=slD1 gb go (d::ds).length cap (by simp) h3
 refine⟨_,hr,some ⟨gb,go',none⟩,gb,go',cap -1,fun j=>sy (j+1),fun j=>cy (j+1),fun j=>gy (j+1),fun j=>oy (j+1),rfl,by simp,by rw[List.length_cons] at h3;omega,.inr rfl,?_⟩
 have hl: ∀j,j<ds.length->j+1<(d::ds).length:=fun j hj=>by rw[List.length_cons];omega
 exact{ix:=fun j hj W=>ixDl gb go' ds.length (cap -1) j hj W,lt:= .inr (h5.lt.resolve_left (by simp)),at_:=fun j hj=>(by
  have e:go'=go+2:=hg.resolve_left (by rw[List.length_cons];omega)
  have:=h5.at_ (j+1) (hl j hj)
  rw[e,show go+2+2*j=go+2*(j+1) by omega]
  exact this),ixn:=fun j hj=>h5.ixn (j+1) (hl j hj),ltn:=fun j hj=>h5.ltn (j+1) (hl j hj),atn:=fun j hj=>h5.atn (j+1) (hl j hj),nl:=fun j hj=>h5.nl (j+1) (hl j hj)}
theorem cutD_tail(d:Int×List Int)(ds:List (Int×List Int))(es:List (Int×List Int))(h:cutD ds=d::es):cutD es=es:=by
 have hc:cutD (cutD ds)=cutD ds:=by simp[cutD,<-List.map_take,List.take_take]
 have hl:es.length<=5:=by have:=cutD_len ds;rw[h,List.length_cons] at this;omega
 rw[h,cutD,List.take_of_length_le (by rw[List.length_cons];omega),List.map_cons] at hc
 rw[cutD,List.take_of_length_le Z1]
 exact(List.cons.inj hc).2
section
theorem ent_SW1:EnT 4:=fun _ _=>by kernel_rfl
theorem ent_SW2:EnT 5:=fun _ _=>by kernel_rfl
theorem ent_SW3:EnT 7:=fun _ _=>by kernel_rfl
theorem ent_SW4:EnT 9:=fun _ _=>by kernel_rfl
theorem ent_SW5:EnT 12:=fun _ _=>by kernel_rfl
theorem ent_SW6:EnT 13:=fun _ _=>by kernel_rfl
theorem ent_SW7:EnT 10:=fun _ _=>by kernel_rfl
theorem ent_SW8:EnT 11:=fun _ _=>by kernel_rfl
section
variable {R:Rg} {P:Program} {ops:Array Oper} {Q:Exit->Act->World->Prop} {f:Nat->Bool} {t:Nat->Value} {u:World} {a:Act} {i:Nat} {o:Oper}
theorem g_cX2(m n:Nat)(p p':World->Value->Prop){N:FuncId}{j d:Nat}{x x2:Operand}{vx vx2:Value}{tys:Array TypeId}(hr: ∀(vs:Array Value) (w:World),(callFunc N vs).run P w= .ok (.enter N vs) w)
 (hcall: ∀(u:World) (y:Value),Below R.lo R.w u->R.base<=u.heap.size->p u y->Calls P N #[vx,vx2,y] u fun e u'=> ∃v,e= .returned v/\p' u' v/\Bw u u')(hop:o.op= .call {callee:= .value (.func N),args:=[x,x2,.tmp d].toArray,argTypes:=tys}:=by rfl)(hx:evR R i o x=some vx:=by rfl)(hx2:evR R i o x2=some vx2:=by rfl)(hm:R.E[m]?=some ⟨j,d,some i,p⟩:=by rfl)(hd:(Zs o j&&R.S.contains d)=true:=by rfl)(hn:(R.E[n]?).map (·.p)=some p':=by rfl)(hc:R.chkE ops n i o=true:=by rfl):OG R P ops Q i o:=fun f t u a X=>by
 rw[Bool.and_eq_true,List.contains_iff_mem] at hd
 obtain⟨h2,h4⟩:=hd
 obtain⟨d',q,hd',hq,_,_,_,_,_,_,_,_,hw⟩:=Zm hc
 exact X.go hw fun K hK=>wp_callP (vs:=[vx,vx2,t d]) hop (by rw[List.map_cons,List.map_cons,List.map_cons,List.map_nil,X.ev hx,X.ev hx2,X.inS h4]) hr (hcall u (t d) X.I.1.bel X.I.1.sz (X.val hm h2 rfl)) fun v w' h1 hB=>hK _ _ (X.putE hc (fun q hq=>by rw[hq] at hn;cases hn;exact h1) hB)
end
def SLz(l:List (Int×Int×Int))(u:World)(v:Value):Prop:=ShL u v l
theorem SLz.stab{l:List (Int×Int×Int)}{u u2:World}{x:Value}(hB:Bw u u2)(h:SLz l u x):SLz l u2 x:=ShL.up h hB
theorem neSh(p q:Operand){n s t:Int}(hs:In s)(ht:In t)(w:World):(do eqGuard .neq 39 p q (SX n s t) (SX n s t);binOp .neq 39 (SX n s t) (SX n s t):Sem Value).run Tryz.prog w= .ok (.bool false) w:=by
 have k1:=eqn24k (D0 s) (D1 s) (D2 s) (D3 s) (D0 s) (D1 s) (D2 s) (D3 s) w
 have k2:=eqn24k (D0 t) (D1 t) (D2 t) (D3 t) (D0 t) (D1 t) (D2 t) (D3 t) w
 rw[eq4_N hs hs] at k1
 rw[eq4_N ht ht] at k2
 go_simp
theorem cutD_cut(ds:List (Int×List Int)):cutD (cutD ds)=cutD ds:=by
 simp[cutD,<-List.map_take,List.take_take]
theorem jsums_core(p q g h D e m s t f D2 e2:Int)(cs cs2:List Int)(ds:List (Int×List Int))(l:List (Int×Int×Int))(v1 v2:Value)(w:World)(hN2:Hid (∀u y z,NL u y cs2->NL u z cs2->CC 28 #[y,z] u (.bool true)))(hRf: ∀d0 xs,cutD ds=d0::xs-> ∀u y x,Bw w u->NL u y d0.2->DL u x xs->Calls Tryz.prog 12 #[GX p q g h,DX d0.1 y,x] u fun r u'=> ∃y,r= .returned (.tuple #[DX D2 y,iI e2])/\NL u' y cs2/\Bw u u')(hRr: ∀d0 xs,cutD ds=d0::xs-> ∀u y x,Bw w u->NL u y d0.2->DL u x xs->Calls Tryz.prog 13 #[GX p q g h,DX d0.1 y,x] u fun r u'=> ∃y,r= .returned (.tuple #[DX D2 y,iI e2])/\NL u' y cs2/\Bw u u')(hG:Hid (GP w))(im:In s)(it:In t)(hN:Hid (∀u y z,NL u y cs->NL u z cs->CC 28 #[y,z] u (.bool true)))(hH:Hid (∀u x,Bw w u->ShL u x (l.take 17)->CC 8 #[GX p q g h,x] u (.tuple #[SX m s t,iI f])))(hHr:Hid (∀u x,Bw w u->ShL u x (l.take 17)->CC 9 #[GX p q g h,x] u (.tuple #[SX m s t,iI f])))(hSr:Hid (∀u x,Bw w u->DL u x (cutD ds)->Calls Tryz.prog 7 #[GX p q g h,x] u fun r u'=> ∃y,r= .returned (.tuple #[DX D y,iI e])/\NL u' y cs/\Bw u u'))(hS:Hid (∀u x,Bw w u->DL u x (cutD ds)->Calls Tryz.prog 6 #[GX p q g h,x] u fun r u'=> ∃y,r= .returned (.tuple #[DX D y,iI e])/\NL u' y cs/\Bw u u'))(hv1:Hid (DL w v1 ds))(hv2:Hid (ShL w v2 l)):
 CC 3 #[GX p q g h,v1,v2] w (.bool true):=by
 go_enter Tryz.func3,Tryz.ntmps3
 go_upto_region 1 with fail
 obtain⟨v0,hC,HB0,K0⟩:=bx1 w (GE p q g h) 26
 rw[hC]
 clear hC
 go_upto_region 1 with fail
 go_cut [1] (fun s wx=>(∃a c,s= .slice a (cutD ds).length c/\DL wx (.slice a (cutD ds).length c) (cutD ds))/\Bw v0 wx)
 case first=>
  go_wp2_with (go_at_call 4;refine(deals12 ds v1 v0 (hv1.out.up HB0)).mono ?_;rintro r ua ⟨y,rfl,hy,hBa⟩)
  go_meet
  have hy2:=hy
  obtain⟨a,_,_,c,_,_,_,_,rfl,_⟩:=hy2
  exact⟨⟨a,c,rfl,hy⟩,hBa⟩
 case rest=>
 obtain⟨⟨a1,c1,rfl,hy1⟩,HBa⟩:=hcut
 obtain⟨wa,rfl⟩:=Zr wc
 have C0:CV v0 (w.heap.size) (GE p q g h):=(K0.cv 0)
 have c0:w.heap.size<v0.heap.size:=(K0.lt 0)
 have C0:=C0.below HBa c0
 have c0:=Nat.lt_of_lt_of_le c0 HBa.size
 have hTa:=Z7 HB0 HBa
 go_upto_region 2 with fail
 go_cut [2] (fun s wx=>(∃a c,s= .slice a (l.take 17).length c/\ShL wx (.slice a (l.take 17).length c) (l.take 17))/\Bw wa wx)
 case first=>
  go_wp2_with (go_at_call 5;refine(shares12 l v2 wa (hv2.out.up hTa)).mono ?_;rintro r ua ⟨y,rfl,hy,hBa⟩)
  go_meet
  have hy2:=hy
  obtain⟨a,_,_,c,rfl,_⟩:=hy2
  exact⟨⟨a,c,rfl,hy⟩,hBa⟩
 case rest=>
 obtain⟨⟨a2,c2,rfl,hy2⟩,HBb⟩:=hcut
 obtain⟨wb,rfl⟩:=Zr wc
 have C0:=C0.below HBb c0
 have c0:=Nat.lt_of_lt_of_le c0 HBb.size
 have hy1:=hy1.up HBb
 have hTb:=Z7 hTa HBb
 have HBo:Bw wb wb:=Below.refl _ _
 have hDe:Hid (∀u,Bw wb u->Calls Tryz.prog 4 #[.slice a1 (cutD ds).length c1,iI 6] u fun e u'=> ∃v,e= .returned v/\DLp (cutD ds) u' v/\Bw u u'):=fun u hB=>by
  have h:=deals12 (cutD ds) _ u (hy1.up hB)
  rw[cutD_cut] at h
  exact h
 have hS1:Hid (∀u x,Bw wb u->DL u x (cutD ds)->Calls Tryz.prog 6 #[GX p q g h,x] u fun r u'=> ∃y,r= .returned (.tuple #[DX D y,iI e])/\NL u' y cs/\Bw u u'):=fun u x hB hx=>hS.out u x (Z7 hTb hB) hx
 clear hv1 hv2 HBa HBb
 have K0_1:Bk wb.heap.size wb [(false,w.heap.size,GE p q g h)]:=⟨.c c0 C0<|trivial,by simp⟩
 go_upto_region 3 with fail
 refine rgY1 8 4 (PDz wb.heap.size D cs) K0_1 HBo HBo.size [] [] [(0,24,GX p q g h),(1,25,.slice a1 (cutD ds).length c1),(6,29,iI e),(9,8,iI e)] [] [] [⟨2,26,some 3,DLp (cutD ds)⟩,⟨3,27,some 4,PTz D e cs⟩,⟨4,23,none,PTz D e cs⟩,⟨5,28,some 8,PVz D cs⟩,⟨7,7,some 8,PBz wb.heap.size⟩] [⟨2,26,some 3,DLp (cutD ds)⟩,⟨3,27,some 4,PTz D e cs⟩,⟨4,23,none,PTz D e cs⟩,⟨5,28,some 8,PVz D cs⟩,⟨7,7,none,PDz wb.heap.size D cs⟩] [] (.cons (fun _ _ _ h1 h2=>h2.stab h1)<| .cons (fun _ _ _ h1 h2=>h2.stab h1)<| .cons (fun _ _ _ h1 h2=>h2.stab h1)<| .cons (fun _ _ _ h1 h2=>h2.stab h1)<| .cons (fun _ _ _ h1 h2=>h2.stab h1)<|Stab.nil) rfl rfl rfl ?_ ?_
 ·refine yc (g_ld 0 Tryz.underlying26 Z4) ?_
  refine yc g_mv ?_
  refine yc (g_cE 0 (DLp (cutD ds)) ent_SW1 (fun u hB hs=>hDe.out u hB)) ?_
  refine yc (g_cX 0 1 (DLp (cutD ds)) (PTz D e cs) ent_E1 (fun u y bZ hs hy=>(hS1.out u y bZ hy).mono (by rintro r u' ⟨y,rfl,h1,h2⟩;exact⟨_,rfl,⟨y,rfl,h1⟩,h2⟩))) ?_
  refine yc (g_mE 1 2 (PTz D e cs)) ?_
  refine yc (g_xE (k:=0) 2 3 (PTz D e cs) (PVz D cs) (fun u vs h=>by obtain⟨y,rfl,hy⟩:=h;exact⟨_,_,rfl,rfl,y,rfl,hy⟩)) ?_
  refine yt (t_xV (k:=1) (v:=iI e) 7 (PDz wb.heap.size D cs) 2 (PTz D e cs) (fun u vs h=>by obtain⟨y,rfl,hy⟩:=h;exact⟨_,rfl,rfl⟩)) ?_
  refine yc (g_aP 4 (PBz wb.heap.size) Yd (fun u hu=>PBz.new u hu)) ?_
  refine yz (st_bx 4 3 (PBz wb.heap.size) (PVz D cs) (PDz wb.heap.size D cs) (fun u vb v h0 hv=>by obtain⟨u2,r,h1,h2,h3,h4⟩:=st_dl u vb v h0 hv;exact⟨u2,r,h1,h2,h3,⟨.inl rfl,.inl rfl,.inr ⟨by simp,EKj h4⟩,.inl rfl,.inl rfl,trivial⟩⟩)) ?_
  exact yt (t_as 7 (PDz wb.heap.size D cs)) yn
 intro u1 v1_2 hv1_2 v1_3 hv1_3 v1_4 hv1_4 v1_5 hv1_5 v1_7 hv1_7 HB1 _ K1
 simp only[sQ] at K1⊢
 obtain⟨b7,y7,rfl,lb7,l7,K7,n7⟩:=hv1_7 rfl
 obtain⟨t7,k7,ey⟩:=n7.sl
 subst ey
 have hqp0:=Nat.ne_of_lt (Nat.lt_of_lt_of_le c0 lb7)
 have Cp0:=(K1.cv 0)
 have cp0:=(K1.lt 0)
 have hy1:=hy1.up HB1
 have hy2:=hy2.up HB1
 have hT7:=Z7 hTb HB1
 obtain⟨wd,rfl⟩:=Zr u1
 clear hv1_2 hv1_3 hv1_4 hv1_5 hv1_7
 have HBo7:Bw wd wd:=Below.refl _ _
 have hS2:Hid (∀u,Bw wd u->Calls Tryz.prog 7 #[GX p q g h,.slice a1 (cutD ds).length c1] u fun r u'=> ∃v,r= .returned v/\PTz D e cs u' v/\Bw u u'):=fun u hB=>(hSr.out u _ (Z7 hT7 hB) (hy1.up hB)).mono (by rintro r u' ⟨y,rfl,h1,h2⟩;exact⟨_,rfl,⟨y,rfl,h1⟩,h2⟩)
 have K1_2:Bk wd.heap.size wd [(false,w.heap.size,GE p q g h),(false,b7,DE D (.slice t7 cs.length k7))]:=⟨.c cp0 Cp0<| .c l7 K7<|trivial,by simp<;>omega⟩
 go_upto_region 4 with fail
 refine rgY0 7 3 (PDz wd.heap.size D cs) K1_2 HBo7 HBo7.size [] [] [(0,31,GX p q g h),(1,32,.slice a1 (cutD ds).length c1),(5,35,iI e),(8,10,iI e)] [] [] [⟨2,33,some 3,PTz D e cs⟩,⟨3,30,none,PTz D e cs⟩,⟨4,34,some 7,PVz D cs⟩,⟨6,9,some 7,PBz wd.heap.size⟩] [⟨2,33,some 3,PTz D e cs⟩,⟨3,30,none,PTz D e cs⟩,⟨4,34,some 7,PVz D cs⟩,⟨6,9,none,PDz wd.heap.size D cs⟩] [] (.cons (fun _ _ _ h1 h2=>h2.stab h1)<| .cons (fun _ _ _ h1 h2=>h2.stab h1)<| .cons (fun _ _ _ h1 h2=>h2.stab h1)<| .cons (fun _ _ _ h1 h2=>h2.stab h1)<|Stab.nil) rfl rfl rfl ?_ ?_
 ·refine yc (g_ld 0 Tryz.underlying26 Z4) ?_
  refine yc g_mv ?_
  refine yc (g_cE 0 (PTz D e cs) ent_SW3 (fun u hB hs=>hS2.out u hB)) ?_
  refine yc (g_mE 0 1 (PTz D e cs)) ?_
  refine yc (g_xE (k:=0) 1 2 (PTz D e cs) (PVz D cs) (fun u vs h=>by obtain⟨y,rfl,hy⟩:=h;exact⟨_,_,rfl,rfl,y,rfl,hy⟩)) ?_
  refine yt (t_xV (k:=1) (v:=iI e) 9 (PDz wd.heap.size D cs) 1 (PTz D e cs) (fun u vs h=>by obtain⟨y,rfl,hy⟩:=h;exact⟨_,rfl,rfl⟩)) ?_
  refine yc (g_aP 3 (PBz wd.heap.size) Yd (fun u hu=>PBz.new u hu)) ?_
  refine yz (st_bx 3 2 (PBz wd.heap.size) (PVz D cs) (PDz wd.heap.size D cs) (fun u vb v h0 hv=>by obtain⟨u2,r,h1,h2,h3,h4⟩:=st_dl u vb v h0 hv;exact⟨u2,r,h1,h2,h3,⟨.inl rfl,.inr ⟨by simp,EKj h4⟩,.inl rfl,.inl rfl,trivial⟩⟩)) ?_
  exact yt (t_as 9 (PDz wd.heap.size D cs)) yn
 intro u2 v2_2 hv2_2 v2_3 hv2_3 v2_4 hv2_4 v2_6 hv2_6 HB2 _ K2
 simp only[sQ] at K2⊢
 obtain⟨b9,y9,rfl,lb9,l9,K9,n9⟩:=hv2_6 rfl
 obtain⟨t9,k9,ey⟩:=n9.sl
 subst ey
 have hqp0:=Nat.ne_of_lt (Nat.lt_of_lt_of_le cp0 lb9)
 have hqn7:=Nat.ne_of_lt (Nat.lt_of_lt_of_le l7 lb9)
 have Cp0:=(K2.cv 0)
 have cp0:=(K2.lt 0)
 have Cn7:=(K2.cv 1)
 have cn7:=(K2.lt 1)
 have hy1:=hy1.up HB2
 have hy2:=hy2.up HB2
 have n7:=n7.up HB2
 have hT9:=Z7 hT7 HB2
 obtain⟨we,rfl⟩:=Zr u2
 clear hv2_2 hv2_3 hv2_4 hv2_6
 have HBo9:Bw we we:=Below.refl _ _
 have ht17:(l.take 17).take 17=l.take 17:=by rw[List.take_take];rfl
 have hDs:Hid (∀u,Bw we u->Calls Tryz.prog 5 #[.slice a2 (l.take 17).length c2] u fun e u'=> ∃v,e= .returned v/\SLz (l.take 17) u' v/\Bw u u'):=fun u hB=>by
  have h:=shares12 (l.take 17) _ u (hy2.up hB)
  rw[ht17] at h
  exact h
 have hT1:Hid (∀u x,Bw we u->SLz (l.take 17) u x->CC 8 #[GX p q g h,x] u (.tuple #[SX m s t,iI f])):=fun u x hB hx=>hH.out u x (Z7 hT9 hB) hx
 have hT2:Hid (∀u,Bw we u->CC 9 #[GX p q g h,.slice a2 (l.take 17).length c2] u (.tuple #[SX m s t,iI f])):=fun u hB=>hHr.out u _ (Z7 hT9 hB) (hy2.up hB)
 have hSm:Hid (∀u,Bw we u->CC 10 #[DX D (.slice t7 cs.length k7),DX D (.slice t9 cs.length k9)] u (.bool true)):=fun u hB=>same12 D cs _ _ u (fun u h1 h2=>hN.out u _ _ h1 h2) (n7.up hB) (n9.up hB)
 have K2_3:Bk we.heap.size we [(false,w.heap.size,GE p q g h),(false,b7,DE D (.slice t7 cs.length k7)),(false,b9,DE D (.slice t9 cs.length k9))]:=⟨.c cp0 Cp0<| .c cn7 Cn7<| .c l9 K9<|trivial,by simp<;>omega⟩
 go_upto_region 5 with fail
 refine Re K2_3 HBo9 [] [(7,11,L0h,some (8,SE m s t))] [(0,37,_),(1,38,_),(3,40,_),(4,36,_),(5,41,_),(6,42,_),(9,12,_)] [(8,7)] [] [⟨2,39,some 3,SLz (l.take 17)⟩] [] (Oc10 (g_ld 0 Tryz.underlying26 Z4) g_mv (g_cE 0 (SLz (l.take 17)) ent_SW2 (fun u hB hs=>hDs.out u hB)) (g_cWg 0 (SLz (l.take 17)) (fun y=>[GX p q g h,y]) ent_E3 (fun u y bZ hy=>hT1.out u y bZ hy)) g_mv g_ex g_ex (g_al 0 Xy) (g_sn 0 Zb) g_as) fun u3 b3_7 v3_2 hv3_2 HB3 _ K3=>?_
 simp only[sQ] at K3⊢
 go_upto_region 6 with fail
 refine Rp K3 HB3 [] [(6,13,L0h,some (7,SE m s t))] (cG 0 44 [_,_,_] [(3,43,_),(4,47,_),(5,48,_),(8,14,_)]) [(7,6)] [] [] (Oc9 (g_ld 0 Tryz.underlying26 Z4) g_mv (g_cb ent_SW4 hT2.out) g_mv g_ex g_ex (g_al 0 Xy) (g_sn 0 Zb) g_as) fun u4 b4_6 HB4 _ K4=>?_
 simp only[sQ] at K4⊢
 go_upto_region 7 with fail
 refine Rn K4 HB4 (cG 0 49 [_,_,_,_,_,_,_,_,_,_,_,_,_,_,_,_,_,_,_] []) (Od8 (g_ld 1 Tryz.underlying33 Z8) (g_ld 2 Tryz.underlying33 Z8) (g_cb ent_SW7 hSm.out) (g_un Xe) g_mv g_mv g_mv (g_bn (fun uZ=>Y7 _ _ _ e e false uZ (by simp)))<|Od8 g_pk g_mv (g_ld 3 Tryz.underlying39 Zb) (g_ld 4 Tryz.underlying39 Zb) (g_bn (neSh _ _ im it)) g_pk g_mv g_mv<|Oc3 g_mv (g_bn (fun uZ=>Y7 _ _ _ f f false uZ (by simp))) g_pk) fun u5 HB5 _ K5=>?_
 simp only[sQ] at K5⊢
 cases h0:(((cutD ds).length:Int)==0)
 case true=>
  go_upto_region 9 with fail
  refine Rn K5 HB5 (cG 0 68 [_,_,_] []) (Oc3 g_mv (g_ln Tryz.underlying27) (g_bn (fun uZ=>Ue _ _ _ ((cutD ds).length:Int) 0 true uZ h0))) fun u6 HB6 sz6 K6=>?_
  simp only[sQ] at K6⊢
  go_upto_region 10 with fail
  refine Rn K6 HB6 [(0,71,_),(1,6,_)] (Oc2 (g_cb ent_SW8 (fun uZ bZ=>works12 uZ (hG.out.below (Z7 hT9 bZ)))) g_as) fun u7 HB7 sz7 K7=>?_
  simp only[sQ] at K7⊢
  go_wp2
  refine bodyPost_ret (v:= .bool true) (by simp[results,Tryz.results3,go_sem,]) rfl ⟨rfl,(Z7 hT9 HB7)⟩
 case false=>
  go_upto_region 9 with fail
  refine Rn K5 HB5 (cG 0 68 [_,_,_] []) (Oc3 g_mv (g_ln Tryz.underlying27) (g_bn (fun uZ=>Ue _ _ _ ((cutD ds).length:Int) 0 false uZ h0))) fun u6 HB6 sz6 K6=>?_
  simp only[sQ] at K6⊢
  obtain⟨dd,xs,hes⟩: ∃dd xs,cutD ds=dd::xs:=by
   cases h:cutD ds with
   | nil=>rw[h] at h0;simp at h0
   | cons a b=>exact⟨a,b,rfl⟩
  obtain⟨yv,hsl,hyt⟩:=DL.tail (by have h:=hy1;rw[hes] at h;exact h)
  rw[<-hes] at hsl
  have hct:=cutD_tail dd ds xs hes
  have hnn:0<(cutD ds).length:=by rw[hes];simp
  have hy1c:=hy1
  obtain⟨sl,gb,go,cap,sy,cy,gy,oy,e5,_,_,_,hDM⟩:=hy1c
  cases e5
  have hX:Hid (∀W,(Instr.indexAt 27 (.slice a1 (cutD ds).length c1) (iI 0)).run Tryz.prog W= .ok (.pointer (some ⟨gb,go,none⟩)) W):=hDM.ix 0 hnn
  have hg0:=hDM.lt.resolve_left Z1
  have hR0:we.rangeAt gb go (DE ((cutD ds).getD 0 (0,[])).1 (.slice (sy 0) ((cutD ds).getD 0 (0,[])).2.length (cy 0))):=hDM.at_ 0 hnn
  have hN0:NL we (.slice (sy 0) ((cutD ds).getD 0 (0,[])).2.length (cy 0)) ((cutD ds).getD 0 (0,[])).2:=hDM.nl 0 hnn
  rw[show (cutD ds).getD 0 (0,[])=dd by rw[hes];rfl] at hR0 hN0
  obtain⟨sd,esd⟩:=Z3 (sy 0)
  obtain⟨cd,ecd⟩:=Z3 (cy 0)
  rw[esd,ecd] at hR0 hN0
  clear hDM esd ecd
  have hR0:=Hid.on hR0
  have hRfH:=hRf dd xs hes
  have hRrH:=hRr dd xs hes
  obtain⟨d1,ns⟩:=dd
  have hDt:Hid (∀u,Bw we u->Calls Tryz.prog 4 #[yv,iI 6] u fun e u'=> ∃v,e= .returned v/\DLp xs u' v/\Bw u u'):=fun u hB=>by
   have h:=deals12 xs yv u (hyt.up hB)
   rw[hct] at h
   exact h
  have hF1:Hid (∀u x,Bw we u->DL u x xs->Calls Tryz.prog 12 #[GX p q g h,DX d1 (.slice sd ns.length cd),x] u fun r u'=> ∃y,r= .returned (.tuple #[DX D2 y,iI e2])/\NL u' y cs2/\Bw u u'):=fun u x hB hx=>hRfH u _ x (Z7 hT9 hB) (hN0.up hB) hx
  clear hRfH
  have c0k:w.heap.size<u6.heap.size:=(K6.lt 0)
  go_upto_region 11 with fail
  refine rgY1 12 4 (PDz u6.heap.size D2 cs2) K6 HB6 HB6.size [] [] [(0,73,GX p q g h),(1,74,.slice a1 (cutD ds).length c1),(2,75,.pointer (some ⟨gb,go,none⟩)),(3,76,DX d1 (.slice sd ns.length cd)),(4,77,.slice a1 (cutD ds).length c1),(5,78,yv),(10,82,iI e2),(13,16,iI e2)] [] [] [⟨6,79,some 7,DLp xs⟩,⟨7,80,some 8,PTz D2 e2 cs2⟩,⟨8,72,none,PTz D2 e2 cs2⟩,⟨9,81,some 12,PVz D2 cs2⟩,⟨11,15,some 12,PBz u6.heap.size⟩] [⟨6,79,some 7,DLp xs⟩,⟨7,80,some 8,PTz D2 e2 cs2⟩,⟨8,72,none,PTz D2 e2 cs2⟩,⟨9,81,some 12,PVz D2 cs2⟩,⟨11,15,none,PDz u6.heap.size D2 cs2⟩] [] (.cons (fun _ _ _ h1 h2=>h2.stab h1)<| .cons (fun _ _ _ h1 h2=>h2.stab h1)<| .cons (fun _ _ _ h1 h2=>h2.stab h1)<| .cons (fun _ _ _ h1 h2=>h2.stab h1)<| .cons (fun _ _ _ h1 h2=>h2.stab h1)<|Stab.nil) rfl rfl rfl ?_ ?_
  ·refine yc (g_ld 0 Tryz.underlying26 Z4) ?_
   refine yc g_mv ?_
   refine yc (g_ix hX.out) ?_
   refine yc (g_lf hR0.out hg0 Tryz.underlying33 Z8) ?_
   refine yc g_mv ?_
   refine yc (g_sl hsl) ?_
   refine yc (g_cE 0 (DLp xs) ent_SW1 (fun u hB hs=>hDt.out u hB)) ?_
   refine yc (g_cX2 0 1 (DLp xs) (PTz D2 e2 cs2) ent_SW5 (fun u y bZ hs hy=>(hF1.out u y bZ hy).mono (by rintro r u' ⟨y,rfl,h1,h2⟩;exact⟨_,rfl,⟨y,rfl,h1⟩,h2⟩))) ?_
   refine yc (g_mE 1 2 (PTz D2 e2 cs2)) ?_
   refine yc (g_xE (k:=0) 2 3 (PTz D2 e2 cs2) (PVz D2 cs2) (fun u vs h=>by obtain⟨y,rfl,hy⟩:=h;exact⟨_,_,rfl,rfl,y,rfl,hy⟩)) ?_
   refine yt (t_xV (k:=1) (v:=iI e2) 15 (PDz u6.heap.size D2 cs2) 2 (PTz D2 e2 cs2) (fun u vs h=>by obtain⟨y,rfl,hy⟩:=h;exact⟨_,rfl,rfl⟩)) ?_
   refine yc (g_aP 4 (PBz u6.heap.size) Yd (fun u hu=>PBz.new u hu)) ?_
   refine yz (st_bx 4 3 (PBz u6.heap.size) (PVz D2 cs2) (PDz u6.heap.size D2 cs2) (fun u vb v h0 hv=>by obtain⟨u2,r,h1,h2,h3,h4⟩:=st_dl u vb v h0 hv;exact⟨u2,r,h1,h2,h3,⟨.inl rfl,.inl rfl,.inr ⟨by simp,EKj h4⟩,.inl rfl,.inl rfl,trivial⟩⟩)) ?_
   exact yt (t_as 15 (PDz u6.heap.size D2 cs2)) yn
  intro u7 v7_6 hv7_6 v7_7 hv7_7 v7_8 hv7_8 v7_9 hv7_9 v7_11 hv7_11 HB7 sz7 K7
  simp only[sQ] at K7⊢
  have hBk:=HB7
  obtain⟨b15,y15,rfl,lb15,l15,K15,n15⟩:=hv7_11 rfl
  obtain⟨t15,k15,ey⟩:=n15.sl
  subst ey
  have hqp0:=Nat.ne_of_lt (Nat.lt_of_lt_of_le c0k lb15)
  have Cp0:=(K7.cv 0)
  have cp0:=(K7.lt 0)
  have hyt:=hyt.up HB7
  have hN0:=hN0.up HB7
  have hT15:=Z7 hT9 HB7
  obtain⟨wf,rfl⟩:=Zr u7
  clear hv7_6 hv7_7 hv7_8 hv7_9 hv7_11
  have HBo15:Bw wf wf:=Below.refl _ _
  have hR1:=Hid.on (Tj hBk hg0 hR0.out)
  have hg1:=Nat.lt_of_lt_of_le hg0 hBk.size
  have hF2:Hid (∀u,Bw wf u->Calls Tryz.prog 13 #[GX p q g h,DX d1 (.slice sd ns.length cd),yv] u fun r u'=> ∃v,r= .returned v/\PTz D2 e2 cs2 u' v/\Bw u u'):=fun u hB=>(hRrH u _ yv (Z7 hT15 hB) (hN0.up hB) (hyt.up hB)).mono (by rintro r u' ⟨y,rfl,h1,h2⟩;exact⟨_,rfl,⟨y,rfl,h1⟩,h2⟩)
  have K7_4:Bk wf.heap.size wf [(false,w.heap.size,GE p q g h),(false,b15,DE D2 (.slice t15 cs2.length k15))]:=⟨.c cp0 Cp0<| .c l15 K15<|trivial,by simp<;>omega⟩
  go_upto_region 12 with fail
  refine rgY1 11 3 (PDz wf.heap.size D2 cs2) K7_4 HBo15 HBo15.size [] [] [(0,84,GX p q g h),(1,85,.slice a1 (cutD ds).length c1),(2,86,.pointer (some ⟨gb,go,none⟩)),(3,87,DX d1 (.slice sd ns.length cd)),(4,88,.slice a1 (cutD ds).length c1),(5,89,yv),(9,92,iI e2),(12,18,iI e2)] [] [] [⟨6,90,some 7,PTz D2 e2 cs2⟩,⟨7,83,none,PTz D2 e2 cs2⟩,⟨8,91,some 11,PVz D2 cs2⟩,⟨10,17,some 11,PBz wf.heap.size⟩] [⟨6,90,some 7,PTz D2 e2 cs2⟩,⟨7,83,none,PTz D2 e2 cs2⟩,⟨8,91,some 11,PVz D2 cs2⟩,⟨10,17,none,PDz wf.heap.size D2 cs2⟩] [] (.cons (fun _ _ _ h1 h2=>h2.stab h1)<| .cons (fun _ _ _ h1 h2=>h2.stab h1)<| .cons (fun _ _ _ h1 h2=>h2.stab h1)<| .cons (fun _ _ _ h1 h2=>h2.stab h1)<|Stab.nil) rfl rfl rfl ?_ ?_
  ·refine yc (g_ld 0 Tryz.underlying26 Z4) ?_
   refine yc g_mv ?_
   refine yc (g_ix hX.out) ?_
   refine yc (g_lf hR1.out hg1 Tryz.underlying33 Z8) ?_
   refine yc g_mv ?_
   refine yc (g_sl hsl) ?_
   refine yc (g_cE 0 (PTz D2 e2 cs2) ent_SW6 (fun u hB hs=>hF2.out u hB)) ?_
   refine yc (g_mE 0 1 (PTz D2 e2 cs2)) ?_
   refine yc (g_xE (k:=0) 1 2 (PTz D2 e2 cs2) (PVz D2 cs2) (fun u vs h=>by obtain⟨y,rfl,hy⟩:=h;exact⟨_,_,rfl,rfl,y,rfl,hy⟩)) ?_
   refine yt (t_xV (k:=1) (v:=iI e2) 17 (PDz wf.heap.size D2 cs2) 1 (PTz D2 e2 cs2) (fun u vs h=>by obtain⟨y,rfl,hy⟩:=h;exact⟨_,rfl,rfl⟩)) ?_
   refine yc (g_aP 3 (PBz wf.heap.size) Yd (fun u hu=>PBz.new u hu)) ?_
   refine yz (st_bx 3 2 (PBz wf.heap.size) (PVz D2 cs2) (PDz wf.heap.size D2 cs2) (fun u vb v h0 hv=>by obtain⟨u2,r,h1,h2,h3,h4⟩:=st_dl u vb v h0 hv;exact⟨u2,r,h1,h2,h3,⟨.inl rfl,.inr ⟨by simp,EKj h4⟩,.inl rfl,.inl rfl,trivial⟩⟩)) ?_
   exact yt (t_as 17 (PDz wf.heap.size D2 cs2)) yn
  intro u8 v8_6 hv8_6 v8_7 hv8_7 v8_8 hv8_8 v8_10 hv8_10 HB8 _ K8
  simp only[sQ] at K8⊢
  obtain⟨b17,y17,rfl,lb17,l17,K17,n17⟩:=hv8_10 rfl
  obtain⟨t17,k17,ey⟩:=n17.sl
  subst ey
  have hqp0:=Nat.ne_of_lt (Nat.lt_of_lt_of_le cp0 lb17)
  have hqn15:=Nat.ne_of_lt (Nat.lt_of_lt_of_le l15 lb17)
  have Cp0:=(K8.cv 0)
  have cp0:=(K8.lt 0)
  have Cn15:=(K8.cv 1)
  have cn15:=(K8.lt 1)
  have n15:=n15.up HB8
  have hT17:=Z7 hT15 HB8
  obtain⟨wh,rfl⟩:=Zr u8
  clear hv8_6 hv8_7 hv8_8 hv8_10
  have HBo17:Bw wh wh:=Below.refl _ _
  have hSm2:Hid (∀u,Bw wh u->CC 10 #[DX D2 (.slice t15 cs2.length k15),DX D2 (.slice t17 cs2.length k17)] u (.bool true)):=fun u hB=>same12 D2 cs2 _ _ u (fun u h1 h2=>hN2.out u _ _ h1 h2) (n15.up hB) (n17.up hB)
  have K8_5:Bk wh.heap.size wh [(false,w.heap.size,GE p q g h),(false,b15,DE D2 (.slice t15 cs2.length k15)),(false,b17,DE D2 (.slice t17 cs2.length k17))]:=⟨.c cp0 Cp0<| .c cn15 Cn15<| .c l17 K17<|trivial,by simp<;>omega⟩
  go_upto_region 13 with fail
  refine Rn K8_5 HBo17 (cG 0 93 [_,_,_,_,_,_,_,_,_,_,_] [(11,6,_)]) (Od8 (g_ld 1 Tryz.underlying33 Z8) (g_ld 2 Tryz.underlying33 Z8) (g_cb ent_SW7 hSm2.out) g_mv g_mv g_mv (g_bn (fun uZ=>Ue _ _ _ e2 e2 true uZ (by simp))) g_pk<|Oc4 g_mv (g_cb ent_SW8 (fun uZ bZ=>works12 uZ (hG.out.below (Z7 hT17 bZ)))) g_pk g_as) fun u9 HB9 _ K9=>?_
  simp only[sQ] at K9⊢
  go_wp2
  refine bodyPost_ret (v:= .bool true) (by simp[results,Tryz.results3,go_sem,]) rfl ⟨rfl,(Z7 hT17 HB9)⟩
end
theorem sameN_core(sa sb:Option Addr)(ga oa ca gb ob cb:Nat)(ns:List Int)(w:World)(hns:ns.length<=1000)(hixa:Hid (∀j,j<ns.length-> ∀W,(Instr.indexAt 31 (.slice sa ns.length ca) (iI j)).run Tryz.prog W= .ok (.pointer (some ⟨ga,oa+4*j,none⟩)) W))(hga:ns.length=0\/ga<w.heap.size)(hSa:Hid (SN w ga oa ns))(hixb:Hid (∀j,j<ns.length-> ∀W,(Instr.indexAt 31 (.slice sb ns.length cb) (iI j)).run Tryz.prog W= .ok (.pointer (some ⟨gb,ob+4*j,none⟩)) W))(hgb:ns.length=0\/gb<w.heap.size)(hSb:Hid (SN w gb ob ns))(hn:Hid (∀k,k<ns.length->In (ns.getD k 0))):
 CC 28 #[.slice sa ns.length ca,.slice sb ns.length cb] w (.bool true):=by
 have hne:(((ns.length:Nat):Int) !=((ns.length:Nat):Int))=false:=by simp
 go_enter Tryz.func28,Tryz.ntmps28
 have HB0:Bw w w:=Below.refl _ _
 have K0_1:=Bk.nil (w.heap.size) w
 go_upto_region 1 with fail
 refine Rn K0_1 HB0 (cG 0 6 [_,_,_,_,_] []) (Oc5 g_mv (g_ln Tryz.underlying31) g_mv (g_ln Tryz.underlying31) (g_bn (fun uZ=>Y7 _ _ _ (ns.length:Int) (ns.length:Int) _ uZ hne))) fun u1 HB1 _ K1=>?_
 simp only[sQ] at K1⊢
 go_upto_region 3 with fail
 refine Rn K1 HB1 [(0,5,_)] (Oc1 g_as) fun u2 HB2 _ K2=>?_
 simp only[sQ] at K2⊢
 go_wp2_with fail
 go_loopw [5] (fun s5 wr=> ∃(k:Nat),k<=ns.length/\s5=iI (k:Int)/\Bw w wr) (fun s5 _=>ns.length -(intOf s5).toNat)
 case atStart=>exact⟨0,Z1,rfl,HB2⟩
 case round=>
  obtain⟨k,hk,rfl,HBr⟩:=hrel
  by_cases hj:k<ns.length
  ·have hl:decide ((k:Int)<(ns.length:Int))=true:=by simp;omega
   have hXa:=hixa.out _ hj
   have hXb:=hixb.out _ hj
   have hXa:Hid _:=hXa
   have hXb:Hid _:=hXb
   have hga':=hga.resolve_left Z1
   have hgb':=hgb.resolve_left Z1
   have hRa:=hSa.out.at _ hj
   have hRb:=hSb.out.at _ hj
   have ix:=hn.out _ hj
   obtain⟨x,ex⟩:=Z3 (ns.getD k 0)
   rw[ex] at hRa hRb ix
   clear ex
   have hRa:Hid _:=hRa
   have hRb:Hid _:=hRb
   have K2_2:=Bk.nil (w.heap.size) wr
   go_upto_region 4 with fail
   refine Rn K2_2 HBr (cG 0 11 [_,_,_,_] []) (Oc4 g_mv g_mv (g_ln Tryz.underlying31) (g_bn (fun uZ=>Za _ _ (k:Int) (ns.length:Int) _ uZ hl))) fun u3 HB3 sz3 K3=>?_
   simp only[sQ] at K3⊢
   go_upto_region 6 with fail
   refine Rm K3 HB3 (cG 0 17 [_,_,_,_,_,_,_,_,_] []) (Oc9 g_mv g_mv (g_ix hXa.out) (g_lf hRa.out hga' uN iN) g_mv g_mv (g_ix hXb.out) (g_lf hRb.out hgb' uN iN) (g_bn (fun uZ=>Up _ _ ix ix false (by simp) uZ))) fun u4 HB4 sz4 K4=>?_
   simp only[sQ] at K4⊢
   go_upto_region 5 with fail
   refine Rp K4 HB4 [] [] [(0,15,_),(1,16,_),(2,5,_)] [(2,0)] [(2,5)] [] (Oc3 g_mv (g_bn (fun uZ=>Zu _ _ (k:Int) 1 ((k+1:Nat):Int) uZ Z1 Z1 Z1)) g_as) fun u5 HB5 _ K5=>?_
   simp only[sQ] at K5⊢
   go_wp2
   refine⟨⟨k+1,Z1,rfl,HB5⟩,?_⟩
   simp[intOf]<;>omega
  ·have hl:decide ((k:Int)<(ns.length:Int))=false:=by simp;omega
   have K2_2:=Bk.nil (w.heap.size) wr
   go_upto_region 4 with fail
   refine Rn K2_2 HBr (cG 0 11 [_,_,_,_] []) (Oc4 g_mv g_mv (g_ln Tryz.underlying31) (g_bn (fun uZ=>Za _ _ (k:Int) (ns.length:Int) _ uZ hl))) fun u3 HB3 sz3 K3=>?_
   simp only[sQ] at K3⊢
   go_upto_region 8 with fail
   refine Rn K3 HB3 [(0,4,_)] (Oc1 g_as) fun u4 HB4 sz4 K4=>?_
   simp only[sQ] at K4⊢
   go_wp2
   refine bodyPost_ret (v:= .bool true) (by simp[results,Tryz.results28,go_sem,]) rfl ⟨rfl,HB4⟩
theorem cSameN(ns:List Int)(va vb:Value)(w:World)(ha:NL w va ns)(hb:NL w vb ns)(hns: ∀z∈ns,In z)(hl:ns.length<=1000):CC 28 #[va,vb] w (.bool true):=by
 obtain⟨sa,ga,oa,ca,rfl,a2,a3,a4,a5,a6⟩:=ha
 obtain⟨sb,gb,ob,cb,rfl,b2,b3,b4,b5,b6⟩:=hb
 exact sameN_core sa sb ga oa ca gb ob cb ns w hl (NL.ix (u:=w) a4) a5 a6 (NL.ix (u:=w) b4) b5 b6 (Yb hns)
theorem cutD_In{ds:List (Int×List Int)}(h: ∀d∈ds,∀z∈d.2,In z): ∀d∈cutD ds,d.2.length<=50/\ ∀z∈d.2,In z:=fun d hd=>by
 obtain⟨e,he,rfl⟩:=List.mem_map.1 hd
 exact⟨by show (e.2.take 7).length<=50;rw[List.length_take];omega,fun z hz=>h e (List.mem_of_mem_take he) z (List.mem_of_mem_take hz)⟩
theorem mxC_all{es:List (Int×List Int)}{m:Nat}(h: ∀d∈es,d.2.length<=m): ∀i,mxC es i<=m
 | 0=>Nat.zero_le _
 | i+1=>by
  have h1:=mxC_all h i
  have h2:(dN es i).length<=m:=by
   show (es.getD i (0,[])).2.length<=m
   by_cases hi:i<es.length
   ·rw[List.getD_eq_getElem?_getD,List.getElem?_eq_getElem hi]
    exact h _ (List.getElem_mem hi)
   ·rw[List.getD_eq_getElem?_getD,List.getElem?_eq_none Z1]
    exact Nat.zero_le _
  rw[mxC];omega
theorem csC_short{p:Int}{es:List (Int×List Int)}(hp:In p)(hp0:p≠0)(h: ∀d∈es,d.2.length<=50)(i:Nat):(∀z∈csC p es i,In z)/\(csC p es i).length<=1000:=by
 refine⟨fun z hz=>?_,by rw[Uw];have:=mxC_all h i;omega⟩
 obtain⟨j,hj,rfl⟩:=List.getElem_of_mem hz
 have:=csC_In hp hp0 es j i
 rwa [List.getD_eq_getElem?_getD,List.getElem?_eq_getElem hj] at this
theorem smC_short{p q:Int}{es:List (Int×List Int)}(hp:In p)(h: ∀d∈es,d.2.length<=50):(∀z∈smC p q es,In z)/\(smC p q es).length<=1000:=by
 unfold smC
 split
 ·rename_i h0
  have hg:gOk p q:=by
   unfold smE at h0
   split at h0
   ·assumption
   ·cases h0
  exact csC_short hp (by have:=hg.2;omega) h _
 ·exact⟨fun z hz=>by simp at hz,Nat.zero_le _⟩
theorem rfC_short{p q:Int}{d:Int×List Int}{es:List (Int×List Int)}(hp:In p)(h: ∀e∈d::es,e.2.length<=50):(∀z∈rfC p q d es,In z)/\(rfC p q d es).length<=1000:=by
 unfold rfC
 split
 ·rename_i h0
  have hg:gOk p q:=by
   unfold rfE at h0
   split at h0
   ·rename_i h1
    unfold smE at h1
    split at h1
    ·assumption
    ·cases h1
   ·contradiction
  exact csC_short hp (by have:=hg.2;omega) h _
 ·exact⟨fun z hz=>by simp at hz,Nat.zero_le _⟩
theorem se_In{p q:Int}{l:List (Int×Int×Int)}(hq:In q):In (seS p q l)/\In (seT p q l):=by
 have h0:In 0:=In_0
 unfold seS seT
 split
 ·rename_i h1
  have hg:gOk p q:=by
   unfold seE at h1
   split at h1
   ·assumption
   ·cases h1
  have:=hg.q3
  exact⟨sm1_In hq Z1 _,sm1_In hq Z1 _⟩
 ·exact⟨h0,h0⟩
theorem jointSums(p q g h:Int)(ds:List (Int×List Int))(l:List (Int×Int×Int))(v1 v2:Value)(w:World)(hG:GP w)(hp:In p)(hq:In q)(hv1:DL w v1 ds)(hv2:ShL w v2 l)(hIn: ∀d∈ds,∀z∈d.2,In z)(hIl: ∀x∈l,R64 x.1/\In x.2.1/\In x.2.2):
 CC 3 #[GX p q g h,v1,v2] w (.bool true):=by
 have hc:=cutD_In hIn
 have hc50: ∀d∈cutD ds,d.2.length<=50:=fun d hd=>(hc d hd).1
 have hlc:(cutD ds).length<=6:=by rw[cutD_len];omega
 have hl17:(l.take 17).length<=17:=by rw[List.length_take];omega
 have hI17: ∀x∈l.take 17,R64 x.1/\In x.2.1/\In x.2.2:=fun x hx=>hIl x (List.mem_of_mem_take hx)
 have hs:=smC_short (q:=q) hp hc50
 have hsI:=se_In (p:=p) (l:=l.take 17) hq
 have key: ∀(D2 e2:Int) (cs2:List Int),(∀z∈cs2,In z)->cs2.length<=1000->(∀d0 xs,cutD ds=d0::xs->D2=rfD p q d0 xs/\e2=rfE p q d0 xs/\cs2=rfC p q d0 xs)->CC 3 #[GX p q g h,v1,v2] w (.bool true):=fun D2 e2 cs2 k1 k2 k3=>
  jsums_core p q g h (smD p q (cutD ds)) (smE p q (cutD ds)) (seM p q (l.take 17)) (seS p q (l.take 17)) (seT p q (l.take 17)) (seE p q (l.take 17)) D2 e2 (smC p q (cutD ds)) cs2 ds l v1 v2 w (fun u y z hy hz=>cSameN cs2 y z u hy hz k1 k2) (fun d0 xs e u y x hB hy hx=>by
   obtain⟨rfl,rfl,rfl⟩:=k3 d0 xs e
   have hm: ∀d∈d0::xs,d.2.length<=50/\ ∀z∈d.2,In z:=e▸hc
   exact jRefresh p q g h d0 xs y x u (hG.below hB) hp hq hy hx (by rw[e,List.length_cons] at hlc;omega) (hm d0 (by simp)) (fun d hd=>hm d (by simp[hd]))) (fun d0 xs e u y x hB hy hx=>by
   obtain⟨rfl,rfl,rfl⟩:=k3 d0 xs e
   have hm: ∀d∈d0::xs,d.2.length<=50/\ ∀z∈d.2,In z:=e▸hc
   exact yRefresh p q g h d0 xs y x u hp hq hy hx (by rw[e,List.length_cons] at hlc;omega) (hm d0 (by simp)) (fun d hd=>hm d (by simp[hd]))) hG hsI.1 hsI.2 (fun u y z hy hz=>cSameN _ y z u hy hz hs.1 hs.2)
   (fun u x hB hx=>jShares p q g h (l.take 17) x u (hG.below hB) hp hq hx Z1 (fun y hy=>(hI17 y hy).1) (fun y hy=>(hI17 y hy).2))
   (fun u x hB hx=>yShares p q g h (l.take 17) x u hp hq hx Z1 (fun y hy=>(hI17 y hy).2))
   (fun u x hB hx=>ySum p q g h (cutD ds) x u hp hq hx Z1 hc)
   (fun u x hB hx=>jSum p q g h (cutD ds) x u (hG.below hB) hp hq hx Z1 hc) hv1 hv2
 cases hes:cutD ds with
 | nil=>exact key 0 0 [] (fun z hz=>by simp at hz) (by simp) (fun d0 xs e=>by rw[hes] at e;cases e)
 | cons d0 xs=>
  have hr:=rfC_short (q:=q) (d:=d0) (es:=xs) hp (fun e he=>hc50 e (by rw[hes];exact he))
  exact key _ _ _ hr.1 hr.2 (fun d1 ys e=>by rw[hes] at e;cases e;exact⟨rfl,rfl,rfl⟩)
end
section
open Go.ChangeShapes Go.WideShapes Go.ChangeAt Go.RowKit
theorem jointSums_lifted(os:Go.Os)(started:os.Started)(H:Type)(enc:TypeId×Value->H):
 ReturnsInHanded {} Tryz.checked os 3 .any (fun w args=>(Rows.jointSumsSpec.pre enc Tryz.prog Tryz.f3 [] false w args/\laidMetH Tryz.prog lstP w)/\sizedMet enc Tryz.prog Tryz.f3 (OpenSpec.ofChange Rows.jointSumsSpec) false w args)
  (Rows.jointSumsSpec.post enc Tryz.prog Tryz.f3 false true false false):=by
 refine returnsInHanded_of_change_and (C:=Tryz.checked) (X:=fun w _=>laidMetH Tryz.prog lstP w) (fun _ _ _ hh h=>h.of_heap hh) own4 started (by kernel_rfl) Tryz.func3
  (ChangeSpec.witness_shaped (enc:=enc) (C:=Tryz.checked) (os:=os) (X:=fun w _=>laidMetH Tryz.prog lstP w) false (World.doorLaid Tryz.prog 400 os) #[.agg #[iU 0,iU 0,iU 0,iU 0,iU 0,iU 0,iU 0,iU 0,iU 0,iU 0,iU 0,iU 0,iU 0,iU 0,iU 0,iU 0],.slice none 0 0,.slice none 0 0] 8 rfl (World.shaped_of_RefB (by kernel_rfl) (by kernel_rfl)) (by kernel_rfl) (by kernel_rfl) (by kernel_rfl) (doorP os _)) ?_
 intro W base args ds gs before hval0 hW _ _ hL _
 have hval: ∀(j:Nat) t v,Tryz.f3.params[j]?=some t->args[j]?=some v->Value.okWide Tryz.prog W .any base t v:=hval0
 have hW':=hW
 obtain⟨p,q,hA0,hV,rfl,hfz,hnd⟩:=hW
 have hA:DataW.TrodAll enc Tryz.prog W 0 (fun _=>true) true Tryz.f3.params.toList args.toList ds p:=hA0
 rw[Tryz.params3] at hA hval
 obtain⟨v0,v1,v2,d0,d1,d2,q0,q1,q2,rfl,rfl,rfl,h0,h1,h2⟩:=trodAll_three hA
 obtain⟨rfl,rfl⟩:=trodVars_none hV
 simp only[List.append_nil] at hW'
 have hGV:=of_laidP hL
 have hlt: ∀x∈q0++q1++q2,x.block<W.heap.size:=fun x hx=>by simpa using hW'.lt x (by simpa using hx)
 have hargs: ∀(W':World),Bw W W'->DataW.Trod enc Tryz.prog W' 0 (fun b=>decide (b<W.heap.size)) true 26 v0 d0 q0/\DataW.Trod enc Tryz.prog W' 0 (fun b=>decide (b<W.heap.size)) true 27 v1 d1 q1/\DataW.Trod enc Tryz.prog W' 0 (fun b=>decide (b<W.heap.size)) true 28 v2 d2 q2:=
  fun W' hn=>⟨Below.trod laid4 (by kernel_rfl) (of_decide_eq_true (by kernel_rfl)) h0 hn (fun x hx=>hlt x (by simp[hx])),Below.trod laid4 (by kernel_rfl) (of_decide_eq_true (by kernel_rfl)) h1 hn (fun x hx=>hlt x (by simp[hx])),Below.trod laid4 (by kernel_rfl) (of_decide_eq_true (by kernel_rfl)) h2 hn (fun x hx=>hlt x (by simp[hx]))⟩
 have h0k:=h0
 have h1k:=h1
 have h2k:=h2
 obtain⟨gp,gq,gg,gh,rfl,ip,iq,ig,ih⟩:=open_group (hval 0 26 v0 rfl rfl) h0k
 obtain⟨ds,hds,ids⟩:=open_deals (hval 1 27 v1 rfl rfl) h1k
 obtain⟨l,hl,il⟩:=open_sharesF (hval 2 28 v2 rfl rfl) h2k
 clear hA0 hval0
 have hwalk:=(jointSums gp gq gg gh ds l v1 v2 W hGV ip iq hds hl ids il)
 refine hwalk.mono fun e W' ⟨he,bel⟩=>?_
 subst he
 exact⟨_,rfl,_,_,_,[],_,[],hW',trodAll_mk1 (shut_bool Tryz.underlying4 _),(by first | exact trodAll_mk3 (hargs _ bel).1 (hargs _ bel).2.1 (hargs _ bel).2.2 | (simp only[List.append_assoc];exact trodAll_mk3 (hargs _ bel).1 (hargs _ bel).2.1 (hargs _ bel).2.2)),rfl,bel.frame _,fun h=>by cases h⟩
theorem jointSums_holds:Rows.JointSumsSaid:=
 OpenClaim.holds_of_wide 3 Tryz.f3 rfl rfl rfl rfl rfl rfl rfl ⟨rfl,rfl,rfl,rfl,rfl⟩ rfl rfl rfl rfl rfl (by kernel_rfl) Tryz.func3 (by kernel_rfl)
  (of_decide_eq_true (by kernel_rfl)) (by unfold Func.isWrapper;first | (rw[if_pos (by decide+kernel)];kernel_rfl) | (rw[if_neg (by decide+kernel)];exact⟨rfl,rfl⟩))
  (fun os started H enc _=>jointSums_lifted os started H enc)
theorem jointSums_card:Rows.JointSumsCardSaid:=
 Claim7.holds_tied_plain_at .later [] [.data,.data,.data,.handle] true (true, "869f433bb4f3e0484027af3ab4334340d41e851f40a185f8e49ed7dd0ded1e7f") true
  jointSums_holds (fun _ h=>by cases h) (by kernel_rfl) (fun _ h=>by cases h) jointSums_row_tie rfl ⟨rfl,rfl⟩ (by kernel_rfl) rfl
  (fun f fn hf hfn=>by
   obtain rfl:f=3:=Option.some.inj ((show Tryz.prog.funcNamed "seneschal/seneschallaw12.JointSums" =some 3 by kernel_rfl).symm.trans hf)|>.symm
   obtain rfl:fn=Tryz.f3:=(Option.some.inj (Tryz.func3.symm.trans hfn)).symm
   exact⟨by kernel_rfl,fun j t ht=>by
    rw[Tryz.params3] at ht
    have hm:t∈[26,27,28]:=by simpa using Array.mem_of_getElem? ht
    have hall:([26,27,28].all fun u=>!Tryz.prog.wantsStandIn u)=true:=by kernel_rfl
    exact(show Tryz.prog.wantsStandIn t=false by simpa using List.all_eq_true.1 hall t hm)⟩)
  (by kernel_rfl)
#print axioms jointSums_card
end
end Go.Proofs.YtoffgfhilkpdpaaGreatDoor
