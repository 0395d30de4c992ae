import Derived.Test.YtbbohmgjphpfeaaGreatDoorLC5
namespace Go.Proofs.YtbbohmgjphpfeaaGreatDoor
set_option linter.unusedVariables false
set_option linter.unusedSimpArgs false
set_option maxRecDepth 100000
set_option maxHeartbeats 4000000
section
open Go.RowKit
theorem CV.grow{u u2:World}{r:Option Nat}{c:Nat}{l:List Value}(h:CV u c l)(hg:u.grownBy u2 r)(hc:c<u.heap.size)(hne:some c≠r):CV u2 c l:=fun j v hj=>by
 have e:=hg.block c hc hne
 rw[World.cell?_of_block (a:=⟨c,j,none⟩) e,World.frozen?_of_block (a:=⟨c,j,none⟩) e]
 exact h j v hj
def QP(lo m:Nat)(ps:List (Int×Int))(b:Nat)(u:World)(v:Value):Prop:=ps.length=m/\((m=0/\v= .slice none 0 0)\/(0<m/\lo<=b/\ ∃co zs,v= .slice (some ⟨b,0,none⟩) m co/\b<u.heap.size/\m<=co/\zs.length=8*(co -m)/\CV u b (flN (flt ps)++zs)))
theorem QP.stab{lo m b:Nat}{ps:List (Int×Int)}{u u2:World}{v:Value}(h:QP lo m ps b u v)(hB:Bw u u2):QP lo m ps b u2 v:=by
 obtain⟨h1,h3⟩:=h
 refine⟨h1,h3.imp id ?_⟩
 rintro⟨h0,h2,co,zs,e,g1,g2,g3,g4⟩
 exact⟨h0,h2,co,zs,e,Nat.lt_of_lt_of_le g1 hB.size,g2,g3,g4.below hB g1⟩
theorem QP.grow{lo m c:Nat}{r:Option Nat}{ps:List (Int×Int)}{u u2:World}{v:Value}(h:QP lo m ps c u v)(hg:u.grownBy u2 r)(hne:0<m->some c≠r):QP lo m ps c u2 v:=by
 obtain⟨h1,h3⟩:=h
 refine⟨h1,h3.imp id ?_⟩
 rintro⟨h0,h2,co,zs,e,g1,g2,g3,g4⟩
 exact⟨h0,h2,co,zs,e,Nat.lt_of_lt_of_le g1 hg.size,g2,g3,g4.grow hg g1 (hne h0)⟩
theorem QP.lt{lo m c:Nat}{ps:List (Int×Int)}{u:World}{v:Value}(h:QP lo m ps c u v)(h0:0<m):lo<=c/\c<u.heap.size:=by
 rcases h.2 with⟨h1,_⟩ | ⟨_,h2,_,_,_,h3,_⟩
 ·omega
 ·exact⟨h2,h3⟩
theorem QP.pl{lo m c:Nat}{ps:List (Int×Int)}{u:World}{v:Value}(h:QP lo m ps c u v):PtL u v ps:=by
 obtain⟨h1,h3⟩:=h
 rcases h3 with⟨h0,rfl⟩ | ⟨h0,h2,co,zs,rfl,g1,g2,g3,g4⟩
 ·obtain rfl:ps=[]:=List.eq_nil_of_length_eq_zero (by omega)
  exact⟨none,0,0,0,rfl,Nat.le_refl _,fun _=>rfl,.inl rfl,.inl rfl,SN.empty rfl⟩
 ·subst h1
  exact⟨_,c,0,co,rfl,g2,(by simp),.inr rfl,.inr g1,fun j v hj=>by
   rw[Nat.zero_add]
   exact(g4 j v (by rw[List.getElem?_append_left (List.getElem?_eq_some_iff.1 hj).1];exact hj)).1⟩
theorem bsK0(w:World):(Instr.buildSlice 27 0 #[]).run Tryz.prog w= .ok (.slice (some ⟨w.heap.size,0,none⟩) 0 0) (w.alloc (.cells #[] 24)):=by kernel_rfl
theorem app_k0{u:World}{lo b m c:Nat}{sl:Option Addr}{gb go:Nat}{ns:List Int}{ty:TypeId}(hlo:lo<=b)(hlu:lo<=u.heap.size)(hb:b<u.heap.size)(hc:CV u b [])(hm:ns.length=m)(hl:m<=100000)(hs:m=0\/sl=some ⟨gb,go,none⟩)(hS:SN u gb go ns):
 ∃v u',(Builtin.append_ #[27,27] ty #[.slice (some ⟨b,0,none⟩) 0 0,.slice sl m c]).run Tryz.prog u= .ok v u'/\Bw u u'/\(∃b2 c2,v= .slice (some ⟨b2,0,none⟩) m c2/\lo<=b2)/\NL u' v ns:=by
 obtain⟨ti,hti,htm⟩:=Option.map_eq_some_iff.1 infoNt
 simp only[Prod.mk.injEq] at htm
 obtain⟨hzv,hsz,hby⟩:=htm
 obtain⟨v',u',hr,hB,hg⟩:=run_appF (P:=Tryz.prog) u (ty:=ty) Tryz.underlying27 hti hzv (by rw[hsz];rfl) (lo:=lo) (n:=0) (m:=m) (xs:=[]) (news:=flN ns) (y:= .slice sl m c) hc hlo hlu hb (by rw[hsz];rfl) ⟨sl,c,rfl,hs.imp id fun e=>⟨_,e,SN.news hS⟩⟩ (by rw[hsz,flN_len];omega) (by rw[hby];omega) (by omega)
 rw[hsz,List.nil_append,Nat.zero_add] at hg
 obtain⟨b2,c2,zs,rfl,h1,h2,h3,h4,h5⟩:=hg
 refine⟨_,u',hr,hB,⟨b2,c2,rfl,h1⟩,⟨_,b2,0,c2,by rw[hm],by omega,(by simp),.inr rfl,.inr h2,fun j v hj=>?_⟩⟩
 rw[Nat.zero_add]
 exact(h5 j v (by rw[List.getElem?_append_left (List.getElem?_eq_some_iff.1 hj).1];exact hj)).1
theorem few11(sl:Option Addr)(len cap m:Nat)(gb go:Nat)(ns:List Int)(w:World)(hm:min ((len:Nat):Int) 7=((m:Nat):Int))(hml:Hid (ns.length=m))(hmn:m<=len)(hlc:len<=cap)(hsn:sl=none->cap=0)(hm12:m<=12)(hs:Hid (m=0\/sl=some ⟨gb,go,none⟩))(hg:Hid (m=0\/gb<w.heap.size))(hS:Hid (SN w gb go ns)):
 Calls Tryz.prog 9 #[.slice sl len cap] w fun e u=> ∃y,e= .returned y/\(NL u y ns/\ ∃b c,y= .slice (some ⟨b,0,none⟩) ns.length c/\w.heap.size<=b)/\Bw w u:=by
 have hbs:=bsK0
 have hsl:=slNt sl len cap m hmn hlc hsn
 obtain⟨v',u',r,hB,⟨b2,c2,rfl,hlo2⟩,hN⟩:=app_k0 (lo:=w.heap.size) (u:=w.alloc (.cells #[] 24)) (b:=w.heap.size) (m:=m) (c:=cap) (sl:=sl) (gb:=gb) (go:=go) (ns:=ns) (ty:=27) (Nat.le_refl _) (by simp) (by simp) (CV.new w [] 24) hml.out (by omega) hs.out (SN.below2 (m:=w.heap.size) hS.out (Z1 (Zv w) _) (hg.out.imp (fun e=>hml.out.trans e) id))
 have hB2:Bw w u':=Zd (Z1 (Zv w) (.cells #[] 24)) hB
 have hN:Hid (NL u' (.slice (some ⟨b2,0,none⟩) m c2) ns):=hN
 clear hsn hB
 go_enter Tryz.func9,Tryz.ntmps9
 go_wp2_with (at_builtin;refine Yx rfl _ _ 27 rfl _ _ _ rfl rfl r ?_;clear r)
 exact bodyPost_ret (v:= .slice (some ⟨b2,0,none⟩) m c2) (by simp[results,Tryz.results9,go_sem]) rfl ⟨_,rfl,⟨hN.out,b2,c2,by rw[hml.out],hlo2⟩,hB2⟩
def PDl(lo:Nat)(d:Int)(ns:List Int)(u:World)(v:Value):Prop:= ∃y,v=DX d y/\NL u y ns/\ ∃b c,y= .slice (some ⟨b,0,none⟩) ns.length c/\lo<=b
theorem PDl.stab{lo:Nat}{d:Int}{ns:List Int}{u u2:World}{x:Value}(hB:Bw u u2)(h:PDl lo d ns u x):PDl lo d ns u2 x:=by
 obtain⟨y,e,h,h2⟩:=h
 exact⟨y,e,NL.up h hB,h2⟩
theorem set2_K{u:World}{b:Nat}{v0 v1 c0 c1:Value}(h:CV u b [c0,c1]):CV ((u.setCell ⟨b,0,none⟩ v0).setCell ⟨b,1,none⟩ v1) b [v0,v1]:=(h.setC 0 (by simp) v0).setC 1 (by simp) v1
theorem set2_B{m b:Nat}{w u:World}{v0 v1:Value}(h:Below m w u)(hb:m<=b):Below m w ((u.setCell ⟨b,0,none⟩ v0).setCell ⟨b,1,none⟩ v1):=(h.setCell hb v0).setCell hb v1
theorem set2_N{u:World}{b:Nat}{v0 v1:Value}{y:Value}{ns:List Int}(h:NL u y ns)(hb: ∀sl gb go cap,y= .slice sl ns.length cap->sl=some ⟨gb,go,none⟩->ns≠[]->gb≠b):NL ((u.setCell ⟨b,0,none⟩ v0).setCell ⟨b,1,none⟩ v1) y ns:=by
 obtain⟨sl,gb,go,cap,h1,h2,h3,h4,h5,h6⟩:=h
 refine⟨sl,gb,go,cap,h1,h2,h3,h4,h5.imp id fun e=>by simpa using e,fun j v hj=>?_⟩
 by_cases e:ns=[]
 ·subst e;simp[flN] at hj
 ·have hne:=hb sl gb go cap h1 (h4.resolve_left e) e
  have hg:gb<u.heap.size:=h5.resolve_left (fun e2=>e (List.eq_nil_of_length_eq_zero e2))
  have:=h6 j v hj
  have k1:=Below.heap_setCell u ⟨b,0,none⟩ v0 gb hne
  have k2:=Below.heap_setCell (u.setCell ⟨b,0,none⟩ v0) ⟨b,1,none⟩ v1 gb hne
  have e3:((u.setCell ⟨b,0,none⟩ v0).setCell ⟨b,1,none⟩ v1).cell? ⟨gb,go+j,none⟩=u.cell? ⟨gb,go+j,none⟩:=by
   simp only[World.cell?,k2,k1]
  rw[e3];exact this
theorem cFew7(ns:List Int)(v:Value)(w:World)(hv:NL w v ns)(hl:ns.length<=7):Calls Tryz.prog 9 #[v] w fun e u=> ∃y,e= .returned y/\(NL u y ns/\ ∃b c,y= .slice (some ⟨b,0,none⟩) ns.length c/\w.heap.size<=b)/\Bw w u:=by
 obtain⟨sl,gb,go,cap,rfl,h2,h3,h4,h5,h6⟩:=hv
 exact few11 sl ns.length cap ns.length gb go ns w (by omega) rfl (Nat.le_refl _) h2 h3 (by omega) (h4.imp (fun e=>by rw[e];rfl) id) h5 h6
theorem GP.gt{w:World}(h:GP w):GT w:=⟨by have:=h.sz;omega,h.tab⟩
theorem vOK{w:World}(hG:GP w):VOK w where
 share:=fun u hB p q g h nd ss ts v v2 hp hq _ _ _ hv hv2 hs ht _ _=>vShare p q g h nd ss ts v v2 u (hG.below hB) hp hq hv hv2 hs ht
 deal:=fun u hB p q g h d ss ts v v2 hp hq hg hh _ hv hv2 hs ht _ _=>vDeal p q g h d ss ts v v2 u (hG.below hB).gt hp hq hg hh hv hv2 hs ht
 check:=fun u hB p q g h d ns v hp hq _ _ _ hv hns hl=>vCheck p q g h d ns v u (hG.below hB).gt hp hq hv hns (by omega)
 verify:=fun u hB p q g h d nd s t ns v hp hq hg hh _ _ hs ht hv hns hl=>vVerify p q g h d nd s t ns v u (hG.below hB).gt hp hq hg hh hs ht hv hns hl
end
section
open Go.ChangeShapes Go.WideShapes Go.ChangeAt Go.RowKit
theorem int_of{x:Int}(h:(Lit.int .i64 x).wf=true): -9223372036854775808<=x/\x<9223372036854775808:=by
 simp[Lit.wf,IntKind.min,IntKind.max,IntKind.signed,IntKind.bits] at h;omega
end
section
open Go.RowKit
section
theorem Es.set{f:Nat->Bool}{t:Nat->Value}{u:World}: ∀{E:List En} {m:Nat} {q:En},Es f t u E->(f q.i=true->(∀c,q.c=some c->f c=false)->q.p u (t q.d))->Es f t u (E.set m q)
 | [],_,_,_,_=>trivial
 | x::r,0,q,h,hq=>⟨hq,h.2⟩
 | x::r,m+1,q,h,hq=>⟨h.1,Es.set h.2 hq⟩
section
variable {P:Program} {ops:Array Oper} {Q:Exit->Act->World->Prop} {id:Nat} {w0 w:World} {fr:List Value} {lo:Nat} {ks:List Blk}
theorem rgZ(n m:Nat)(pz:World->Value->Prop){o:Oper}{j d:Nat}{c:Option Nat}{p:World->Value->Prop}(K:Bk lo w0 ks)(HB:Below lo w w0)(hlo:lo<=w0.heap.size)(X:List Wr)(nw:List Nw)(G:List (Nat×Nat×Value))(O N:List (Nat×Nat))(E E2:List En)(M:List Bool)(hst:Stab E)
 (hE:E[m]?=some ⟨j,d,c,p⟩)(hE2:E2=E.set m ⟨j,d,none,pz⟩)(hn:ops[n]?=some o)(hsz:ops.size=n+1)(hcov:(List.range n).all (Zo o)=true)
 (hops:OpsAll (mkR fr lo w w0.heap.size ks X nw G O N E) P ops Q 0 (ops.toList.take n))
 (hlast: ∀f t u a,Xs (mkR fr lo w w0.heap.size ks X nw G O N E) ops f t u a n o->wpOp P ops Q n (fun a' u'=> ∃t',Fr fr (mkR fr lo w w0.heap.size ks X nw G O N E).S a' t'/\Inv (mkR fr lo w w0.heap.size ks X nw G O N E) (updF f n) t' u'/\pz u' (t' d)) a u)
 (hend: ∀u',AllNew nw fun bs=>AllE u' E2 fun vs=>Below lo w u'->w0.heap.size<=u'.heap.size->Bk lo u' (pM M (aK (fX ks X) (nK bs nw)))->Q .normal ⟨(setE (setN (setG fr G) bs nw) vs E2).toArray,[]⟩ u')
 (hm:P.follows .mixedOrders=true:=by kernel_rfl)(hb:Wo .any ops=true:=by kernel_rfl)(hok:(mkR fr lo w w0.heap.size ks X nw G O N E).ok=true:=by kernel_rfl)(hfit:fits ops.size X nw G E2=true:=by kernel_rfl):(Code.region id ops true).wp P Q ⟨fr.toArray,[]⟩ w0:=by
 have hKd:KA lo w0.drew ks:=by
  have:=K.a
  revert this
  clear hend hops K hok hlast
  induction ks with
  | nil=>intro _;trivial
  | cons q r ih=>exact fun h=>⟨⟨h.1.1,h.1.2.1,h.1.2.2.drew⟩,ih h.2⟩
 have hmap: ∀(E:List En) (m:Nat),E[m]?=some ⟨j,d,c,p⟩->(E.set m ⟨j,d,none,pz⟩).map (·.d)=E.map (·.d):=by
  intro E
  induction E with
  | nil=>intro m h;simp at h
  | cons x r ih=>
   intro m h
   cases m with
   | zero=>simp at h;subst h;rfl
   | succ m=>simp at h;simp[ih m h]
 have hS:(mkR fr lo w w0.heap.size ks X nw G O N E2).S=(mkR fr lo w w0.heap.size ks X nw G O N E).S:=by
  show G.map (·.2.1)++(nw.map (·.2.1)++E2.map (·.d))=G.map (·.2.1)++(nw.map (·.2.1)++E.map (·.d))
  rw[hE2,hmap E m hE]
 refine Wx (mkR fr lo w w0.heap.size ks X nw G O N E).S (fun f t u=>Inv (mkR fr lo w w0.heap.size ks X nw G O N E) f t u/\(f n=true->pz u (t d)/\ ∀i,i<n->f i=true)) hm hb ⟨Inv.start HB.drew rfl hKd hlo X nw G O N E,fun e=>by cases e⟩ ?_ ?_
 ·rintro f t u i oi a hF ⟨hI,hI2⟩ ho hfi hdep
  have hX:Xs (mkR fr lo w w0.heap.size ks X nw G O N E) ops f t u a i oi:=⟨hok,by show ((U5 ks X).map (·.2.1)).Nodup;rw[Xg];exact K.n,hst,hF,hI,ho,hfi,hdep⟩
  by_cases e:i=n
  ·subst e
   have e2:oi=o:=by rw[hn] at ho;cases ho;rfl
   subst e2
   have hc: ∀k,k<i->f k=true:=fun k hk=>Y8 (List.all_eq_true.1 hcov k (List.mem_range.2 hk)) hdep
   refine wpOp_mono (fun a' u' h=>?_) (hlast f t u a hX)
   obtain⟨t',h1,h2,h3⟩:=h
   exact⟨t',h1,h2,fun _=>⟨h3,fun k hk=>by simp[updF,Nat.ne_of_lt hk,hc k hk]⟩⟩
  ·have hlt:i<n:=by
    have:i<ops.size:=(Array.getElem?_eq_some_iff.1 ho).1
    omega
   have hfn:f n=false:=by
    cases hf:f n
    ·rfl
    ·rw[(hI2 hf).2 i hlt] at hfi;cases hfi
   have hg:=hops.get (n:=i) (o:=oi) (by rw[List.getElem?_take_of_lt hlt,Array.getElem?_toList];exact ho)
   rw[Nat.zero_add] at hg
   refine wpOp_mono (fun a' u' h=>?_) (hg f t u a hX)
   obtain⟨t',h1,h2⟩:=h
   exact⟨t',h1,h2,fun e3=>by rw[updF,if_neg (by omega),hfn] at e3;cases e3⟩
 ·rintro f t u ⟨hI,hI2⟩ hall
  have h2:=hI2 (hall n (by omega))
  have hI3:Inv (mkR fr lo w w0.heap.size ks X nw G O N E2) f t u:=by
   obtain⟨a1,a2,a3,a4,a5,a6⟩:=hI
   refine⟨a1,a2,a3,a4,a5,?_⟩
   show Es f t u E2
   rw[hE2]
   exact Es.set a6 fun _ _=>h2.1
  have:=hI3.end hall hfit K.n hend
  rw[hS] at this
  exact this
end
section
variable {R:Rg} {P:Program} {ops:Array Oper} {Q:Exit->Act->World->Prop} {i:Nat} {o:Oper}
theorem st_last(k c m:Nat)(p pz:World->Value->Prop){T:TypeId}{x:Operand}{b j d:Nat}{l post:List Value}{v0:Value}(hr: ∀(u:World) (v:Value),p u v->u.cell? ⟨b,c,none⟩=some v0->u.frozen? ⟨b,c,none⟩=false->(Instr.storeAt T (.pointer (some ⟨b,c,none⟩)) v).run P u= .ok () (u.setCell ⟨b,c,none⟩ v))
 (hpp: ∀(u:World) (v:Value),Below R.lo R.w u->R.base<=u.heap.size->b<R.base->CV u b l->p u v->pz (u.setCell ⟨b,c,none⟩ v) v)(h0:l[c]?=some v0)(hp:post=l.take c)
 (hop:o.op= .store T x (.tmp d):=by rfl)(hn:R.es[k]?=some (true,b,l,.all i post):=by rfl)(hx:evR R i o x=some (.pointer (some ⟨b,c,none⟩)):=by rfl)(hm:R.E[m]?=some ⟨j,d,some i,p⟩:=by rfl)(hd:(Zo o j&&R.S.contains d)=true:=by rfl)
 (hf:(((R.es.eraseIdx k).all fun q=>q.2.2.2.free i)&&(R.nw.all (nwf0 i)))=true:=by rfl)(hE:(R.E.all (eGone [] i o))=true:=by rfl)(hc:({R with E:=[]}:Rg).chkS ops i o=true:=by rfl): ∀f t u a,Xs R ops f t u a i o->wpOp P ops Q i (fun a' u'=> ∃t',Fr R.fr R.S a' t'/\Inv R (updF f i) t' u'/\pz u' (t' d)) a u:=fun f t u a X=>by
 simp only[Bool.and_eq_true] at hf
 rw[Bool.and_eq_true,List.contains_iff_mem] at hd
 obtain⟨d2,d4⟩:=hd
 obtain⟨q1,q2,q3⟩:=X.I.2.1.get hn
 have q3:CV u b (bif f i then post else l):=q3
 rw[X.fi] at q3
 have q3:CV u b l:=q3
 have hv:p u (t d):=X.val hm d2 rfl
 have cc:=Chg.cell u b c (t d)
 have hlt:c<l.length:=(List.getElem?_eq_some_iff.1 h0).1
 obtain⟨hdst,s1,⟨s5,_⟩,s7⟩:=X2 hc
 have s1:lacks i R.G=true:=s1
 have s5:R.okO i o=true:=s5
 have s7:Wv R ops o=some true:=s7
 refine X.go s7 fun K hK=>wp_store hop (X.ev hx) (X.inS d4) (hr u _ hv (q3 c _ h0).1 (q3 c _ h0).2) (hK _ _ ?_)
 refine⟨t,by rw[hdst];exact X.F,⟨?_,?_,Gs.idle s1 X.I.2.2.1,Yu s5 X.I.2.2.2.1 X.dep,Ns.idle X.I.2.2.2.2.1,Es.gone (O:=[]) (fun j hj=>by simp at hj) X.dep hE⟩,hpp u _ X.I.1.bel X.I.1.sz q1 q3 hv⟩
 ·rw[Xi hf.2]
  exact X.I.1.wr (X.I.1.bel.setCell (q2 rfl) _) cc q1
 ·refine KC.put cc X.I.2.1 hn X.nd hf.1 ?_
  simp only[Wr.val,Yy,cond_true]
  rw[hp]
  intro jj v hj
  have h5:=q3.setC c hlt (t d) jj v
  refine h5 ?_
  rw[List.getElem?_take] at hj
  split at hj
  ·rename_i h6
   rw[List.getElem?_set_ne (by omega)];exact hj
  ·cases hj
end
end
abbrev DZ:Value:= .agg L0d.toArray
theorem zDl(w:World):(Instr.build 30 [].toArray).run Tryz.prog w= .ok DZ w:=by kernel_rfl
theorem bdDl(d:Int)(w:World):(Instr.build 30 [(0,.int .i64 d)].toArray).run Tryz.prog w= .ok (DX d (.slice none 0 0)) w:=by kernel_rfl
theorem sSN{b c n cap n0 c0:Nat}{sl s0:Option Addr}(w:World)(h:w.cell? ⟨b,c,none⟩=some (.slice s0 n0 c0))(hf:w.frozen? ⟨b,c,none⟩=false):(Instr.storeAt 27 (.pointer (some ⟨b,c,none⟩)) (.slice sl n cap)).run Tryz.prog w= .ok () (w.setCell ⟨b,c,none⟩ (.slice sl n cap)):=by go_simp
theorem Bk.setC{lo:Nat}{u:World}{ks:List Blk}{o:Bool}{b:Nat}{l:List Value}(k:Nat)(l':List Value)(K:Bk lo u ks)(e:ks[k]?=some (o,b,l))(h:CV u b l'):Bk lo u (ks.set k (o,b,l')):=by
 have hm: ∀(ks:List Blk) (k:Nat),ks[k]?=some (o,b,l)->KA lo u ks->KA lo u (ks.set k (o,b,l'))/\(ks.set k (o,b,l')).map (·.2.1)=ks.map (·.2.1):=by
  intro ks
  induction ks with
  | nil=>intro k e;simp at e
  | cons x r ih=>
   intro k e hK
   cases k with
   | zero=>simp at e;subst e;exact⟨⟨⟨hK.1.1,hK.1.2.1,h⟩,hK.2⟩,rfl⟩
   | succ k=>
    simp at e
    have:=ih k e hK.2
    exact⟨⟨hK.1,this.1⟩,by simp[this.2]⟩
 have:=hm ks k e K.a
 exact⟨this.1,by rw[this.2];exact K.n⟩
def PZD(bd:Nat)(dl:Int)(lo s n:Nat)(xs:List Value)(u:World)(v:Value):Prop:=PG lo s n xs u v/\CV u bd [.int .i64 dl,v]
theorem st_pg{lo s n:Nat}{xs:List Value}{b c n0 c0:Nat}{s0:Option Addr}(u:World)(v:Value)(hv:PG lo s n xs u v)(h:u.cell? ⟨b,c,none⟩=some (.slice s0 n0 c0))(hf:u.frozen? ⟨b,c,none⟩=false):(Instr.storeAt 27 (.pointer (some ⟨b,c,none⟩)) v).run Tryz.prog u= .ok () (u.setCell ⟨b,c,none⟩ v):=by
 obtain⟨b2,cap,zs,rfl,_⟩:=hv
 exact sSN u h hf
theorem st_pz{lo s n bd:Nat}{xs:List Value}{dl:Int}{v0:Value}{u:World}{v:Value}(hb:bd<lo)(hc:CV u bd [.int .i64 dl,v0])(hv:PG lo s n xs u v):PZD bd dl lo s n xs (u.setCell ⟨bd,1,none⟩ v) v:=by
 refine⟨?_,hc.setC 1 (by simp) v⟩
 obtain⟨b2,cap,zs,e,h1,h2,h3,h4,h5⟩:=hv
 exact⟨b2,cap,zs,e,h1,by simpa using h2,h3,h4,h5.oset ⟨bd,1,none⟩ v (by show b2≠bd;omega)⟩
theorem xdl_c(p q g h dl:Int)(sa sb:Option Addr)(ca cb:Nat)(ss ts:List Int)(w:World)(hC:Hid (∀u,CC 37 #[GX p q g h] u (.int .i64 90))):
 CC 11 #[GX p q g h,.int .i64 dl,.slice sa ss.length ca,.slice sb ts.length cb] w (.tuple #[DZ,.int .i64 90]):=by
 go_enter Tryz.func11,Tryz.ntmps11
 go_upto_region 1 with fail
 obtain⟨v0,hC,HB0,K0⟩:=bx2 w (GE p q g h) 26 L0d 30
 rw[hC]
 clear hC
 apply Rn K0 HB0 [(0,12,_),(1,13,_),(2,14,_)]
 ·exact oc (g_ld 0 Tryz.underlying26 Z0)<|oc (g_cl Z2 hC.out)<|oc (g_bn (fun uZ=>Y9 _ _ _ 90 0 _ uZ rfl)) on
 intro u1 HB1 sz1 K1
 simp only[sQ] at K1⊢
 clear K0 HB0
 go_upto_region 2 with fail
 apply Rp K1 HB1 [.no,.all 1 L0d] [] [(0,15,_),(2,9,_)] [] [] []
 ·exact oc (g_bd zDl)<|oc (g_st 1 Z5)<|oc g_as on
 intro u2 HB2 sz2 K2
 simp only[sQ] at K2⊢
 clear K1 HB1
 have c8_0:=((K2.cv 1) 0 _ rfl).1
 have c8_1:=((K2.cv 1) 1 _ rfl).1
 go_wp2
 refine bodyPost_ret (v:= .tuple #[DZ,.int .i64 90]) (by simp[results,Tryz.results11,go_sem,c8_0,c8_1]) rfl ⟨rfl,HB2⟩
theorem xdl_n(p q g h dl:Int)(sa sb:Option Addr)(ca cb:Nat)(ss ts:List Int)(w:World)(hC:Hid (∀u,CC 37 #[GX p q g h] u (.int .i64 0)))(hN:Hid (∀u,CC 38 #[.int .i64 dl] u (.bool false))):
 CC 11 #[GX p q g h,.int .i64 dl,.slice sa ss.length ca,.slice sb ts.length cb] w (.tuple #[DZ,.int .i64 110]):=by
 go_enter Tryz.func11,Tryz.ntmps11
 go_upto_region 1 with fail
 obtain⟨v0,hC,HB0,K0⟩:=bx2 w (GE p q g h) 26 L0d 30
 rw[hC]
 clear hC
 apply Rn K0 HB0 [(0,12,_),(1,13,_),(2,14,_)]
 ·exact oc (g_ld 0 Tryz.underlying26 Z0)<|oc (g_cl Z2 hC.out)<|oc (g_bn (fun uZ=>Y9 _ _ _ 0 0 _ uZ rfl)) on
 intro u1 HB1 sz1 K1
 simp only[sQ] at K1⊢
 clear K0 HB0
 go_upto_region 3 with fail
 apply Rn K1 HB1 [(0,16,_),(1,17,_),(2,18,_),(3,19,_),(4,20,undef),(5,21,undef),(6,22,undef),(7,23,undef),(8,24,_)]
 ·exact oc g_mv<|oc (g_cl Ze hN.out)<|oc (g_un Vw)<|oc g_mv<|oc g_sk<|oc g_sk<|oc g_sk<|oc g_sk<|oc g_pk on
 intro u2 HB2 sz2 K2
 simp only[sQ] at K2⊢
 clear K1 HB1
 go_upto_region 4 with fail
 apply Rp K2 HB2 [.no,.all 1 L0d] [] [(0,25,_),(2,9,_)] [] [] []
 ·exact oc (g_bd zDl)<|oc (g_st 1 Z5)<|oc g_as on
 intro u3 HB3 sz3 K3
 simp only[sQ] at K3⊢
 clear K2 HB2
 have c8_0:=((K3.cv 1) 0 _ rfl).1
 have c8_1:=((K3.cv 1) 1 _ rfl).1
 go_wp2
 refine bodyPost_ret (v:= .tuple #[DZ,.int .i64 110]) (by simp[results,Tryz.results11,go_sem,c8_0,c8_1]) rfl ⟨rfl,HB3⟩
theorem xdl_s(p q g h dl:Int)(sa sb:Option Addr)(ca cb:Nat)(ss ts:List Int)(w:World)(hC:Hid (∀u,CC 37 #[GX p q g h] u (.int .i64 0)))(hN:Hid (∀u,CC 38 #[.int .i64 dl] u (.bool true)))(hS:Hid (∀u,CC 39 #[.slice sa ss.length ca,.slice sb ts.length cb] u (.bool false))):
 CC 11 #[GX p q g h,.int .i64 dl,.slice sa ss.length ca,.slice sb ts.length cb] w (.tuple #[DZ,.int .i64 110]):=by
 go_enter Tryz.func11,Tryz.ntmps11
 go_upto_region 1 with fail
 obtain⟨v0,hC,HB0,K0⟩:=bx2 w (GE p q g h) 26 L0d 30
 rw[hC]
 clear hC
 apply Rn K0 HB0 [(0,12,_),(1,13,_),(2,14,_)]
 ·exact oc (g_ld 0 Tryz.underlying26 Z0)<|oc (g_cl Z2 hC.out)<|oc (g_bn (fun uZ=>Y9 _ _ _ 0 0 _ uZ rfl)) on
 intro u1 HB1 sz1 K1
 simp only[sQ] at K1⊢
 clear K0 HB0
 go_upto_region 3 with fail
 apply Rn K1 HB1 [(0,16,_),(1,17,_),(2,18,_),(3,19,_),(4,20,_),(5,21,_),(6,22,_),(7,23,_),(8,24,_)]
 ·exact oc g_mv<|oc (g_cl Ze hN.out)<|oc (g_un Xd)<|oc g_mv<|oc g_mv<|oc g_mv<|oc (g_cl Zb hS.out)<|oc (g_un Vw)<|oc g_pk on
 intro u2 HB2 sz2 K2
 simp only[sQ] at K2⊢
 clear K1 HB1
 go_upto_region 4 with fail
 apply Rp K2 HB2 [.no,.all 1 L0d] [] [(0,25,_),(2,9,_)] [] [] []
 ·exact oc (g_bd zDl)<|oc (g_st 1 Z5)<|oc g_as on
 intro u3 HB3 sz3 K3
 simp only[sQ] at K3⊢
 clear K2 HB2
 have c8_0:=((K3.cv 1) 0 _ rfl).1
 have c8_1:=((K3.cv 1) 1 _ rfl).1
 go_wp2
 refine bodyPost_ret (v:= .tuple #[DZ,.int .i64 110]) (by simp[results,Tryz.results11,go_sem,c8_0,c8_1]) rfl ⟨rfl,HB3⟩
theorem xdl_g(p q g h dl:Int)(sa sb:Option Addr)(ca cb:Nat)(ss ts:List Int)(w:World)(hC:Hid (∀u,CC 37 #[GX p q g h] u (.int .i64 0)))(hN:Hid (∀u,CC 38 #[.int .i64 dl] u (.bool true)))(hS:Hid (∀u,CC 39 #[.slice sa ss.length ca,.slice sb ts.length cb] u (.bool true)))(hI:Hid (∀u,CC 40 #[GX p q g h,NV g] u (.bool false))):
 CC 11 #[GX p q g h,.int .i64 dl,.slice sa ss.length ca,.slice sb ts.length cb] w (.tuple #[DZ,.int .i64 90]):=by
 go_enter Tryz.func11,Tryz.ntmps11
 go_upto_region 1 with fail
 obtain⟨v0,hC,HB0,K0⟩:=bx2 w (GE p q g h) 26 L0d 30
 rw[hC]
 clear hC
 apply Rn K0 HB0 [(0,12,_),(1,13,_),(2,14,_)]
 ·exact oc (g_ld 0 Tryz.underlying26 Z0)<|oc (g_cl Z2 hC.out)<|oc (g_bn (fun uZ=>Y9 _ _ _ 0 0 _ uZ rfl)) on
 intro u1 HB1 sz1 K1
 simp only[sQ] at K1⊢
 clear K0 HB0
 go_upto_region 3 with fail
 apply Rn K1 HB1 [(0,16,_),(1,17,_),(2,18,_),(3,19,_),(4,20,_),(5,21,_),(6,22,_),(7,23,_),(8,24,_)]
 ·exact oc g_mv<|oc (g_cl Ze hN.out)<|oc (g_un Xd)<|oc g_mv<|oc g_mv<|oc g_mv<|oc (g_cl Zb hS.out)<|oc (g_un Xd)<|oc g_pk on
 intro u2 HB2 sz2 K2
 simp only[sQ] at K2⊢
 clear K1 HB1
 go_upto_region 5 with fail
 apply Rn K2 HB2 [(0,26,_),(1,27,_),(2,28,_),(3,29,_),(4,30,_),(5,31,_),(6,32,undef),(7,33,undef),(8,34,undef),(9,35,undef),(10,36,undef),(11,37,_)]
 ·exact oc (g_ld 0 Tryz.underlying26 Z0)<|oc (g_fd (fdG2 _))<|oc (g_lo 0 8 uN iN)<|oc (g_cl Zz hI.out)<|oc (g_un Vw)<|oc g_mv<|oc g_sk<|oc g_sk<|oc g_sk<|oc g_sk<|oc g_sk<|oc g_pk on
 intro u3 HB3 sz3 K3
 simp only[sQ] at K3⊢
 clear K2 HB2
 go_upto_region 6 with fail
 apply Rp K3 HB3 [.no,.all 1 L0d] [] [(0,38,_),(2,9,_)] [] [] []
 ·exact oc (g_bd zDl)<|oc (g_st 1 Z5)<|oc g_as on
 intro u4 HB4 sz4 K4
 simp only[sQ] at K4⊢
 clear K3 HB3
 have c8_0:=((K4.cv 1) 0 _ rfl).1
 have c8_1:=((K4.cv 1) 1 _ rfl).1
 go_wp2
 refine bodyPost_ret (v:= .tuple #[DZ,.int .i64 90]) (by simp[results,Tryz.results11,go_sem,c8_0,c8_1]) rfl ⟨rfl,HB4⟩
theorem xdl_h(p q g h dl:Int)(sa sb:Option Addr)(ca cb:Nat)(ss ts:List Int)(w:World)(hC:Hid (∀u,CC 37 #[GX p q g h] u (.int .i64 0)))(hN:Hid (∀u,CC 38 #[.int .i64 dl] u (.bool true)))(hS:Hid (∀u,CC 39 #[.slice sa ss.length ca,.slice sb ts.length cb] u (.bool true)))(hI:Hid (∀u,CC 40 #[GX p q g h,NV g] u (.bool true)))(hJ:Hid (∀u,CC 40 #[GX p q g h,NV h] u (.bool false))):
 CC 11 #[GX p q g h,.int .i64 dl,.slice sa ss.length ca,.slice sb ts.length cb] w (.tuple #[DZ,.int .i64 90]):=by
 go_enter Tryz.func11,Tryz.ntmps11
 go_upto_region 1 with fail
 obtain⟨v0,hC,HB0,K0⟩:=bx2 w (GE p q g h) 26 L0d 30
 rw[hC]
 clear hC
 apply Rn K0 HB0 [(0,12,_),(1,13,_),(2,14,_)]
 ·exact oc (g_ld 0 Tryz.underlying26 Z0)<|oc (g_cl Z2 hC.out)<|oc (g_bn (fun uZ=>Y9 _ _ _ 0 0 _ uZ rfl)) on
 intro u1 HB1 sz1 K1
 simp only[sQ] at K1⊢
 clear K0 HB0
 go_upto_region 3 with fail
 apply Rn K1 HB1 [(0,16,_),(1,17,_),(2,18,_),(3,19,_),(4,20,_),(5,21,_),(6,22,_),(7,23,_),(8,24,_)]
 ·exact oc g_mv<|oc (g_cl Ze hN.out)<|oc (g_un Xd)<|oc g_mv<|oc g_mv<|oc g_mv<|oc (g_cl Zb hS.out)<|oc (g_un Xd)<|oc g_pk on
 intro u2 HB2 sz2 K2
 simp only[sQ] at K2⊢
 clear K1 HB1
 go_upto_region 5 with fail
 apply Rn K2 HB2 [(0,26,_),(1,27,_),(2,28,_),(3,29,_),(4,30,_),(5,31,_),(6,32,_),(7,33,_),(8,34,_),(9,35,_),(10,36,_),(11,37,_)]
 ·exact oc (g_ld 0 Tryz.underlying26 Z0)<|oc (g_fd (fdG2 _))<|oc (g_lo 0 8 uN iN)<|oc (g_cl Zz hI.out)<|oc (g_un Xd)<|oc g_mv<|oc (g_ld 0 Tryz.underlying26 Z0)<|oc (g_fd (fdG3 _))<|oc (g_lo 0 12 uN iN)<|oc (g_cl Zz hJ.out)<|oc (g_un Vw)<|oc g_pk on
 intro u3 HB3 sz3 K3
 simp only[sQ] at K3⊢
 clear K2 HB2
 go_upto_region 6 with fail
 apply Rp K3 HB3 [.no,.all 1 L0d] [] [(0,38,_),(2,9,_)] [] [] []
 ·exact oc (g_bd zDl)<|oc (g_st 1 Z5)<|oc g_as on
 intro u4 HB4 sz4 K4
 simp only[sQ] at K4⊢
 clear K3 HB3
 have c8_0:=((K4.cv 1) 0 _ rfl).1
 have c8_1:=((K4.cv 1) 1 _ rfl).1
 go_wp2
 refine bodyPost_ret (v:= .tuple #[DZ,.int .i64 90]) (by simp[results,Tryz.results11,go_sem,c8_0,c8_1]) rfl ⟨rfl,HB4⟩
theorem dl_row{u:World}{b j c:Nat}{ns:List Int}{zs:List Value}(hb:b<u.heap.size)(h:CV u b (flN (ns.take j)++zs))(hj:j=ns.length)(hc:j<=c):NL u (.slice (some ⟨b,0,none⟩) j c) ns:=by
 subst hj
 rw[List.take_length] at h
 refine⟨_,b,0,c,rfl,hc,(by simp),.inr rfl,.inr hb,fun i v hi=>?_⟩
 rw[Nat.zero_add]
 exact(h i v (by rw[List.getElem?_append_left (List.getElem?_eq_some_iff.1 hi).1];exact hi)).1
theorem xdl_k(p q g h dl:Int)(sa sb:Option Addr)(ca cb ga oa gb ob:Nat)(ss ts ns:List Int)(w:World)(hC:Hid (∀u,CC 37 #[GX p q g h] u (.int .i64 0)))(hN:Hid (∀u,CC 38 #[.int .i64 dl] u (.bool true)))(hS:Hid (∀u,CC 39 #[.slice sa ss.length ca,.slice sb ts.length cb] u (.bool true)))(hI:Hid (∀u,CC 40 #[GX p q g h,NV g] u (.bool true)))(hJ:Hid (∀u,CC 40 #[GX p q g h,NV h] u (.bool true)))(hP:Hid (∀j,j<ss.length-> ∀u,CC 41 #[GX p q g h,NV (ss.getD j 0),NV (ts.getD j 0)] u (NV (ns.getD j 0))))(hixa:Hid (∀j,j<ss.length-> ∀W,(Instr.indexAt 27 (.slice sa ss.length ca) (.int .i64 j)).run Tryz.prog W= .ok (.pointer (some ⟨ga,oa+4*j,none⟩)) W))(hga:ss.length=0\/ga<w.heap.size)(hSa:Hid (SN w ga oa ss))(hixb:Hid (∀j,j<ts.length-> ∀W,(Instr.indexAt 27 (.slice sb ts.length cb) (.int .i64 j)).run Tryz.prog W= .ok (.pointer (some ⟨gb,ob+4*j,none⟩)) W))(hgb:ts.length=0\/gb<w.heap.size)(hSb:Hid (SN w gb ob ts))(hln:ns.length=ss.length)(hlt:ts.length=ss.length)(h1:1<=ss.length)(h6:ss.length<=6):
 Calls Tryz.prog 11 #[GX p q g h,.int .i64 dl,.slice sa ss.length ca,.slice sb ts.length cb] w fun e' w'=> ∃y,e'= .returned (.tuple #[DX dl y,.int .i64 0])/\NL w' y ns/\Bw w w':=by
 go_enter Tryz.func11,Tryz.ntmps11
 go_upto_region 1 with fail
 obtain⟨v0,hC,HB0,K0⟩:=bx2 w (GE p q g h) 26 L0d 30
 rw[hC]
 clear hC
 apply Rn K0 HB0 [(0,12,_),(1,13,_),(2,14,_)]
 ·exact oc (g_ld 0 Tryz.underlying26 Z0)<|oc (g_cl Z2 hC.out)<|oc (g_bn (fun uZ=>Y9 _ _ _ 0 0 _ uZ rfl)) on
 intro u1 HB1 sz1 K1
 simp only[sQ] at K1⊢
 clear K0 HB0
 go_upto_region 3 with fail
 apply Rn K1 HB1 [(0,16,_),(1,17,_),(2,18,_),(3,19,_),(4,20,_),(5,21,_),(6,22,_),(7,23,_),(8,24,_)]
 ·exact oc g_mv<|oc (g_cl Ze hN.out)<|oc (g_un Xd)<|oc g_mv<|oc g_mv<|oc g_mv<|oc (g_cl Zb hS.out)<|oc (g_un Xd)<|oc g_pk on
 intro u2 HB2 sz2 K2
 simp only[sQ] at K2⊢
 clear K1 HB1
 go_upto_region 5 with fail
 apply Rn K2 HB2 [(0,26,_),(1,27,_),(2,28,_),(3,29,_),(4,30,_),(5,31,_),(6,32,_),(7,33,_),(8,34,_),(9,35,_),(10,36,_),(11,37,_)]
 ·exact oc (g_ld 0 Tryz.underlying26 Z0)<|oc (g_fd (fdG2 _))<|oc (g_lo 0 8 uN iN)<|oc (g_cl Zz hI.out)<|oc (g_un Xd)<|oc g_mv<|oc (g_ld 0 Tryz.underlying26 Z0)<|oc (g_fd (fdG3 _))<|oc (g_lo 0 12 uN iN)<|oc (g_cl Zz hJ.out)<|oc (g_un Xd)<|oc g_pk on
 intro u3 HB3 sz3 K3
 simp only[sQ] at K3⊢
 clear K2 HB2
 go_upto_region 7 with fail
 apply Rp K3 HB3 [] [(2,10,L0d,some (3,DE dl (.slice none 0 0)))] [(0,39,_),(1,40,_)] [(3,2)] [] []
 ·exact oc g_mv<|oc (g_bd (bdDl dl))<|oc (g_al 0 U2)<|oc (g_sn 0 Z5) on
 intro u4 b4_2 HB4 sz4 K4
 simp only[sQ] at K4⊢
 clear K3 HB3
 go_upto_region 8 with fail
 apply Rn K4 HB4 [(0,11,_)]
 ·exact oc g_as on
 intro u5 HB5 sz5 K5
 simp only[sQ] at K5⊢
 clear K4 HB4
 go_wp2_with fail
 go_loopw [11] (fun s11 wr=> ∃(j:Nat),j<=ss.length/\s11= .int .i64 (j:Int)/\Bw w wr/\((j=0/\Bk w.heap.size wr [(true,w.heap.size,GE p q g h),(true,w.heap.size+1,L0d),(true,b4_2,DE dl (.slice none 0 0))])\/ ∃(b c:Nat) (zs:List Value),j<=c/\zs.length=(c -j)*4/\Bk w.heap.size wr [(true,w.heap.size,GE p q g h),(true,w.heap.size+1,L0d),(true,b4_2,DE dl (.slice (some ⟨b,0,none⟩) j c)),(true,b,flN (ns.take j)++zs)])) (fun s11 _=>ss.length -(intOf s11).toNat)
 case atStart=>exact⟨0,by omega,rfl,HB5,.inl ⟨rfl,K5⟩⟩
 case round=>
  obtain⟨j,hj,rfl,HBr,hrow⟩:=hrel
  clear HB5 K5
  by_cases hjl:j<ss.length
  ·have hl:decide ((j:Int)<(ss.length:Int))=true:=by simp;omega
   obtain⟨y,ey⟩: ∃y,ns.getD j 0=y:=⟨_,rfl⟩
   obtain⟨s,es⟩: ∃s,ss.getD j 0=s:=⟨_,rfl⟩
   obtain⟨t,et⟩: ∃t,ts.getD j 0=t:=⟨_,rfl⟩
   have hy:=flN_tk ns j (by omega)
   have hP:=hP.out j hjl
   have hXa:=hixa.out _ hjl
   have hXb:=hixb.out j (by omega)
   have hRa:=hSa.out.at _ hjl
   have hRb:=hSb.out.at j (by omega)
   have hga':=hga.resolve_left (by omega)
   have hgb':=hgb.resolve_left (by omega)
   have hsl:=flN_len (ns.take j)
   rw[List.length_take,show min j ns.length=j by omega] at hsl
   rw[ey] at hy hP
   rw[es] at hP hRa
   rw[et] at hP hRb
   have hy:Hid _:=hy
   have hP:Hid _:=hP
   have hXa:Hid _:=hXa
   have hXb:Hid _:=hXb
   have hRa:Hid _:=hRa
   have hRb:Hid _:=hRb
   obtain⟨ti,hti,hm⟩:=Option.map_eq_some_iff.1 infoNt
   simp only[Prod.mk.injEq] at hm
   obtain⟨hzv,hsz,hby⟩:=hm
   clear ey es et hC hN hS hI hJ
   rcases hrow with⟨hj0,Kr⟩ | ⟨b5,c5,zs,hjc,hzl,Kr⟩
   ·skip
    go_upto_region 9 with fail
    apply Rn Kr HBr [(0,41,_),(1,42,_),(2,43,_),(3,44,_)]
    ·exact oc g_mv<|oc g_mv<|oc (g_ln Tryz.underlying27)<|oc (g_bn (fun uZ=>Zy _ _ (j:Int) (ss.length:Int) _ uZ hl)) on
    intro u6 HB6 sz6 K6
    simp only[sQ] at K6⊢
    have hw9:=HB6.size
    go_upto_region 11 with fail
    refine rgZ 15 1 (PZD b4_2 dl u6.heap.size ti.size (j+1) (flN (ns.take j)++LN y)) K6 HB6 HB6.size [.no,.no,.all 15 ([.int .i64 dl])] [] [(0,47,.pointer (some ⟨b4_2,1,none⟩)),(1,48,.slice none 0 0),(2,49,GX p q g h),(3,50,.slice sa ss.length ca),(4,51,.int .i64 (j:Int)),(5,52,.pointer (some ⟨ga,oa+4*j,none⟩)),(6,53,NV s),(7,54,.slice sb ts.length cb),(8,55,.int .i64 (j:Int)),(9,56,.pointer (some ⟨gb,ob+4*j,none⟩)),(10,57,NV t),(11,58,NV y),(14,61,.pointer (some ⟨b4_2,1,none⟩))] [(15,1)] [] [⟨12,59,some 13,P1 (LN y)⟩,⟨13,60,some 15,PG u6.heap.size ti.size (j+1) (flN (ns.take j)++LN y)⟩] [⟨12,59,some 13,P1 (LN y)⟩,⟨13,60,none,PZD b4_2 dl u6.heap.size ti.size (j+1) (flN (ns.take j)++LN y)⟩] [] (.cons (fun _ _ _ h1 h2=>h2.stab h1)<| .cons (fun _ _ _ h1 h2=>h2.stab h1)<|Stab.nil) rfl rfl rfl rfl (by kernel_rfl) ?_ ?_ ?_
    ·exact oc (g_fd (fdD1 _))<|oc (g_lc 2 1 lSN)<|oc (g_ld 0 Tryz.underlying26 Z0)<|oc g_mv<|oc g_mv<|oc (g_ix hXa.out)<|oc (g_lf hRa.out hga' uN iN)<|oc g_mv<|oc g_mv<|oc (g_ix hXb.out)<|oc (g_lf hRb.out hgb' uN iN)<|oc (g_cl Yg hP.out)<|oc (g_bR 0 (P1 (LN y)) [0] [NV y] (LN y) (bsN1 _) (fun u hu=>P1.new _ _ u))<|oc (g_pG 0 1 (P1 (LN y)) (n:=j) (xs:=flN (ns.take j)) (news:=LN y) Tryz.underlying27 hti hzv (by rw[hsz];rfl) P1.at hsz.symm (fun f u kZ=>⟨by rw[hsz];omega,.inl ⟨rfl,hj0⟩⟩) (by rw[hby];omega) (by omega))<|oc (g_fd (fdD1 _)) on
    ·exact(st_last 2 1 1 (PG u6.heap.size ti.size (j+1) (flN (ns.take j)++LN y)) (PZD b4_2 dl u6.heap.size ti.size (j+1) (flN (ns.take j)++LN y)) st_pg (fun u v _ _ hb hc hv=>st_pz hb hc hv) rfl rfl)
    intro u7 v7_12 hv7_12 v7_13 hv7_13 HB7 sz7 K7
    simp only[sQ] at K7⊢
    clear HB6
    obtain⟨⟨b6,c6,zs6,rfl,ho1,ho2,hc6,hz6,hoC⟩,hdC⟩:=hv7_13 rfl
    have K7xrow6:=Bk.moreT K6 K7 (by omega) ho1 ho2 hoC (by intro x hx;first | (simp at hx;done) | (simp at hx⊢;omega))
    simp only[aK] at K7xrow6
    clear K7
    rw[hsz] at hz6
    have Kz:=Bk.setC 2 (DE dl (.slice (some ⟨b6,0,none⟩) (j+1) c6)) K7xrow6 rfl hdC
    simp only[List.set_cons_succ,List.set_cons_zero] at Kz
    clear K7xrow6 K6
    go_upto_region 10 with fail
    apply Rp Kz HB7 [] [] [(0,45,_),(1,46,_),(2,11,_)] [(2,0)] [(2,11)] []
    ·exact oc g_mv<|oc (g_bn (fun uZ=>Yr _ _ (j:Int) 1 ((j+1:Nat):Int) uZ (by omega) (by omega) (by omega)))<|oc g_as on
    intro u8 HB8 sz8 K8
    simp only[sQ] at K8⊢
    clear HB7
    go_wp2
    refine⟨⟨j+1,by omega,rfl,HB8,.inr ⟨b6,c6,zs6,hc6,hz6,(by rw[hy.out];exact K8)⟩⟩,?_⟩
    simp[intOf]<;>omega
   ·by_cases hrm:j+1<=c5
    ·rw[<-add_drop4 (xs:=flN (ns.take j)) (zs:=zs)] at Kr
     go_upto_region 9 with fail
     apply Rn Kr HBr [(0,41,_),(1,42,_),(2,43,_),(3,44,_)]
     ·exact oc g_mv<|oc g_mv<|oc (g_ln Tryz.underlying27)<|oc (g_bn (fun uZ=>Zy _ _ (j:Int) (ss.length:Int) _ uZ hl)) on
     intro u6 HB6 sz6 K6
     simp only[sQ] at K6⊢
     have hw9:=HB6.size
     go_upto_region 11 with fail
     apply Re K6 HB6 [.no,.no,.all 15 (DE dl (.slice (some ⟨b5,0,none⟩) (j+1) c5)),.all 13 (flN (ns.take j)++LN y++zs.drop 4)] [] [(0,47,_),(1,48,_),(2,49,_),(3,50,_),(4,51,_),(5,52,_),(6,53,_),(7,54,_),(8,55,_),(9,56,_),(10,57,_),(11,58,_),(13,60,_),(14,61,_)] [(15,1)] [] [⟨12,59,some 13,P1 (LN y)⟩] []
     ·exact oc (g_fd (fdD1 _))<|oc (g_lc 2 1 lSN)<|oc (g_ld 0 Tryz.underlying26 Z0)<|oc g_mv<|oc g_mv<|oc (g_ix hXa.out)<|oc (g_lf hRa.out hga' uN iN)<|oc g_mv<|oc g_mv<|oc (g_ix hXb.out)<|oc (g_lf hRb.out hgb' uN iN)<|oc (g_cl Yg hP.out)<|oc (g_bR 0 (P1 (LN y)) [0] [NV y] (LN y) (bsN1 _) (fun u hu=>P1.new _ _ u))<|oc (g_pI 3 0 (P1 (LN y)) (xs:=flN (ns.take j)) (ys:=zs.take 4) (zs:=zs.drop 4) (news:=LN y) Tryz.underlying27 hti P1.at LN_one hsz.symm (by rw[hsz];omega) (by rw[List.length_take];simp;omega) hrm)<|oc (g_fd (fdD1 _))<|oc (g_sw 2 1 sSN rfl rfl) on
     intro u7 v7_12 hv7_12 HB7 sz7 K7
     simp only[sQ] at K7⊢
     clear K6 HB6
     go_upto_region 10 with fail
     apply Rp K7 HB7 [] [] [(0,45,_),(1,46,_),(2,11,_)] [(2,0)] [(2,11)] []
     ·exact oc g_mv<|oc (g_bn (fun uZ=>Yr _ _ (j:Int) 1 ((j+1:Nat):Int) uZ (by omega) (by omega) (by omega)))<|oc g_as on
     intro u8 HB8 sz8 K8
     simp only[sQ] at K8⊢
     clear K7 HB7
     go_wp2
     refine⟨⟨j+1,by omega,rfl,HB8,.inr ⟨b5,c5,zs.drop 4,hrm,(by rw[List.length_drop];omega),(by rw[hy.out];exact K8)⟩⟩,?_⟩
     simp[intOf]<;>omega
    ·have ec:j=c5:=by omega
     subst ec
     go_upto_region 9 with fail
     apply Rn Kr HBr [(0,41,_),(1,42,_),(2,43,_),(3,44,_)]
     ·exact oc g_mv<|oc g_mv<|oc (g_ln Tryz.underlying27)<|oc (g_bn (fun uZ=>Zy _ _ (j:Int) (ss.length:Int) _ uZ hl)) on
     intro u6 HB6 sz6 K6
     simp only[sQ] at K6⊢
     have hw9:=HB6.size
     go_upto_region 11 with fail
     refine rgZ 15 1 (PZD b4_2 dl u6.heap.size ti.size (j+1) (flN (ns.take j)++LN y)) K6 HB6 HB6.size [.no,.no,.all 15 ([.int .i64 dl])] [] [(0,47,.pointer (some ⟨b4_2,1,none⟩)),(1,48,.slice (some ⟨b5,0,none⟩) j j),(2,49,GX p q g h),(3,50,.slice sa ss.length ca),(4,51,.int .i64 (j:Int)),(5,52,.pointer (some ⟨ga,oa+4*j,none⟩)),(6,53,NV s),(7,54,.slice sb ts.length cb),(8,55,.int .i64 (j:Int)),(9,56,.pointer (some ⟨gb,ob+4*j,none⟩)),(10,57,NV t),(11,58,NV y),(14,61,.pointer (some ⟨b4_2,1,none⟩))] [(15,1)] [] [⟨12,59,some 13,P1 (LN y)⟩,⟨13,60,some 15,PG u6.heap.size ti.size (j+1) (flN (ns.take j)++LN y)⟩] [⟨12,59,some 13,P1 (LN y)⟩,⟨13,60,none,PZD b4_2 dl u6.heap.size ti.size (j+1) (flN (ns.take j)++LN y)⟩] [true,true,true,false] (.cons (fun _ _ _ h1 h2=>h2.stab h1)<| .cons (fun _ _ _ h1 h2=>h2.stab h1)<|Stab.nil) rfl rfl rfl rfl (by kernel_rfl) ?_ ?_ ?_
     ·exact oc (g_fd (fdD1 _))<|oc (g_lc 2 1 lSN)<|oc (g_ld 0 Tryz.underlying26 Z0)<|oc g_mv<|oc g_mv<|oc (g_ix hXa.out)<|oc (g_lf hRa.out hga' uN iN)<|oc g_mv<|oc g_mv<|oc (g_ix hXb.out)<|oc (g_lf hRb.out hgb' uN iN)<|oc (g_cl Yg hP.out)<|oc (g_bR 0 (P1 (LN y)) [0] [NV y] (LN y) (bsN1 _) (fun u hu=>P1.new _ _ u))<|oc (g_pG 0 1 (P1 (LN y)) (n:=j) (xs:=flN (ns.take j)) (news:=LN y) Tryz.underlying27 hti hzv (by rw[hsz];rfl) P1.at hsz.symm (fun f u kZ=>⟨by rw[hsz];omega,.inr ⟨b5,rfl,(KC.cv kZ 3).pre2⟩⟩) (by rw[hby];omega) (by omega))<|oc (g_fd (fdD1 _)) on
     ·exact(st_last 2 1 1 (PG u6.heap.size ti.size (j+1) (flN (ns.take j)++LN y)) (PZD b4_2 dl u6.heap.size ti.size (j+1) (flN (ns.take j)++LN y)) st_pg (fun u v _ _ hb hc hv=>st_pz hb hc hv) rfl rfl)
     intro u7 v7_12 hv7_12 v7_13 hv7_13 HB7 sz7 K7
     simp only[sQ] at K7⊢
     clear HB6
     obtain⟨⟨b6,c6,zs6,rfl,ho1,ho2,hc6,hz6,hoC⟩,hdC⟩:=hv7_13 rfl
     have K7xrow6:=Bk.moreT K6 K7 (by omega) ho1 ho2 hoC (by intro x hx;first | (simp at hx;done) | (simp at hx⊢;omega))
     simp only[aK] at K7xrow6
     clear K7
     rw[hsz] at hz6
     have Kz:=Bk.setC 2 (DE dl (.slice (some ⟨b6,0,none⟩) (j+1) c6)) K7xrow6 rfl hdC
     simp only[List.set_cons_succ,List.set_cons_zero] at Kz
     clear K7xrow6 K6
     go_upto_region 10 with fail
     apply Rp Kz HB7 [] [] [(0,45,_),(1,46,_),(2,11,_)] [(2,0)] [(2,11)] []
     ·exact oc g_mv<|oc (g_bn (fun uZ=>Yr _ _ (j:Int) 1 ((j+1:Nat):Int) uZ (by omega) (by omega) (by omega)))<|oc g_as on
     intro u8 HB8 sz8 K8
     simp only[sQ] at K8⊢
     clear HB7
     go_wp2
     refine⟨⟨j+1,by omega,rfl,HB8,.inr ⟨b6,c6,zs6,hc6,hz6,(by rw[hy.out];exact K8)⟩⟩,?_⟩
     simp[intOf]<;>omega
  ·have hl:decide ((j:Int)<(ss.length:Int))=false:=by simp;omega
   have hjn:j=ns.length:=by omega
   rcases hrow with⟨hj0,Kr⟩ | ⟨b5,c5,zs,hjc,hzl,Kr⟩
   ·omega
   go_upto_region 9 with fail
   apply Rn Kr HBr [(0,41,_),(1,42,_),(2,43,_),(3,44,_)]
   ·exact oc g_mv<|oc g_mv<|oc (g_ln Tryz.underlying27)<|oc (g_bn (fun uZ=>Zy _ _ (j:Int) (ss.length:Int) _ uZ hl)) on
   intro u6 HB6 sz6 K6
   simp only[sQ] at K6⊢
   go_upto_region 12 with fail
   apply Rp K6 HB6 [.no,.all 1 (DE dl (.slice (some ⟨b5,0,none⟩) j c5))] [] [(0,62,_),(2,9,_)] [] [] []
   ·exact oc (g_ld 2 Tryz.underlying30 Z5)<|oc (g_st 1 Z5)<|oc g_as on
   intro u7 HB7 sz7 K7
   simp only[sQ] at K7⊢
   clear K6 HB6
   have c8_0:=((K7.cv 1) 0 _ rfl).1
   have c8_1:=((K7.cv 1) 1 _ rfl).1
   go_wp2
   refine bodyPost_ret (v:= .tuple #[DX dl (.slice (some ⟨b5,0,none⟩) j c5),.int .i64 0]) (by simp[results,Tryz.results11,go_sem,c8_0,c8_1]) rfl ⟨_,rfl,dl_row (K7.lt 3) (K7.cv 3) hjn hjc,HB7⟩
theorem NL.nil(u:World):NL u (.slice none 0 0) []:=⟨none,0,0,0,rfl,Nat.le_refl _,fun _=>rfl,.inl rfl,.inl rfl,fun j v hj=>by simp[flN] at hj⟩
theorem xDeal(p q g h d:Int)(ss ts:List Int)(v v2:Value)(w:World)(hp:In p)(hq:In q)(hg:In g)(hh:In h)(hv:NL w v ss)(hv2:NL w v2 ts)(hs: ∀z∈ss,In z)(ht: ∀z∈ts,In z):Calls Tryz.prog 11 #[GX p q g h,.int .i64 d,v,v2] w fun e u=> ∃y,e= .returned (.tuple #[DX (dlD p q g h d ss ts) y,.int .i64 (dlE p q g h d ss ts)])/\NL u y (dlC p q g h d ss ts)/\Bw w u:=by
 obtain⟨sa,ga,oa,ca,rfl,a2,a3,a4,a5,a6⟩:=hv
 obtain⟨sb,gb,ob,cb,rfl,b2,b3,b4,b5,b6⟩:=hv2
 have hC:=fun u=>xCheckG p q g h u hp hq
 have hS:=fun u=>xShaped sa sb ss.length ts.length ca cb u
 have hN:=fun u=>xNode d u
 have hI:=fun u=>xIs p q g h g u hp hq hg
 have hJ:=fun u=>xIs p q g h h u hp hq hh
 unfold chE at hC
 have no: ∀(c:Int),c≠0->dlE p q g h d ss ts=c->(CC 11 #[GX p q g h,.int .i64 d,.slice sa ss.length ca,.slice sb ts.length cb] w (.tuple #[DZ,.int .i64 c]))->Calls Tryz.prog 11 #[GX p q g h,.int .i64 d,.slice sa ss.length ca,.slice sb ts.length cb] w fun e u=> ∃y,e= .returned (.tuple #[DX (dlD p q g h d ss ts) y,.int .i64 (dlE p q g h d ss ts)])/\NL u y (dlC p q g h d ss ts)/\Bw w u:=by
  intro c hc e hk
  refine hk.mono ?_
  rintro e' u ⟨rfl,hB⟩
  rw[dlD,dlC,e,if_neg hc,if_neg hc]
  exact⟨_,rfl,NL.nil u,hB⟩
 by_cases c1:gOk p q
 ·simp only[if_pos c1] at hC
  by_cases c2:ndB d=true
  ·rw[c2] at hN
   by_cases c3:shB ss.length ts.length=true
   ·rw[c3] at hS
    by_cases c4:isB p q g=true
    ·rw[c4] at hI
     by_cases c5:isB p q h=true
     ·rw[c5] at hJ
      have e0:dlE p q g h d ss ts=0:=by simp[dlE,c1,c2,c3,c4,c5]
      rw[dlD,dlC,e0,if_pos rfl,if_pos rfl]
      have hb:=shB_iff.1 c3
      have hq3:=c1.q3
      have hp7:=c1.2
      refine xdl_k p q g h d sa sb ca cb ga oa gb ob ss ts (cmS p q g h ss ts) w hC hN hS hI hJ (fun j hj u=>?_) (NL.ix (u:=w) a4) a5 a6 (NL.ix (u:=w) b4) b5 b6 (Va _ _ _ _ _ _) (by omega) (by omega) (by omega)
      have e:(cmS p q g h ss ts).getD j 0=g^((ss.getD j 0)%q).toNat%p*(h^((ts.getD j 0)%q).toNat%p)%p:=by
       rw[cmS,Vu hj,coX_is c4 c5]
      rw[e]
      exact xPair p q g h _ _ u hp hq hg hh (Yn hs j hj) (Yn ht j (by omega)) (by omega) (by omega)
     ·rw[Bool.not_eq_true] at c5
      rw[c5] at hJ
      exact no 90 (by decide) (by simp[dlE,c1,c2,c3,c4,c5]) (xdl_h p q g h d sa sb ca cb ss ts w hC hN hS hI hJ)
    ·rw[Bool.not_eq_true] at c4
     rw[c4] at hI
     exact no 90 (by decide) (by simp[dlE,c1,c2,c3,c4]) (xdl_g p q g h d sa sb ca cb ss ts w hC hN hS hI)
   ·rw[Bool.not_eq_true] at c3
    rw[c3] at hS
    exact no 110 (by decide) (by simp[dlE,c1,c2,c3]) (xdl_s p q g h d sa sb ca cb ss ts w hC hN hS)
  ·rw[Bool.not_eq_true] at c2
   rw[c2] at hN
   exact no 110 (by decide) (by simp[dlE,c1,c2]) (xdl_n p q g h d sa sb ca cb ss ts w hC hN)
 ·simp only[if_neg c1] at hC
  exact no 90 (by decide) (by simp[dlE,c1]) (xdl_c p q g h d sa sb ca cb ss ts w hC)
section
section
variable {R:Rg} {P:Program} {ops:Array Oper} {Q:Exit->Act->World->Prop} {i:Nat} {o:Oper}
theorem g_cD4(m m2 n:Nat)(p p2 p':World->Value->Prop){N:FuncId}{j d j2 d2:Nat}{x x2:Operand}{vx vx2:Value}{tys:Array TypeId}(hr: ∀(vs:Array Value) (w:World),(callFunc N vs).run P w= .ok (.enter N vs) w)
 (hcall: ∀(u:World) (y z:Value),Below R.lo R.w u->R.base<=u.heap.size->p u y->p2 u z->Calls P N #[vx,vx2,y,z] u fun e u'=> ∃v,e= .returned v/\p' u' v/\Bw u u')(hop:o.op= .call {callee:= .value (.func N),args:=[x,x2,.tmp d,.tmp d2].toArray,argTypes:=tys}:=by rfl)(hx:evR R i o x=some vx:=by rfl)(hx2:evR R i o x2=some vx2:=by rfl)(hm:R.E[m]?=some ⟨j,d,some i,p⟩:=by rfl)(hm2:R.E[m2]?=some ⟨j2,d2,some i,p2⟩:=by rfl)(hd:(Zo o j&&R.S.contains d&&(Zo o j2&&R.S.contains d2))=true:=by rfl)(hn:(R.E[n]?).map (·.p)=some p':=by rfl)(hc:R.chkE ops n i o=true:=by rfl):OG R P ops Q i o:=fun f t u a X=>by
 simp only[Bool.and_eq_true,List.contains_iff_mem] at hd
 obtain⟨⟨h2,h4⟩,h5,h6⟩:=hd
 obtain⟨d',q,hd',hq,_,_,_,_,_,_,_,_,hw⟩:=Zp hc
 have e1:p u (t d):=X.val hm h2 rfl
 have e2:p2 u (t d2):=X.val hm2 h5 rfl
 exact X.go hw fun K hK=>wp_callP (vs:=[vx,vx2,t d,t d2]) hop (by rw[List.map_cons,List.map_cons,List.map_cons,List.map_cons,List.map_nil,X.ev hx,X.ev hx2,X.inS h4,X.inS h6]) hr (hcall u (t d) (t d2) X.I.1.bel X.I.1.sz e1 e2) fun v w' h1 hB=>hK _ _ (X.putE hc (fun q hq=>by rw[hq] at hn;cases hn;exact h1) hB)
theorem g_cW4(m m2:Nat)(p p2:World->Value->Prop){N:FuncId}{j d j2 d2:Nat}{x x2:Operand}{vx vx2 v:Value}{tys:Array TypeId}(hr: ∀(vs:Array Value) (w:World),(callFunc N vs).run P w= .ok (.enter N vs) w)
 (hcall: ∀(u:World) (y z:Value),Below R.lo R.w u->p u y->p2 u z->Calls P N #[vx,vx2,y,z] u fun e u'=>e= .returned v/\Bw u u')(hop:o.op= .call {callee:= .value (.func N),args:=[x,x2,.tmp d,.tmp d2].toArray,argTypes:=tys}:=by rfl)(hx:evR R i o x=some vx:=by rfl)(hx2:evR R i o x2=some vx2:=by rfl)(hm:R.E[m]?=some ⟨j,d,some i,p⟩:=by rfl)(hm2:R.E[m2]?=some ⟨j2,d2,some i,p2⟩:=by rfl)(hd:(Zo o j&&R.S.contains d&&(Zo o j2&&R.S.contains d2))=true:=by rfl)(hv:some v=Ya i R.G:=by rfl)(hc:R.chk ops i o=true:=by rfl):OG R P ops Q i o:=fun f t u a X=>by
 simp only[Bool.and_eq_true,List.contains_iff_mem] at hd
 obtain⟨⟨h2,h4⟩,h5,h6⟩:=hd
 have e1:p u (t d):=X.val hm h2 rfl
 have e2:p2 u (t d2):=X.val hm2 h5 rfl
 exact X.go (Yl hc).choose_spec.2.2.2.2.2.2.2 fun K hK=>Xu (vs:=[vx,vx2,t d,t d2]) hop (by rw[List.map_cons,List.map_cons,List.map_cons,List.map_cons,List.map_nil,X.ev hx,X.ev hx2,X.inS h4,X.inS h6]) hr (hcall u (t d) (t d2) X.I.1.bel e1 e2) fun w' hB=>hK _ _ (X.put hv hc (X.I.1.call hB) (X.I.2.1.below hB X.I.1.sz) hB)
end
end
section
def EK(i:Nat)(o:Oper)(kp:(World->Value->Prop)->Prop):List En->Prop
 | []=>True
 | q::r=>(eGone [] i o q=true\/(q.i≠i/\kp q.p))/\EK i o kp r
theorem Es.keep{f:Nat->Bool}{t:Nat->Value}{u u':World}{i:Nat}{o:Oper}(dep: ∀e∈o.after,Region.binds .any e=true->f e.on=true): ∀{E:List En},EK i o (fun p=> ∀x,p u x->p u' x) E->Es f t u E->Es (updF f i) t u' E
 | [],_,_=>trivial
 | q::r,hk,h=>by
  refine⟨?_,Es.keep dep hk.2 h.2⟩
  rcases hk.1 with hk | ⟨hne,hk⟩
  ·exact(Es.gone (O:=[]) (t:=t) (v:=u') (E:=[q]) (fun j hj=>by simp at hj) dep (by rw[List.all_cons,hk];rfl)).1
  ·intro g1 g2
   rw[Zu hne] at g1
   refine hk _ (h.1 g1 fun c hc=>?_)
   have:=g2 c hc
   by_cases e:c=i
   ·subst e;rw[Yy] at this;cases this
   ·rwa [Zu e] at this
section
variable {R:Rg} {P:Program} {ops:Array Oper} {Q:Exit->Act->World->Prop} {i:Nat} {o:Oper}
theorem st_bx(m1 m2:Nat)(p0 pv pz:World->Value->Prop){T:TypeId}{i1 d1 i2 d2:Nat}(hr: ∀(u:World) (vb v:Value),p0 u vb->pv u v-> ∃u',(Instr.storeAt T vb v).run P u= .ok () u'/\(∀m w,m<=R.base->Below m w u->Below m w u')/\u'.heap.size=u.heap.size/\pz u' vb/\EK i o (fun p=> ∀x,p u x->p u' x) R.E)
 (hop:o.op= .store T (.tmp d1) (.tmp d2):=by rfl)(hm1:R.E[m1]?=some ⟨i1,d1,some i,p0⟩:=by rfl)(hm2:R.E[m2]?=some ⟨i2,d2,some i,pv⟩:=by rfl)(hd:(Zo o i1&&R.S.contains d1&&(Zo o i2&&R.S.contains d2))=true:=by rfl)(hnw:R.nw=[]:=by rfl)(hes:(R.es.all fun q=>q.2.2.2.free i)=true:=by rfl)
 (hc:({R with E:=[]}:Rg).chkS ops i o=true:=by rfl): ∀f t u a,Xs R ops f t u a i o->wpOp P ops Q i (fun a' u'=> ∃t',Fr R.fr R.S a' t'/\Inv R (updF f i) t' u'/\pz u' (t' d1)) a u:=fun f t u a X=>by
 simp only[Bool.and_eq_true,List.contains_iff_mem] at hd
 obtain⟨⟨h2,h4⟩,h5,h6⟩:=hd
 have e1:p0 u (t d1):=X.val hm1 h2 rfl
 have e2:pv u (t d2):=X.val hm2 h5 rfl
 obtain⟨u',r,hBB,hsz,hz,hE⟩:=hr u _ _ e1 e2
 obtain⟨hdst,s1,⟨s5,_⟩,s7⟩:=X2 hc
 have s1:lacks i R.G=true:=s1
 have s5:R.okO i o=true:=s5
 have s7:Wv R ops o=some true:=s7
 refine X.go s7 fun K hK=>wp_store hop (X.inS h4) (X.inS h6) r (hK _ _ ?_)
 have hM:=X.I.1
 refine⟨t,by rw[hdst];exact X.F,⟨?_,?_,Gs.idle s1 X.I.2.2.1,Yu s5 X.I.2.2.2.1 X.dep,Ns.idle X.I.2.2.2.2.1,Es.keep X.dep hE X.I.2.2.2.2.2⟩,hz⟩
 ·rw[hnw] at hM⊢
  exact{bel:=hBB _ _ hM.lo hM.bel,lo:=hM.lo,sz:=by rw[hsz];exact hM.sz,ks:=trivial,ex:=trivial,nw:=trivial,nd:=hM.nd}
 ·exact(X.I.2.1.below (hBB _ _ (Nat.le_refl _) (Below.refl _ u)) (Nat.le_refl _)).free hes
theorem g_aP(n:Nat)(p:World->Value->Prop){T:TypeId}{pre:List Value}(hr: ∀w,(Instr.alloc T true (.tuple #[])).run P w= .ok (.pointer (some ⟨w.heap.size,0,none⟩)) (w.alloc (.cells pre.toArray T)))(hp: ∀u:World,R.base<=u.heap.size->p (u.alloc (.cells pre.toArray T)) (.pointer (some ⟨u.heap.size,0,none⟩)))(hop:o.op= .alloc T:=by rfl)(hn:(R.E[n]?).map (·.p)=some p:=by rfl)(hc:R.chkE ops n i o=true:=by rfl):OG R P ops Q i o:=fun f t u a X=>by
 obtain⟨d,q,hd,hq,_,_,_,_,_,_,_,_,hw⟩:=Zp hc
 exact X.go hw fun K hK=>wp_alloc hop (hr u) (hK _ _ (X.putE hc (fun q hq=>by rw[hq] at hn;cases hn;exact hp u X.I.1.sz) (Z1 (Zv u) _)))
end
def PBz(lo:Nat)(u:World)(v:Value):Prop:= ∃b,v= .pointer (some ⟨b,0,none⟩)/\lo<=b/\b<u.heap.size/\CV u b L0d/\ ∀k x,u.cell? ⟨b,k,none⟩≠some (.int .u64 x)
theorem PBz.stab{lo:Nat}{u u2:World}{x:Value}(hB:Bw u u2)(h:PBz lo u x):PBz lo u2 x:=by
 obtain⟨b,e,h1,h2,h3,h4⟩:=h
 exact⟨b,e,h1,Nat.lt_of_lt_of_le h2 hB.size,h3.below hB h2,fun k x=>by rw[hB.cell (p:=⟨b,k,none⟩) h2];exact h4 k x⟩
theorem PBz.new{lo:Nat}(u:World)(h:lo<=u.heap.size):PBz lo (u.alloc (.cells L0d.toArray 30)) (.pointer (some ⟨u.heap.size,0,none⟩)):=by
 refine⟨_,rfl,h,by simp,CV.new u _ _,fun k x=>?_⟩
 rcases k with _ | _ | k
 ·rw[(CV.new u L0d 30 0 _ rfl).1];simp
 ·rw[(CV.new u L0d 30 1 _ rfl).1];simp
 ·have e:(u.alloc (.cells L0d.toArray 30)).heap[u.heap.size]?=some (.cells L0d.toArray 30):=by show (u.heap.push _)[u.heap.size]?=_;simp
  unfold World.cell?
  simp only[e]
  simp
def PTz(d e:Int)(ns:List Int)(u:World)(v:Value):Prop:= ∃y,v= .tuple #[DX d y,.int .i64 e]/\NL u y ns
theorem PTz.stab{d e:Int}{ns:List Int}{u u2:World}{x:Value}(hB:Bw u u2)(h:PTz d e ns u x):PTz d e ns u2 x:=by
 obtain⟨y,e,h⟩:=h
 exact⟨y,e,NL.up h hB⟩
def PVz(d:Int)(ns:List Int)(u:World)(v:Value):Prop:= ∃y,v=DX d y/\NL u y ns
theorem PVz.stab{d:Int}{ns:List Int}{u u2:World}{x:Value}(hB:Bw u u2)(h:PVz d ns u x):PVz d ns u2 x:=by
 obtain⟨y,e,h⟩:=h
 exact⟨y,e,NL.up h hB⟩
def PDz(lo:Nat)(d:Int)(ns:List Int)(u:World)(v:Value):Prop:= ∃b y,v= .pointer (some ⟨b,0,none⟩)/\lo<=b/\b<u.heap.size/\CV u b (DE d y)/\NL u y ns
def PNv(ns:List Int)(u:World)(v:Value):Prop:=NL u v ns
theorem PNv.stab{ns:List Int}{u u2:World}{x:Value}(hB:Bw u u2)(h:PNv ns u x):PNv ns u2 x:=NL.up h hB
theorem sep_N{u:World}{b:Nat}{v0 v1 y:Value}{ns:List Int}(hb: ∀k x,u.cell? ⟨b,k,none⟩≠some (.int .u64 x))(h:NL u y ns):NL ((u.setCell ⟨b,0,none⟩ v0).setCell ⟨b,1,none⟩ v1) y ns:=by
 refine set2_N h ?_
 obtain⟨sl,gb,go,cap,rfl,h2,h3,h4,h5,h6⟩:=h
 intro sl' gb' go' cap' e1 e2 hne
 cases e1
 cases e2
 have e3:=h4.resolve_left hne
 cases e3
 intro e
 subst e
 cases ns with
 | nil=>exact hne rfl
 | cons a r=>exact hb _ _ (h6 0 (.int .u64 (D0 a)) (by simp[flN]))
theorem stDl{b:Nat}{d d0:Int}{sl s0:Option Addr}{n c n0 c0:Nat}(u:World)(h:CV u b [.int .i64 d0,.slice s0 n0 c0]):(Instr.storeAt 30 (.pointer (some ⟨b,0,none⟩)) (DX d (.slice sl n c))).run Tryz.prog u= .ok () ((u.setCell ⟨b,0,none⟩ (.int .i64 d)).setCell ⟨b,1,none⟩ (.slice sl n c)):=by
 have z0:=(h 0 _ rfl).1
 have zf0:=(h 0 _ rfl).2
 have z1:=(h 1 _ rfl).1
 have zf1:=(h 1 _ rfl).2
 go_simp
theorem st_dl{lo:Nat}{d:Int}{ns:List Int}(u:World)(vb v:Value)(hb:PBz lo u vb)(hv:PVz d ns u v): ∃u',(Instr.storeAt 30 vb v).run Tryz.prog u= .ok () u'/\(∀m w,m<=lo->Below m w u->Below m w u')/\u'.heap.size=u.heap.size/\PDz lo d ns u' vb/\(∀y ms,NL u y ms->NL u' y ms):=by
 obtain⟨b,rfl,h1,h2,h3,h4⟩:=hb
 obtain⟨y,rfl,hy⟩:=hv
 have hy':=hy
 obtain⟨sl,gb,go,cap,rfl,_⟩:=hy
 exact⟨_,stDl u h3,fun m w hm hB=>set2_B hB (Nat.le_trans hm h1),by simp,⟨b,_,rfl,h1,by simpa using h2,set2_K h3,sep_N h4 hy'⟩,fun y ms h=>sep_N h4 h⟩
end
section
section
variable {P:Program} {ops:Array Oper} {Q:Exit->Act->World->Prop}
def OT(R:Rg)(P:Program)(ops:Array Oper)(Q:Exit->Act->World->Prop)(d:Nat)(pz:World->Value->Prop)(i:Nat)(oi:Oper):Prop:= ∀f t u a,Xs R ops f t u a i oi->wpOp P ops Q i (fun a' u'=> ∃t',Fr R.fr R.S a' t'/\Inv R (updF f i) t' u'/\(pz u (t d)->pz u' (t' d))) a u
def OZ(R:Rg)(P:Program)(ops:Array Oper)(Q:Exit->Act->World->Prop)(d:Nat)(pz:World->Value->Prop)(i:Nat)(oi:Oper):Prop:= ∀f t u a,Xs R ops f t u a i oi->wpOp P ops Q i (fun a' u'=> ∃t',Fr R.fr R.S a' t'/\Inv R (updF f i) t' u'/\pz u' (t' d)) a u
def OY(R:Rg)(P:Program)(ops:Array Oper)(Q:Exit->Act->World->Prop)(o:Oper)(n d:Nat)(pz:World->Value->Prop)(i:Nat)(oi:Oper):Prop:=(i=n/\oi=o/\OZ R P ops Q d pz i oi)\/(i≠n/\((Zo o i=true/\OG R P ops Q i oi)\/OT R P ops Q d pz i oi))
def OYs(R:Rg)(P:Program)(ops:Array Oper)(Q:Exit->Act->World->Prop)(o:Oper)(n d:Nat)(pz:World->Value->Prop):Nat->List Oper->Prop
 | _,[]=>True
 | i,oi::r=>OY R P ops Q o n d pz i oi/\OYs R P ops Q o n d pz (i+1) r
theorem OYs.get{R:Rg}{o:Oper}{n d:Nat}{pz:World->Value->Prop}: ∀{l:List Oper} {k j:Nat} {oi:Oper},OYs R P ops Q o n d pz k l->l[j]?=some oi->OY R P ops Q o n d pz (k+j) oi
 | [],_,_,_,_,h=>by simp at h
 | x::r,k,0,oi,h,e=>by simp at e;subst e;exact h.1
 | x::r,k,j+1,oi,h,e=>by
  simp at e
  have:=OYs.get h.2 e
  rwa [show k+1+j=k+(j+1) by omega] at this
variable {R:Rg} {o oi:Oper} {n d i:Nat} {pz:World->Value->Prop} {l:List Oper}
theorem yc(t:OG R P ops Q i oi)(r:OYs R P ops Q o n d pz (i+1) l)(h:Zo o i=true:=by rfl)(hn:(i !=n)=true:=by rfl):OYs R P ops Q o n d pz i (oi::l):=⟨.inr ⟨by simpa using hn,.inl ⟨h,t⟩⟩,r⟩
theorem yt(t:OT R P ops Q d pz i oi)(r:OYs R P ops Q o n d pz (i+1) l)(hn:(i !=n)=true:=by rfl):OYs R P ops Q o n d pz i (oi::l):=⟨.inr ⟨by simpa using hn,.inr t⟩,r⟩
theorem yz(t:OZ R P ops Q d pz i oi)(r:OYs R P ops Q oi i d pz (i+1) l):OYs R P ops Q oi i d pz i (oi::l):=⟨.inl ⟨rfl,rfl,t⟩,r⟩
theorem yn:OYs R P ops Q o n d pz i []:=trivial
theorem y_step(h:OY R P ops Q o n d pz i oi){f:Nat->Bool}{t:Nat->Value}{u:World}{a:Act}(X:Xs R ops f t u a i oi)(hI2:f n=true->pz u (t d)/\ ∀k,Zo o k=true->f k=true):
 wpOp P ops Q i (fun a' u'=> ∃t',Fr R.fr R.S a' t'/\Inv R (updF f i) t' u'/\(updF f i n=true->pz u' (t' d)/\ ∀k,Zo o k=true->updF f i k=true)) a u:=by
 have up: ∀k,f k=true->updF f i k=true:=fun k hk=>by
  by_cases e:k=i
  ·subst e;rw[Yy]
  ·rw[Zu e];exact hk
 rcases h with⟨e,e2,h⟩ | ⟨e,⟨h,hg⟩ | h⟩
 ·subst e
  subst e2
  refine wpOp_mono (fun a' u' h=>?_) (h f t u a X)
  obtain⟨t',h1,h2,h3⟩:=h
  exact⟨t',h1,h2,fun _=>⟨h3,fun k hk=>up k (Y8 hk X.dep)⟩⟩
 ·have hfn:f n=false:=by
   cases hf:f n
   ·rfl
   ·have:=(hI2 hf).2 i h;rw[X.fi] at this;cases this
  refine wpOp_mono (fun a' u' h=>?_) (hg f t u a X)
  obtain⟨t',h1,h2⟩:=h
  exact⟨t',h1,h2,fun e3=>by rw[Zu (fun e4=>e e4.symm),hfn] at e3;cases e3⟩
 ·refine wpOp_mono (fun a' u' h=>?_) (h f t u a X)
  obtain⟨t',h1,h2,h3⟩:=h
  refine⟨t',h1,h2,fun e3=>?_⟩
  rw[Zu (fun e4=>e e4.symm)] at e3
  exact⟨h3 (hI2 e3).1,fun k hk=>up k ((hI2 e3).2 k hk)⟩
end
section
variable {P:Program} {ops:Array Oper} {Q:Exit->Act->World->Prop} {id:Nat} {w0 w:World} {fr:List Value} {lo:Nat} {ks:List Blk}
theorem rgY1(n m:Nat)(pz:World->Value->Prop){o:Oper}{j d:Nat}{c:Option Nat}{p:World->Value->Prop}(K:Bk lo w0 ks)(HB:Below lo w w0)(hlo:lo<=w0.heap.size)(X:List Wr)(nw:List Nw)(G:List (Nat×Nat×Value))(O N:List (Nat×Nat))(E E2:List En)(M:List Bool)(hst:Stab E)
 (hE:E[m]?=some ⟨j,d,c,p⟩)(hE2:E2=E.set m ⟨j,d,none,pz⟩)(hn:ops[n]?=some o)
 (hops:OYs (mkR fr lo w w0.heap.size ks X nw G O N E) P ops Q o n d pz 0 ops.toList)
 (hend: ∀u',AllNew nw fun bs=>AllE u' E2 fun vs=>Below lo w u'->w0.heap.size<=u'.heap.size->Bk lo u' (pM M (aK (fX ks X) (nK bs nw)))->Q .normal ⟨(setE (setN (setG fr G) bs nw) vs E2).toArray,[]⟩ u')
 (hm:P.follows .mixedOrders=true:=by kernel_rfl)(hb:Wo .any ops=true:=by kernel_rfl)(hok:(mkR fr lo w w0.heap.size ks X nw G O N E).ok=true:=by kernel_rfl)(hfit:fits ops.size X nw G E2=true:=by kernel_rfl):(Code.region id ops true).wp P Q ⟨fr.toArray,[]⟩ w0:=by
 have hKd:KA lo w0.drew ks:=by
  have:=K.a
  revert this
  clear hend hops K hok
  induction ks with
  | nil=>intro _;trivial
  | cons q r ih=>exact fun h=>⟨⟨h.1.1,h.1.2.1,h.1.2.2.drew⟩,ih h.2⟩
 have hmap: ∀(E:List En) (m:Nat),E[m]?=some ⟨j,d,c,p⟩->(E.set m ⟨j,d,none,pz⟩).map (·.d)=E.map (·.d):=by
  intro E
  induction E with
  | nil=>intro m h;simp at h
  | cons x r ih=>
   intro m h
   cases m with
   | zero=>simp at h;subst h;rfl
   | succ m=>simp at h;simp[ih m h]
 have hS:(mkR fr lo w w0.heap.size ks X nw G O N E2).S=(mkR fr lo w w0.heap.size ks X nw G O N E).S:=by
  show G.map (·.2.1)++(nw.map (·.2.1)++E2.map (·.d))=G.map (·.2.1)++(nw.map (·.2.1)++E.map (·.d))
  rw[hE2,hmap E m hE]
 refine Wx (mkR fr lo w w0.heap.size ks X nw G O N E).S (fun f t u=>Inv (mkR fr lo w w0.heap.size ks X nw G O N E) f t u/\(f n=true->pz u (t d)/\ ∀k,Zo o k=true->f k=true)) hm hb ⟨Inv.start HB.drew rfl hKd hlo X nw G O N E,fun e=>by cases e⟩ ?_ ?_
 ·rintro f t u i oi a hF ⟨hI,hI2⟩ ho hfi hdep
  have hg:=hops.get (j:=i) (oi:=oi) (by rw[Array.getElem?_toList];exact ho)
  rw[Nat.zero_add] at hg
  exact y_step hg ⟨hok,by show ((U5 ks X).map (·.2.1)).Nodup;rw[Xg];exact K.n,hst,hF,hI,ho,hfi,hdep⟩ hI2
 ·rintro f t u ⟨hI,hI2⟩ hall
  have h2:=hI2 (hall n (Array.getElem?_eq_some_iff.1 hn).1)
  have hI3:Inv (mkR fr lo w w0.heap.size ks X nw G O N E2) f t u:=by
   obtain⟨a1,a2,a3,a4,a5,a6⟩:=hI
   refine⟨a1,a2,a3,a4,a5,?_⟩
   show Es f t u E2
   rw[hE2]
   exact Es.set a6 fun _ _=>h2.1
  have:=hI3.end hall hfit K.n hend
  rw[hS] at this
  exact this
theorem rgY0(n m:Nat)(pz:World->Value->Prop){o:Oper}{j d:Nat}{c:Option Nat}{p:World->Value->Prop}(K:Bk lo w0 ks)(HB:Below lo w w0)(hlo:lo<=w0.heap.size)(X:List Wr)(nw:List Nw)(G:List (Nat×Nat×Value))(O N:List (Nat×Nat))(E E2:List En)(M:List Bool)(hst:Stab E)
 (hE:E[m]?=some ⟨j,d,c,p⟩)(hE2:E2=E.set m ⟨j,d,none,pz⟩)(hn:ops[n]?=some o)
 (hops:OYs (mkR fr lo w w0.heap.size ks X nw G O N E) P ops Q o n d pz 0 ops.toList)
 (hend: ∀u',AllNew nw fun bs=>AllE u' E2 fun vs=>Below lo w u'->w0.heap.size<=u'.heap.size->Bk lo u' (pM M (aK (fX ks X) (nK bs nw)))->Q .normal ⟨(setE (setN (setG fr G) bs nw) vs E2).toArray,[]⟩ u')
 (hb:Wo .any ops=true:=by kernel_rfl)(hok:(mkR fr lo w w0.heap.size ks X nw G O N E).ok=true:=by kernel_rfl)(hfit:fits ops.size X nw G E2=true:=by kernel_rfl):(Code.region id ops false).wp P Q ⟨fr.toArray,[]⟩ w0:=by
 have hmap: ∀(E:List En) (m:Nat),E[m]?=some ⟨j,d,c,p⟩->(E.set m ⟨j,d,none,pz⟩).map (·.d)=E.map (·.d):=by
  intro E
  induction E with
  | nil=>intro m h;simp at h
  | cons x r ih=>
   intro m h
   cases m with
   | zero=>simp at h;subst h;rfl
   | succ m=>simp at h;simp[ih m h]
 have hS:(mkR fr lo w w0.heap.size ks X nw G O N E2).S=(mkR fr lo w w0.heap.size ks X nw G O N E).S:=by
  show G.map (·.2.1)++(nw.map (·.2.1)++E2.map (·.d))=G.map (·.2.1)++(nw.map (·.2.1)++E.map (·.d))
  rw[hE2,hmap E m hE]
 refine T7 (mkR fr lo w w0.heap.size ks X nw G O N E).S (fun f t u=>Inv (mkR fr lo w w0.heap.size ks X nw G O N E) f t u/\(f n=true->pz u (t d)/\ ∀k,Zo o k=true->f k=true)) hb ⟨Inv.start HB rfl K.a hlo X nw G O N E,fun e=>by cases e⟩ ?_ ?_
 ·rintro f t u i oi a hF ⟨hI,hI2⟩ ho hfi hdep
  have hg:=hops.get (j:=i) (oi:=oi) (by rw[Array.getElem?_toList];exact ho)
  rw[Nat.zero_add] at hg
  exact y_step hg ⟨hok,by show ((U5 ks X).map (·.2.1)).Nodup;rw[Xg];exact K.n,hst,hF,hI,ho,hfi,hdep⟩ hI2
 ·rintro f t u ⟨hI,hI2⟩ hall
  have h2:=hI2 (hall n (Array.getElem?_eq_some_iff.1 hn).1)
  have hI3:Inv (mkR fr lo w w0.heap.size ks X nw G O N E2) f t u:=by
   obtain⟨a1,a2,a3,a4,a5,a6⟩:=hI
   refine⟨a1,a2,a3,a4,a5,?_⟩
   show Es f t u E2
   rw[hE2]
   exact Es.set a6 fun _ _=>h2.1
  have:=hI3.end hall hfit K.n hend
  rw[hS] at this
  exact this
end
section
variable {R:Rg} {P:Program} {ops:Array Oper} {Q:Exit->Act->World->Prop} {i:Nat} {o:Oper}
theorem t_pure(d:Nat)(pz:World->Value->Prop){v:Value}(hv:some v=Ya i R.G)(hd:(o.dst.all (·!=d))=true)(hc:R.chk ops i o=true)(h: ∀f t u a,Xs R ops f t u a i o-> ∀K:Act->World->Prop,K (a.put o.dst v) u->Oper.wp P o a u K Q):OT R P ops Q d pz i o:=fun f t u a X=>by
 obtain⟨d',hd',h1,h2,h3,h4,h5,h6,h7⟩:=Yl hc
 rw[hd'] at hd
 have hne:d≠d':=by simp at hd;exact fun e=>hd e.symm
 refine X.go h7 fun K hK=>h f t u a X K (hK _ _ ⟨updT t d' v,by rw[hd'];exact X.F.put X.parts.1 h4 v,⟨?_,X.I.2.1.free h6,Gs.stepA X.I.2.2.1 h1 hv.symm,Yu h5 X.I.2.2.2.1 X.dep,Ns.step X.I.2.2.2.2.1 h2,Es.step (Below.refl _ _) X.st h3.2 X.I.2.2.2.2.2⟩,fun hz=>?_⟩)
 ·rw[Xx h3.1];exact X.I.1
 ·rw[updT,if_neg hne];exact hz
theorem t_as(d:Nat)(pz:World->Value->Prop){x:Operand}{v:Value}(hop:o.op= .assign x:=by rfl)(hx:evR R i o x=some v:=by rfl)(hv:some v=Ya i R.G:=by rfl)(hd:(o.dst.all (·!=d))=true:=by rfl)(hc:R.chk ops i o=true:=by rfl):OT R P ops Q d pz i o:=
 t_pure d pz hv hd hc fun f t u a X K hK=>wp_assign hop (X.ev hx) hK
theorem t_xV(dz:Nat)(pz:World->Value->Prop)(m:Nat)(p:World->Value->Prop){j d k:Nat}{c:Option Nat}{v:Value}(hp: ∀u vs,p u vs-> ∃cs,vs= .tuple cs/\cs[k]?=some v)(hop:o.op= .extract (.tmp d) k:=by rfl)(hm:R.E[m]?=some ⟨j,d,c,p⟩:=by rfl)(hcc:(c.all (· ==i))=true:=by rfl)(hd:(Zo o j&&R.S.contains d)=true:=by rfl)(hdz:(o.dst.all (·!=dz))=true:=by rfl)(hv:some v=Ya i R.G:=by rfl)(hc:R.chk ops i o=true:=by rfl):OT R P ops Q dz pz i o:=
 t_pure dz pz hv hdz hc fun f t u a X K hK=>by
  rw[Bool.and_eq_true,List.contains_iff_mem] at hd
  obtain⟨h2,h4⟩:=hd
  obtain⟨cs,e1,e2⟩:=hp u (t d) (X.val2 hm h2 hcc)
  exact Vf hop ((X.inS h4).trans e1) e2 hK
end
end
theorem ent_S1:EnT 9:=fun _ _=>by kernel_rfl
theorem ent_S2:EnT 10:=fun _ _=>by kernel_rfl
theorem ent_S3:EnT 11:=fun _ _=>by kernel_rfl
theorem ent_S4:EnT 13:=fun _ _=>by kernel_rfl
theorem ent_S5:EnT 14:=fun _ _=>by kernel_rfl
theorem ent_S6:EnT 45:=fun _ _=>by kernel_rfl
theorem same_core(d:Int)(sa sb:Option Addr)(na nb ca cb:Nat)(w:World)(hS:Hid (∀u,Bw w u->CC 45 #[.slice sa na ca,.slice sb nb cb] u (.bool true))):
 CC 14 #[DX d (.slice sa na ca),DX d (.slice sb nb cb)] w (.bool true):=by
 go_enter Tryz.func14,Tryz.ntmps14
 go_upto_region 1 with fail
 obtain⟨v0,hC,HB0,K0⟩:=bx2 w (DE d (.slice sa na ca)) 30 (DE d (.slice sb nb cb)) 30
 rw[hC]
 clear hC
 apply Rn K0 HB0 [(0,5,_),(1,6,_),(2,7,_),(3,8,_),(4,9,_),(5,10,_),(6,11,_),(7,12,_),(8,13,_),(9,14,_),(10,15,_),(11,16,_),(12,4,_)]
 ·exact oc (g_fd (fdD0 _))<|oc (g_lc 0 0 lI)<|oc (g_fd (fdD0 _))<|oc (g_lc 1 0 lI)<|oc (g_bn (fun uZ=>Tf _ _ _ d d true uZ (by simp)))<|oc g_mv<|oc (g_fd (fdD1 _))<|oc (g_lc 0 1 lSN)<|oc (g_fd (fdD1 _))<|oc (g_lc 1 1 lSN)<|oc (g_cb ent_S6 hS.out)<|oc g_pk<|oc g_as on
 intro u1 HB1 sz1 K1
 simp only[sQ] at K1⊢
 clear K0 HB0
 go_wp2
 exact bodyPost_ret (v:= .bool true) (by simp[results,Tryz.results14,go_sem]) rfl ⟨rfl,HB1⟩
abbrev SMN:Prop:= ∀(ns:List Int) (y z:Value) (u:World),NL u y ns->NL u z ns->(∀a∈ns,In a)->ns.length<=1000->CC 45 #[y,z] u (.bool true)
theorem cSame(hM:SMN)(d:Int)(ns:List Int)(y z:Value)(w:World)(hy:NL w y ns)(hz:NL w z ns)(hns: ∀a∈ns,In a)(hl:ns.length<=1000):CC 14 #[DX d y,DX d z] w (.bool true):=by
 have h1:=hy
 have h2:=hz
 obtain⟨sa,ca,rfl⟩:=lt_NL hy
 obtain⟨sb,cb,rfl⟩:=lt_NL hz
 exact same_core d sa sb _ _ ca cb w fun u hB=>hM ns _ _ u (NL.up h1 hB) (NL.up h2 hB) hns hl
theorem EK4{u u':World}{d e:Int}{ns:List Int}(h: ∀y ms,NL u y ms->NL u' y ms): ∀x,PTz d e ns u x->PTz d e ns u' x:=fun x hx=>by
 obtain⟨y,e,h2⟩:=hx
 exact⟨y,e,h _ _ h2⟩
theorem vssDeals_core(p q g h dl nd a1 a2 a3 so:Int)(sa sb:Option Addr)(la lb ca cb:Nat)(ss ts:List Int)(w:World)(hV:VOK w)(hM:SMN)(hp:In p)(hq:In q)(hg:In g)(hh:In h)(hdl: -9223372036854775808<=dl/\dl<9223372036854775808)(hnd: -9223372036854775808<=nd/\nd<9223372036854775808)(hss: ∀z∈ss,In z)(hts: ∀z∈ts,In z)(h7:ss.length<=7)(h7b:ts.length<=7)(hcs: ∀a∈dlC p q g h dl ss ts,In a)(hcl:(dlC p q g h dl ss ts).length<=1000)(hsv:shV p q nd ss ts=SX a1 a2 a3)(hso:shO p q nd ss ts=so)(i2:In a2)(i3:In a3)(hFa:Hid (∀u,Bw w u->Calls Tryz.prog 9 #[.slice sa la ca] u fun e u'=> ∃v,e= .returned v/\PNv ss u' v/\Bw u u'))(hFb:Hid (∀u,Bw w u->Calls Tryz.prog 9 #[.slice sb lb cb] u fun e u'=> ∃v,e= .returned v/\PNv ts u' v/\Bw u u')):
 CC 3 #[GX p q g h,.int .i64 dl,.int .i64 nd,.slice sa la ca,.slice sb lb cb] w (.bool true):=by
 go_enter Tryz.func3,Tryz.ntmps3
 go_upto_region 1 with fail
 obtain⟨v0,hC,HB0,K0⟩:=bx1 w (GE p q g h) 26
 rw[hC]
 clear hC
 apply Rf K0 HB0 [] [] [(0,19,_),(2,21,_)] [(4,0),(5,2)] [(4,3),(5,4)] [⟨1,20,some 4,PNv ss⟩,⟨3,22,some 5,PNv ts⟩,⟨4,3,none,PNv ss⟩,⟨5,4,none,PNv ts⟩] []
 ·exact oc g_mv<|oc (g_cE 0 (PNv ss) ent_S1 (fun u hB hs=>hFa.out u hB))<|oc g_mv<|oc (g_cE 1 (PNv ts) ent_S1 (fun u hB hs=>hFb.out u hB))<|oc (g_sE 0 2 (PNv ss))<|oc (g_sE 1 3 (PNv ts)) on
 intro u1 v1_1 hv1_1 v1_3 hv1_3 v1_4 hv1_4 v1_5 hv1_5 HB1 sz1 K1
 simp only[sQ] at K1⊢
 clear K0 HB0
 have na_0:NL u1 v1_4 ss:=hv1_4 rfl
 have nb_0:NL u1 v1_5 ts:=hv1_5 rfl
 obtain⟨s3,c3,e3⟩:=lt_NL na_0
 obtain⟨s4,c4,e4⟩:=lt_NL nb_0
 subst e3
 subst e4
 clear hv1_1 hv1_3 hv1_4 hv1_5 hFa hFb
 have hT1:Bw w u1:=Zd (Below.refl w.heap.size w) HB1
 have na_1:NL u1 (.slice s3 ss.length c3) ss:=na_0
 have nb_1:NL u1 (.slice s4 ts.length c4) ts:=nb_0
 have HBz1:Bw u1 u1:=Below.refl _ _
 obtain⟨dd,edd⟩: ∃x,dlD p q g h dl ss ts=x:=⟨_,rfl⟩
 obtain⟨er,eer⟩: ∃x,dlE p q g h dl ss ts=x:=⟨_,rfl⟩
 obtain⟨cs,ecs⟩: ∃x,dlC p q g h dl ss ts=x:=⟨_,rfl⟩
 rw[ecs] at hcs hcl
 have hF3:Hid (∀u,Bw u1 u->Calls Tryz.prog 9 #[.slice s3 ss.length c3] u fun e u'=> ∃v,e= .returned v/\PNv ss u' v/\Bw u u'):=fun u hB=>(cFew7 ss _ u (NL.up na_1 hB) h7).mono fun e u2 ⟨v,e1,⟨h1,_⟩,h2⟩=>⟨v,e1,h1,h2⟩
 have hF4:Hid (∀u,Bw u1 u->Calls Tryz.prog 9 #[.slice s4 ts.length c4] u fun e u'=> ∃v,e= .returned v/\PNv ts u' v/\Bw u u'):=fun u hB=>(cFew7 ts _ u (NL.up nb_1 hB) h7b).mono fun e u2 ⟨v,e1,⟨h1,_⟩,h2⟩=>⟨v,e1,h1,h2⟩
 have hD:Hid (∀u,Bw u1 u-> ∀y z,PNv ss u y->PNv ts u z->Calls Tryz.prog 10 #[GX p q g h,.int .i64 dl,y,z] u fun e u'=> ∃v,e= .returned v/\PTz dd er cs u' v/\Bw u u'):=fun u hB y z h1 h2=>(hV.deal u (Zd hT1 hB) p q g h dl ss ts y z hp hq hg hh hdl h1 h2 hss hts h7 h7b).mono fun e u2 ⟨y,e1,h1,h2⟩=>⟨_,e1,⟨y,by rw[edd,eer],by rw[<-ecs];exact h1⟩,h2⟩
 have hR:Hid (∀u,Bw u1 u->Calls Tryz.prog 11 #[GX p q g h,.int .i64 dl,.slice s3 ss.length c3,.slice s4 ts.length c4] u fun e u'=> ∃v,e= .returned v/\PTz dd er cs u' v/\Bw u u'):=fun u hB=>(xDeal p q g h dl ss ts _ _ u hp hq hg hh (NL.up na_1 hB) (NL.up nb_1 hB) hss hts).mono fun e u2 ⟨y,e1,h1,h2⟩=>⟨_,e1,⟨y,by rw[edd,eer],by rw[<-ecs];exact h1⟩,h2⟩
 have hSh:Hid (∀u,Bw u1 u-> ∀y z,PNv ss u y->PNv ts u z->CC 12 #[GX p q g h,.int .i64 nd,y,z] u (.tuple #[SX a1 a2 a3,.int .i64 so])):=fun u hB y z h1 h2=>by
  have h:=hV.share u (Zd hT1 hB) p q g h nd ss ts y z hp hq hg hh hnd h1 h2 hss hts h7 h7b
  rwa [hsv,hso] at h
 have hSr:Hid (∀u,Bw u1 u->CC 13 #[GX p q g h,.int .i64 nd,.slice s3 ss.length c3,.slice s4 ts.length c4] u (.tuple #[SX a1 a2 a3,.int .i64 so])):=fun u hB=>by
  have h:=xShare p q g h nd ss ts _ _ u hp hq (NL.up na_1 hB) (NL.up nb_1 hB) hss hts (by omega) (by omega)
  rwa [hsv,hso] at h
 clear edd eer ecs hsv hso
 have hl0:w.heap.size<u1.heap.size:=(K1.lt 0)
 have K1_1:Bk u1.heap.size u1 [(false,w.heap.size,GE p q g h)]:=⟨.c (K1.lt 0) (K1.cv 0)<|trivial,by simp⟩
 go_upto_region 2 with fail
 refine rgY1 11 5 (PDz u1.heap.size dd cs) K1_1 HBz1 HBz1.size [] [] [(0,24,GX p q g h),(1,25,.int .i64 dl),(2,26,.slice s3 ss.length c3),(4,28,.slice s4 ts.length c4),(9,32,.int .i64 er),(12,12,.int .i64 er)] [] [] [⟨3,27,some 6,PNv ss⟩,⟨5,29,some 6,PNv ts⟩,⟨6,30,some 7,PTz dd er cs⟩,⟨7,23,none,PTz dd er cs⟩,⟨8,31,some 11,PVz dd cs⟩,⟨10,11,some 11,PBz u1.heap.size⟩] [⟨3,27,some 6,PNv ss⟩,⟨5,29,some 6,PNv ts⟩,⟨6,30,some 7,PTz dd er cs⟩,⟨7,23,none,PTz dd er cs⟩,⟨8,31,some 11,PVz dd cs⟩,⟨10,11,none,PDz u1.heap.size dd cs⟩] [] (.cons (fun _ _ _ h1 h2=>h2.stab h1)<| .cons (fun _ _ _ h1 h2=>h2.stab h1)<| .cons (fun _ _ _ h1 h2=>h2.stab h1)<| .cons (fun _ _ _ h1 h2=>h2.stab h1)<| .cons (fun _ _ _ h1 h2=>h2.stab h1)<| .cons (fun _ _ _ h1 h2=>h2.stab h1)<|Stab.nil) rfl rfl rfl ?_ ?_
 ·refine yc (g_ld 0 Tryz.underlying26 Z0) ?_
  refine yc g_mv ?_
  refine yc g_mv ?_
  refine yc (g_cE 0 (PNv ss) ent_S1 (fun u hB hs=>hF3.out u hB)) ?_
  refine yc g_mv ?_
  refine yc (g_cE 1 (PNv ts) ent_S1 (fun u hB hs=>hF4.out u hB)) ?_
  refine yc (g_cD4 0 1 2 (PNv ss) (PNv ts) (PTz dd er cs) ent_S2 (fun u y z hB hs h1 h2=>hD.out u hB y z h1 h2)) ?_
  refine yc (g_mE 2 3 (PTz dd er cs)) ?_
  refine yc (g_xE (k:=0) 3 4 (PTz dd er cs) (PVz dd cs) (fun u vs h=>by obtain⟨y,rfl,hy⟩:=h;exact⟨_,_,rfl,rfl,y,rfl,hy⟩)) ?_
  refine yt (t_xV (k:=1) (v:= .int .i64 er) 11 (PDz u1.heap.size dd cs) 3 (PTz dd er cs) (fun u vs h=>by obtain⟨y,rfl,hy⟩:=h;exact⟨_,rfl,rfl⟩)) ?_
  refine yc (g_aP 5 (PBz u1.heap.size) U2 (fun u hu=>PBz.new u hu)) ?_
  refine yz (st_bx 5 4 (PBz u1.heap.size) (PVz dd cs) (PDz u1.heap.size dd cs) (fun u vb v h0 hv=>by obtain⟨u2,r,h1,h2,h3,h4⟩:=st_dl u vb v h0 hv;exact⟨u2,r,h1,h2,h3,⟨.inl rfl,.inl rfl,.inl rfl,.inr ⟨by simp,EK4 h4⟩,.inl rfl,.inl rfl,trivial⟩⟩)) ?_
  exact yt (t_as 11 (PDz u1.heap.size dd cs)) yn
 intro u2 v2_3 hv2_3 v2_5 hv2_5 v2_6 hv2_6 v2_7 hv2_7 v2_8 hv2_8 v2_10 hv2_10 HB2 sz2 K2
 simp only[sQ] at K2⊢
 obtain⟨b11,y11,rfl,hb11,lb11,Kb11,nb11_0⟩:=hv2_10 rfl
 obtain⟨s11,c11,eb11⟩:=lt_NL nb11_0
 subst eb11
 clear hv2_3 hv2_5 hv2_6 hv2_7 hv2_8 hv2_10
 have hT2:Bw w u2:=Zd hT1 HB2
 have na_2:NL u2 (.slice s3 ss.length c3) ss:=na_1.up HB2
 have nb_2:NL u2 (.slice s4 ts.length c4) ts:=nb_1.up HB2
 have nd_2:NL u2 (.slice s11 cs.length c11) cs:=nb11_0
 have HBz2:Bw u2 u2:=Below.refl _ _
 have hl2_0:w.heap.size<u2.heap.size:=(K2.lt 0)
 have hF3_x:=fun u (hB:Bw u2 u)=>hF3.out u (Zd HB2 hB)
 replace hF3:Hid _:=hF3_x
 clear hF3_x
 have hF4_x:=fun u (hB:Bw u2 u)=>hF4.out u (Zd HB2 hB)
 replace hF4:Hid _:=hF4_x
 clear hF4_x
 have hR_x:=fun u (hB:Bw u2 u)=>hR.out u (Zd HB2 hB)
 replace hR:Hid _:=hR_x
 clear hR_x
 have hSh_x:=fun u (hB:Bw u2 u)=>hSh.out u (Zd HB2 hB)
 replace hSh:Hid _:=hSh_x
 clear hSh_x
 have hSr_x:=fun u (hB:Bw u2 u)=>hSr.out u (Zd HB2 hB)
 replace hSr:Hid _:=hSr_x
 clear hSr_x
 clear hD
 have K2_2:Bk u2.heap.size u2 [(false,w.heap.size,GE p q g h),(false,b11,DE dd (.slice s11 cs.length c11))]:=⟨.c (K2.lt 0) (K2.cv 0)<| .c lb11 Kb11<|trivial,by simp<;>omega⟩
 go_upto_region 3 with fail
 refine rgY0 9 3 (PDz u2.heap.size dd cs) K2_2 HBz2 HBz2.size [] [] [(0,34,GX p q g h),(1,35,.int .i64 dl),(2,36,.slice s3 ss.length c3),(3,37,.slice s4 ts.length c4),(7,40,.int .i64 er),(10,14,.int .i64 er)] [] [] [⟨4,38,some 5,PTz dd er cs⟩,⟨5,33,none,PTz dd er cs⟩,⟨6,39,some 9,PVz dd cs⟩,⟨8,13,some 9,PBz u2.heap.size⟩] [⟨4,38,some 5,PTz dd er cs⟩,⟨5,33,none,PTz dd er cs⟩,⟨6,39,some 9,PVz dd cs⟩,⟨8,13,none,PDz u2.heap.size dd cs⟩] [] (.cons (fun _ _ _ h1 h2=>h2.stab h1)<| .cons (fun _ _ _ h1 h2=>h2.stab h1)<| .cons (fun _ _ _ h1 h2=>h2.stab h1)<| .cons (fun _ _ _ h1 h2=>h2.stab h1)<|Stab.nil) rfl rfl rfl ?_ ?_
 ·refine yc (g_ld 0 Tryz.underlying26 Z0) ?_
  refine yc g_mv ?_
  refine yc g_mv ?_
  refine yc g_mv ?_
  refine yc (g_cE 0 (PTz dd er cs) ent_S3 (fun u hB hs=>hR.out u hB)) ?_
  refine yc (g_mE 0 1 (PTz dd er cs)) ?_
  refine yc (g_xE (k:=0) 1 2 (PTz dd er cs) (PVz dd cs) (fun u vs h=>by obtain⟨y,rfl,hy⟩:=h;exact⟨_,_,rfl,rfl,y,rfl,hy⟩)) ?_
  refine yt (t_xV (k:=1) (v:= .int .i64 er) 13 (PDz u2.heap.size dd cs) 1 (PTz dd er cs) (fun u vs h=>by obtain⟨y,rfl,hy⟩:=h;exact⟨_,rfl,rfl⟩)) ?_
  refine yc (g_aP 3 (PBz u2.heap.size) U2 (fun u hu=>PBz.new u hu)) ?_
  refine yz (st_bx 3 2 (PBz u2.heap.size) (PVz dd cs) (PDz u2.heap.size dd cs) (fun u vb v h0 hv=>by obtain⟨u2,r,h1,h2,h3,h4⟩:=st_dl u vb v h0 hv;exact⟨u2,r,h1,h2,h3,⟨.inl rfl,.inr ⟨by simp,EK4 h4⟩,.inl rfl,.inl rfl,trivial⟩⟩)) ?_
  exact yt (t_as 13 (PDz u2.heap.size dd cs)) yn
 intro u3 v3_4 hv3_4 v3_5 hv3_5 v3_6 hv3_6 v3_8 hv3_8 HB3 sz3 K3
 simp only[sQ] at K3⊢
 obtain⟨b13,y13,rfl,hb13,lb13,Kb13,nb13_0⟩:=hv3_8 rfl
 obtain⟨s13,c13,eb13⟩:=lt_NL nb13_0
 subst eb13
 clear hv3_4 hv3_5 hv3_6 hv3_8
 have hnK3:=K3.n
 simp at hnK3
 have hT3:Bw w u3:=Zd hT2 HB3
 have na_3:NL u3 (.slice s3 ss.length c3) ss:=na_2.up HB3
 have nb_3:NL u3 (.slice s4 ts.length c4) ts:=nb_2.up HB3
 have nd_3:NL u3 (.slice s11 cs.length c11) cs:=nd_2.up HB3
 have ne_3:NL u3 (.slice s13 cs.length c13) cs:=nb13_0
 have HBz3:Bw u3 u3:=Below.refl _ _
 have hl3_0:w.heap.size<u3.heap.size:=(K3.lt 0)
 have hl3_1:b11<u3.heap.size:=(K3.lt 1)
 have hF3_x:=fun u (hB:Bw u3 u)=>hF3.out u (Zd HB3 hB)
 replace hF3:Hid _:=hF3_x
 clear hF3_x
 have hF4_x:=fun u (hB:Bw u3 u)=>hF4.out u (Zd HB3 hB)
 replace hF4:Hid _:=hF4_x
 clear hF4_x
 have hSh_x:=fun u (hB:Bw u3 u)=>hSh.out u (Zd HB3 hB)
 replace hSh:Hid _:=hSh_x
 clear hSh_x
 have hSr_x:=fun u (hB:Bw u3 u)=>hSr.out u (Zd HB3 hB)
 replace hSr:Hid _:=hSr_x
 clear hSr_x
 have hSm:Hid (∀u,Bw u3 u->CC 14 #[DX dd (.slice s11 cs.length c11),DX dd (.slice s13 cs.length c13)] u (.bool true)):=fun u hB=>cSame hM dd cs _ _ u (NL.up nd_3 hB) (NL.up ne_3 hB) hcs hcl
 clear hR
 have K3_3:Bk u3.heap.size u3 [(false,w.heap.size,GE p q g h),(false,b11,DE dd (.slice s11 cs.length c11)),(false,b13,DE dd (.slice s13 cs.length c13))]:=⟨.c (K3.lt 0) (K3.cv 0)<| .c (K3.lt 1) (K3.cv 1)<| .c lb13 Kb13<|trivial,by simp<;>omega⟩
 go_upto_region 4 with fail
 apply Re K3_3 HBz3 [] [(10,15,L0h,some (11,SE a1 a2 a3))] [(0,42,_),(1,43,_),(2,44,_),(4,46,_),(6,48,_),(7,41,_),(8,49,_),(9,50,_),(12,16,_)] [(11,10)] [] [⟨3,45,some 6,PNv ss⟩,⟨5,47,some 6,PNv ts⟩] []
 ·exact oc (g_ld 0 Tryz.underlying26 Z0)<|oc g_mv<|oc g_mv<|oc (g_cE 0 (PNv ss) ent_S1 (fun u hB hs=>hF3.out u hB))<|oc g_mv<|oc (g_cE 1 (PNv ts) ent_S1 (fun u hB hs=>hF4.out u hB))<|oc (g_cW4 0 1 (PNv ss) (PNv ts) ent_N2 (fun u y z hB h1 h2=>hSh.out u hB y z h1 h2))<|oc g_mv<|oc g_ex<|oc g_ex<|oc (g_al 0 W4)<|oc (g_sn 0 Za)<|oc g_as on
 intro u4 b4_10 v4_3 hv4_3 v4_5 hv4_5 HB4 sz4 K4
 simp only[sQ] at K4⊢
 go_upto_region 5 with fail
 apply Rp K4 HB4 [] [(8,17,L0h,some (9,SE a1 a2 a3))] [(0,52,_),(1,53,_),(2,54,_),(3,55,_),(4,56,_),(5,51,_),(6,57,_),(7,58,_),(10,18,_)] [(9,8)] [] []
 ·exact oc (g_ld 0 Tryz.underlying26 Z0)<|oc g_mv<|oc g_mv<|oc g_mv<|oc (g_cb ent_S4 hSr.out)<|oc g_mv<|oc g_ex<|oc g_ex<|oc (g_al 0 W4)<|oc (g_sn 0 Za)<|oc g_as on
 intro u5 b5_8 HB5 sz5 K5
 simp only[sQ] at K5⊢
 clear K4 HB4
 go_upto_region 6 with fail
 apply Rn K5 HB5 [(0,59,_),(1,60,_),(2,61,_),(3,62,_),(4,63,_),(5,64,_),(6,65,_),(7,66,_),(8,67,_),(9,68,_),(10,69,_),(11,70,_),(12,71,_),(13,72,_),(14,73,_),(15,74,_),(16,75,_),(17,76,_),(18,77,_),(19,78,_),(20,79,_),(21,10,_)]
 ·exact oc (g_ld 1 Tryz.underlying30 Z5)<|oc (g_ld 2 Tryz.underlying30 Z5)<|oc (g_cb ent_S5 hSm.out)<|oc g_mv<|oc g_mv<|oc g_mv<|oc (g_bn (fun uZ=>Tf _ _ _ er er true uZ (by simp)))<|oc g_pk<|oc g_mv<|oc (g_ld 3 Tryz.underlying35 Za)<|oc (g_ld 4 Tryz.underlying35 Za)<|oc (g_bn (fun uZ=>eqS _ _ (n:=a1) (n2:=a1) i2 i2 i3 i3 true (by simp) uZ))<|oc g_pk<|oc g_mv<|oc g_mv<|oc g_mv<|oc (g_bn (fun uZ=>Tf _ _ _ so so true uZ (by simp)))<|oc g_pk<|oc g_mv<|oc (g_cb ent_O2 (fun uZ bZ=>works11 uZ (hV.up (Zd hT3 bZ))))<|oc g_pk<|oc g_as on
 intro u6 HB6 sz6 K6
 simp only[sQ] at K6⊢
 clear K5 HB5
 go_wp2
 exact bodyPost_ret (v:= .bool true) (by simp[results,Tryz.results3,go_sem]) rfl ⟨rfl,Zd hT3 HB6⟩
theorem dlC_In{p q g h d:Int}{ss ts:List Int}(hp:In p): ∀a∈dlC p q g h d ss ts,In a:=by
 unfold dlC
 split
 ·rename_i c
  have h1:isB p q g=true/\isB p q h=true:=by
   unfold dlE at c
   split at c
   ·split at c
    ·split at c
     ·rename_i c3;simpa using c3
     ·cases c
    ·cases c
   ·cases c
  intro a ha
  unfold cmS tab at ha
  simp only[List.mem_map] at ha
  obtain⟨k,_,rfl⟩:=ha
  have:=coX_Mb (p:=p) (q:=q) (g:=g) (h:=h) h1.1 h1.2 (ss.getD k 0) (ts.getD k 0)
  have h3:=this.1
  have h4:=this.2.1
  have:=hp.1
  have:=hp.2
  exact⟨by omega,by omega⟩
 ·intro a ha;cases ha
theorem dlC_len{p q g h d:Int}{ss ts:List Int}:(dlC p q g h d ss ts).length<=ss.length:=by
 unfold dlC
 split
 ·rw[Va];omega
 ·simp
theorem SZ_is:SZ=SX 0 0 0:=by kernel_rfl
theorem shV_is{p q nd:Int}{ss ts:List Int}(hq:In q): ∃a b c,shV p q nd ss ts=SX a b c/\In b/\In c:=by
 unfold shV
 split
 ·rename_i c
  have h1:gOk p q:=by
   unfold shO at c
   split at c
   ·assumption
   ·cases c
  have:=h1.q3
  exact⟨_,_,_,rfl,hoN_In hq (by omega) _,hoN_In hq (by omega) _⟩
 ·exact⟨0,0,0,SZ_is,In_0,In_0⟩
theorem vssDeals_any(p q g h dl nd:Int)(sa sb:Option Addr)(la lb ca cb:Nat)(ss ts:List Int)(w:World)(hV:VOK w)(hM:SMN)(hp:In p)(hq:In q)(hg:In g)(hh:In h)(hdl: -9223372036854775808<=dl/\dl<9223372036854775808)(hnd: -9223372036854775808<=nd/\nd<9223372036854775808)(hss: ∀z∈ss,In z)(hts: ∀z∈ts,In z)(h7:ss.length<=7)(h7b:ts.length<=7)
 (hFa:Hid (∀u,Bw w u->Calls Tryz.prog 9 #[.slice sa la ca] u fun e u'=> ∃v,e= .returned v/\PNv ss u' v/\Bw u u'))(hFb:Hid (∀u,Bw w u->Calls Tryz.prog 9 #[.slice sb lb cb] u fun e u'=> ∃v,e= .returned v/\PNv ts u' v/\Bw u u')):
 CC 3 #[GX p q g h,.int .i64 dl,.int .i64 nd,.slice sa la ca,.slice sb lb cb] w (.bool true):=by
 obtain⟨a1,a2,a3,e,i2,i3⟩:=shV_is (p:=p) (nd:=nd) (ss:=ss) (ts:=ts) hq
 have hl:=dlC_len (p:=p) (q:=q) (g:=g) (h:=h) (d:=dl) (ss:=ss) (ts:=ts)
 exact vssDeals_core p q g h dl nd a1 a2 a3 _ sa sb la lb ca cb ss ts w hV hM hp hq hg hh hdl hnd hss hts h7 h7b (dlC_In hp) (by omega) e rfl i2 i3 hFa hFb
def ptO(q:Int)(ns xs:List Int):Prop:=(2<=q/\1<=ns.length)/\poS xs=true
instance (q:Int) (ns xs:List Int):Decidable (ptO q ns xs):=by unfold ptO;exact inferInstance
theorem PtL.nil(u:World):PtL u (.slice none 0 0) []:=⟨none,0,0,0,rfl,Nat.le_refl _,fun _=>rfl,.inl rfl,.inl rfl,SN.empty rfl⟩
def adO(q:Int)(aa bs:List Int):Prop:=(2<=q/\1<=aa.length)/\1<=bs.length
instance (q:Int) (aa bs:List Int):Decidable (adO q aa bs):=by unfold adO;exact inferInstance
def I2(a b:Int)(u:World)(v:Value):Prop:=IL u v [a,b]
theorem I2.stab{a b:Int}{u u2:World}{x:Value}(hB:Bw u u2)(h:I2 a b u x):I2 a b u2 x:=IL.up h hB
def W2(lo:Nat)(u:World)(v:Value):Prop:= ∃b,v= .slice (some ⟨b,0,none⟩) 2 2/\lo<=b/\b<u.heap.size/\CV u b (flN [1,5,2,7])
theorem W2.stab{lo:Nat}{u u2:World}{x:Value}(hB:Bw u u2)(h:W2 lo u x):W2 lo u2 x:=by
 obtain⟨b,e,h1,h2,h3⟩:=h
 exact⟨b,e,h1,Nat.lt_of_lt_of_le h2 hB.size,h3.below hB h2⟩
def W2t(lo:Nat)(u:World)(v:Value):Prop:= ∃y,v= .tuple #[y,.int .i64 0]/\W2 lo u y
theorem W2t.stab{lo:Nat}{u u2:World}{x:Value}(hB:Bw u u2)(h:W2t lo u x):W2t lo u2 x:=by
 obtain⟨y,e,h⟩:=h
 exact⟨y,e,h.stab hB⟩
theorem W2.of{lo:Nat}{u:World}{v:Value}(h:PRp lo (pts 11 [3,2] [1,2]) u v):W2 lo u v:=by
 have e:pts 11 [3,2] [1,2]=[(1,5),(2,7)]:=by decide
 rw[e] at h
 exact h
theorem W2.pl{lo:Nat}{u:World}{v:Value}(h:W2 lo u v):PtL u v [(1,5),(2,7)]:=PRp.pl (lo:=lo) h
def PAp(N:Nat)(u:World)(v:Value):Prop:= ∃out:List Int,out.length=N/\Apart out/\IL u v out
theorem PAp.stab{N:Nat}{u u2:World}{x:Value}(hB:Bw u u2)(h:PAp N u x):PAp N u2 x:=by
 obtain⟨out,h1,h2,h3⟩:=h
 exact⟨out,h1,h2,h3.up hB⟩
def PRt(lo:Nat)(ns:List Int)(u:World)(v:Value):Prop:= ∃y,v= .tuple #[y,.int .i64 0]/\PRw lo ns u y
theorem PRt.stab{lo:Nat}{ns:List Int}{u u2:World}{x:Value}(hB:Bw u u2)(h:PRt lo ns u x):PRt lo ns u2 x:=by
 obtain⟨y,e,h⟩:=h
 exact⟨y,e,h.stab hB⟩
theorem PRt.fst{lo:Nat}{ns:List Int}: ∀(u:World) (v:Value),PRt lo ns u v-> ∃cs y,v= .tuple cs/\cs[0]?=some y/\PRw lo ns u y:=fun u v ⟨y,e,h⟩=>⟨_,y,e,rfl,h⟩
theorem PRt.snd{lo:Nat}{ns:List Int}: ∀(u:World) (v:Value),PRt lo ns u v-> ∃cs,v= .tuple cs/\cs[1]?=some (.int .i64 0):=fun u v ⟨y,e,h⟩=>⟨_,e,rfl⟩
theorem Apart.In{xs:List Int}(h:Apart xs): ∀z∈xs,In z:=fun z hz=>⟨by have:=h.2 z hz;omega,by have:=h.2 z hz;omega⟩
theorem sameN_core(sa sb:Option Addr)(ga oa ca gb ob cb:Nat)(ns:List Int)(w:World)(hns:ns.length<=1000)(hixa:Hid (∀j,j<ns.length-> ∀W,(Instr.indexAt 27 (.slice sa ns.length ca) (.int .i64 j)).run Tryz.prog W= .ok (.pointer (some ⟨ga,oa+4*j,none⟩)) W))(hga:ns.length=0\/ga<w.heap.size)(hSa:Hid (SN w ga oa ns))(hixb:Hid (∀j,j<ns.length-> ∀W,(Instr.indexAt 27 (.slice sb ns.length cb) (.int .i64 j)).run Tryz.prog W= .ok (.pointer (some ⟨gb,ob+4*j,none⟩)) W))(hgb:ns.length=0\/gb<w.heap.size)(hSb:Hid (SN w gb ob ns))(hn:Hid (∀k,k<ns.length->In (ns.getD k 0))):
 CC 45 #[.slice sa ns.length ca,.slice sb ns.length cb] w (.bool true):=by
 have hne:(((ns.length:Nat):Int) !=((ns.length:Nat):Int))=false:=by simp
 go_enter Tryz.func45,Tryz.ntmps45
 have HB0:Bw w w:=Below.refl _ _
 have K0_1:=Bk.nil (w.heap.size) w
 go_upto_region 1 with fail
 apply Rn K0_1 HB0 [(0,6,_),(1,7,_),(2,8,_),(3,9,_),(4,10,_)]
 ·exact oc g_mv<|oc (g_ln Tryz.underlying27)<|oc g_mv<|oc (g_ln Tryz.underlying27)<|oc (g_bn (fun uZ=>Y9 _ _ _ (ns.length:Int) (ns.length:Int) _ uZ hne)) on
 intro u1 HB1 sz1 K1
 simp only[sQ] at K1⊢
 clear HB0
 go_upto_region 3 with fail
 apply Rn K1 HB1 [(0,5,_)]
 ·exact oc g_as on
 intro u2 HB2 sz2 K2
 simp only[sQ] at K2⊢
 clear K1 HB1
 go_wp2_with fail
 go_loopw [5] (fun s5 wr=> ∃(k:Nat),k<=ns.length/\s5= .int .i64 (k:Int)/\Bw w wr) (fun s5 _=>ns.length -(intOf s5).toNat)
 case atStart=>exact⟨0,by omega,rfl,HB2⟩
 case round=>
  obtain⟨k,hk,rfl,HBr⟩:=hrel
  clear HB2
  by_cases hj:k<ns.length
  ·have hl:decide ((k:Int)<(ns.length:Int))=true:=by simp;omega
   have hXa:=hixa.out _ hj
   have hXb:=hixb.out _ hj
   have hXa:Hid _:=hXa
   have hXb:Hid _:=hXb
   have hga':=hga.resolve_left (by omega)
   have hgb':=hgb.resolve_left (by omega)
   have hRa:=hSa.out.at _ hj
   have hRb:=hSb.out.at _ hj
   have ix:=hn.out _ hj
   obtain⟨x,ex⟩: ∃z,ns.getD k 0=z:=⟨_,rfl⟩
   rw[ex] at hRa hRb ix
   clear ex
   have hRa:Hid _:=hRa
   have hRb:Hid _:=hRb
   have K2_2:=Bk.nil (w.heap.size) wr
   go_upto_region 4 with fail
   apply Rn K2_2 HBr [(0,11,_),(1,12,_),(2,13,_),(3,14,_)]
   ·exact oc g_mv<|oc g_mv<|oc (g_ln Tryz.underlying27)<|oc (g_bn (fun uZ=>Zy _ _ (k:Int) (ns.length:Int) _ uZ hl)) on
   intro u3 HB3 sz3 K3
   simp only[sQ] at K3⊢
   go_upto_region 6 with fail
   apply Rm K3 HB3 [(0,17,_),(1,18,_),(2,19,_),(3,20,_),(4,21,_),(5,22,_),(6,23,_),(7,24,_),(8,25,_)]
   ·exact oc g_mv<|oc g_mv<|oc (g_ix hXa.out)<|oc (g_lf hRa.out hga' uN iN)<|oc g_mv<|oc g_mv<|oc (g_ix hXb.out)<|oc (g_lf hRb.out hgb' uN iN)<|oc (g_bn (fun uZ=>neq_n _ _ ix ix false (by simp) uZ)) on
   intro u4 HB4 sz4 K4
   simp only[sQ] at K4⊢
   clear K3 HB3
   go_upto_region 5 with fail
   apply Rp K4 HB4 [] [] [(0,15,_),(1,16,_),(2,5,_)] [(2,0)] [(2,5)] []
   ·exact oc g_mv<|oc (g_bn (fun uZ=>Yr _ _ (k:Int) 1 ((k+1:Nat):Int) uZ (by omega) (by omega) (by omega)))<|oc g_as on
   intro u5 HB5 sz5 K5
   simp only[sQ] at K5⊢
   clear K4 HB4
   go_wp2
   refine⟨⟨k+1,by omega,rfl,HB5⟩,?_⟩
   simp[intOf]<;>omega
  ·have hl:decide ((k:Int)<(ns.length:Int))=false:=by simp;omega
   have K2_2:=Bk.nil (w.heap.size) wr
   go_upto_region 4 with fail
   apply Rn K2_2 HBr [(0,11,_),(1,12,_),(2,13,_),(3,14,_)]
   ·exact oc g_mv<|oc g_mv<|oc (g_ln Tryz.underlying27)<|oc (g_bn (fun uZ=>Zy _ _ (k:Int) (ns.length:Int) _ uZ hl)) on
   intro u3 HB3 sz3 K3
   simp only[sQ] at K3⊢
   go_upto_region 8 with fail
   apply Rn K3 HB3 [(0,4,_)]
   ·exact oc g_as on
   intro u4 HB4 sz4 K4
   simp only[sQ] at K4⊢
   clear K3 HB3
   go_wp2
   refine bodyPost_ret (v:= .bool true) (by simp[results,Tryz.results45,go_sem,]) rfl ⟨rfl,HB4⟩
theorem cSameN(ns:List Int)(va vb:Value)(w:World)(ha:NL w va ns)(hb:NL w vb ns)(hns: ∀z∈ns,In z)(hl:ns.length<=1000):CC 45 #[va,vb] w (.bool true):=by
 obtain⟨sa,ga,oa,ca,rfl,a2,a3,a4,a5,a6⟩:=ha
 obtain⟨sb,gb,ob,cb,rfl,b2,b3,b4,b5,b6⟩:=hb
 exact sameN_core sa sb ga oa ca gb ob cb ns w hl (NL.ix (u:=w) a4) a5 a6 (NL.ix (u:=w) b4) b5 b6 (Yn hns)
theorem vssDeals_in(p q g h dl nd:Int)(sa sb:Option Addr)(la ca ga oa:Nat)(na:List Int)(lb cb gb ob:Nat)(nb:List Int)(w:World)(hG:GP w)(hp:In p)(hq:In q)(hg:In g)(hh:In h)(rdl: -9223372036854775808<=dl/\dl<9223372036854775808)(rnd: -9223372036854775808<=nd/\nd<9223372036854775808)(a1:min la 7=na.length)(a2:la<=ca)(a3:sa=none->ca=0)(a4:ca=0\/sa=some ⟨ga,oa,none⟩)(a5:na.length=0\/ga<w.heap.size)(a6:SN w ga oa na)(a7: ∀z∈na,In z)(b1:min lb 7=nb.length)(b2:lb<=cb)(b3:sb=none->cb=0)(b4:cb=0\/sb=some ⟨gb,ob,none⟩)(b5:nb.length=0\/gb<w.heap.size)(b6:SN w gb ob nb)(b7: ∀z∈nb,In z):
 CC 3 #[GX p q g h,.int .i64 dl,.int .i64 nd,.slice sa la ca,.slice sb lb cb] w (.bool true):=
 vssDeals_any p q g h dl nd sa sb la lb ca cb na nb w (vOK hG) (fun ns y z u hy hz hns hl=>cSameN ns y z u hy hz hns hl) hp hq hg hh rdl rnd a7 b7 (by omega) (by omega)
  (fun u hB=>(few11 sa la ca na.length ga oa na u (by omega) rfl (by omega) a2 a3 (by omega) (a4.imp (fun e=>by omega) id) (a5.imp id fun e=>Nat.lt_of_lt_of_le e hB.size) (SN.below2 a6 hB a5)).mono fun e u ⟨y,h1,h2,h3⟩=>⟨y,h1,h2.1,h3⟩)
  (fun u hB=>(few11 sb lb cb nb.length gb ob nb u (by omega) rfl (by omega) b2 b3 (by omega) (b4.imp (fun e=>by omega) id) (b5.imp id fun e=>Nat.lt_of_lt_of_le e hB.size) (SN.below2 b6 hB b5)).mono fun e u ⟨y,h1,h2,h3⟩=>⟨y,h1,h2.1,h3⟩)
end
end Go.Proofs.YtbbohmgjphpfeaaGreatDoor
