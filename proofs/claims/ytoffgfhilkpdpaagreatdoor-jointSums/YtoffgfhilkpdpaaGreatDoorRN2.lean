import Derived.Test.YtoffgfhilkpdpaaGreatDoorRN1
import Derived.Test.YtoffgfhilkpdpaaGreatDoorAP1
namespace Go.Proofs.YtoffgfhilkpdpaaGreatDoor
set_option linter.unusedVariables false
set_option linter.unusedSimpArgs false
set_option maxRecDepth 100000
set_option maxHeartbeats 4000000
section
open Go.RowKit
set_option maxHeartbeats 8000000 in
theorem cExtractR_z(n cap:Nat)(sl:Option Addr)(y:Value)(ds:List Nat)(w:World)(hds:ds.length=32)(hn:n=0)(hS:Hid (∀(u:World) (bz:Nat),Bw w u->CV u bz (U8 (List.replicate 32 0))->bz<u.heap.size->CC 162 #[.slice (some ⟨bz,0,none⟩) 32 32,y] u (.agg (U8 ds).toArray))):
 CC 148 #[.slice sl n cap,y] w (.agg (U8 ds).toArray):=by
 go_enter Tryz.func148,Tryz.ntmps148
 go_upto_region 1 with fail
 generalize hC:(w.alloc (.cells (Z32b:List Value).toArray 215))=v0 at *
 have HB0:Bw w v0:=by rw[<-hC];exact Z5 (Zf w) _
 have K0:Bk w.heap.size v0 [(true,w.heap.size,U8 z32)]:=by rw[<-hC];exact(Bk.nil _ w).ad
 clear hC
 refine Rn K0 HB0 (cG 0 5 [_,_,_] []) (Oc3 g_mv (g_ln Tryz.underlying133) (g_bn (fun uZ=>eql_it _ _ ((n:Nat):Int) 0 true uZ (by simp;omega)))) fun u1 HB1 _ K1=>?_
 simp only[sQ] at K1⊢
 have hlt4:=(K1.lt 0)
 have hlo4:=HB1.size
 go_upto_region 2 with fail
 refine Rf K1 HB1 [] [] [] [] [] [⟨0,8,some 1,PF u1.heap.size 32 (U8 (List.replicate 32 0))⟩,⟨1,0,none,PF u1.heap.size 32 (U8 (List.replicate 32 0))⟩] [] (hst:=(.cons (fun _ _ _ h1 h2=>h2.stab h1)<| .cons (fun _ _ _ h1 h2=>h2.stab h1)<|Stab.nil)) (Oc2 (g_ms 0 (PF u1.heap.size 32 (U8 (List.replicate 32 0))) (mkB .i64 32 Z2) (fun u hu=>PF.new 32 _ _ u hu)) (g_sE 0 1 (PF u1.heap.size 32 (U8 (List.replicate 32 0))))) fun u2 v2_0 hv2_0 v2_1 hv2_1 HB2 _ K2=>?_
 simp only[sQ] at K2⊢
 obtain⟨bz,rfl,ho1,ho2,hoC⟩:=hv2_1 rfl
 have K2_1:Bk w.heap.size u2 [(true,w.heap.size,U8 z32),(false,bz,U8 (List.replicate 32 0))]:=⟨.o (K2.lt 0) Z1 (K2.cv 0)<| .c ho2 hoC<|trivial,by simp;omega⟩
 go_upto_region 3 with fail
 refine Rp K2_1 HB2 [.all 3 (U8 ds)] [] (cG 0 9 [_,y,_] []) [] [] [] (Oc4 g_mv g_mv (g_cK X6 (fun fZ uZ kZ sZ bZ=>hS.out uZ bz bZ (kZ.cv 1) (kZ.lb sZ 1))) (g_st 0 Zo (h1:=Uk _) (hm:=by rw[Zk,hds]) (hl:=by first | rw[Zk,Zk,hds,show z32.length=32 from rfl] | rfl))) fun u3 HB3 _ K3=>?_
 simp only[sQ] at K3⊢
 go_wp2
 refine bodyPost_ret (Xq Tryz.results148 rfl (K3.cv 0) Tryz.underlying215 rfl (by rw[Zk,hds];exact Zo)) rfl ⟨rfl,HB3⟩
set_option maxHeartbeats 8000000 in
theorem cExtractR_c(n cap:Nat)(sl:Option Addr)(y:Value)(ds:List Nat)(w:World)(hds:ds.length=32)(hn:0<n)(hS:Hid (∀(u:World),Bw w u->CC 162 #[(.slice sl n cap),y] u (.agg (U8 ds).toArray))):
 CC 148 #[.slice sl n cap,y] w (.agg (U8 ds).toArray):=by
 go_enter Tryz.func148,Tryz.ntmps148
 go_upto_region 1 with fail
 generalize hC:(w.alloc (.cells (Z32b:List Value).toArray 215))=v0 at *
 have HB0:Bw w v0:=by rw[<-hC];exact Z5 (Zf w) _
 have K0:Bk w.heap.size v0 [(true,w.heap.size,U8 z32)]:=by rw[<-hC];exact(Bk.nil _ w).ad
 clear hC
 refine Rn K0 HB0 (cG 0 5 [_,_,_] []) (Oc3 g_mv (g_ln Tryz.underlying133) (g_bn (fun uZ=>eql_it _ _ ((n:Nat):Int) 0 false uZ (by simp;omega)))) fun u1 HB1 _ K1=>?_
 simp only[sQ] at K1⊢
 go_upto_region 3 with fail
 refine Rp K1 HB1 [.all 3 (U8 ds)] [] (cG 0 9 [_,y,_] []) [] [] [] (Oc4 g_mv g_mv (g_cb X6 hS.out) (g_st 0 Zo (h1:=Uk _) (hm:=by rw[Zk,hds]) (hl:=by first | rw[Zk,Zk,hds,show z32.length=32 from rfl] | rfl))) fun u2 HB2 _ K2=>?_
 simp only[sQ] at K2⊢
 go_wp2
 refine bodyPost_ret (Xq Tryz.results148 rfl (K2.cv 0) Tryz.underlying215 rfl (by rw[Zk,hds];exact Zo)) rfl ⟨rfl,HB2⟩
theorem cExtractR(ks xs:List Nat)(v y:Value)(w:World)(hin:IN w w.heap.size v ks)(hin2:IN w w.heap.size y xs)(hk: ∀x∈ks,x<256)(hx: ∀x∈xs,x<256)(hkl:ks.length<=1000)(hl:xs.length<=90000):
 CC 148 #[v,y] w (.agg (U8 (mac ks xs)).toArray):=by
 have hin0:=hin
 obtain⟨sl,cap,gb,go,rfl,h1,h2,h3,h4⟩:=hin
 by_cases h0:ks.length=0
 ·have hks:ks=[]:=List.length_eq_zero_iff.1 h0
  have e:mac (List.replicate 32 0) xs=mac ks xs:=by
   rw[hks]
   have:=whl_zeros [] 32 Z2
   rw[List.nil_append] at this
   unfold mac;rw[this]
  refine cExtractR_z ks.length cap sl y (mac ks xs) w (mac_B _ _).len h0 (fun u bz hB hc hb=>?_)
  rw[<-e]
  exact cMacR (List.replicate 32 0) xs _ y u (CV_in (by simp) hc hb) ((hin2.below hB).mono hB.size) (fun x hx=>by rw[List.eq_of_mem_replicate hx];decide) hx (by simp) hl
 ·exact cExtractR_c ks.length cap sl y (mac ks xs) w (mac_B _ _).len Z1 (fun u hB=>cMacR ks xs _ y u ((hin0.below hB).mono hB.size) ((hin2.below hB).mono hB.size) hk hx Z1 Z1)
theorem Y2{P:Program}{w w':World}{ops:Array Oper}{rest:List Oper}{o:Oper}{a:Act}{Q:Exit->Act->World->Prop}(hgd:o.guard=none)(s x:Operand)(t:TypeId)(ho:o.op= .call {callee:= .builtin .append,args:=#[s,x],argTypes:=#[t,t]})(vs vx v:Value)(hs:a.eval s=vs)(hx:a.eval x=vx)(hr:(Builtin.append_ #[t,t] o.type #[vs,vx]).run P w= .ok v w')(h:wpList P ops Q rest (a.put o.dst v) w'):wpList P ops Q (o::rest) a w:=by
 refine wpList_plain hgd fun K hK=>?_
 unfold Oper.wp execOp
 simp only[ho,resolve,invoke,builtin,Sem.run_bind,Sem.run_pure,Result.andThen_ok,List.map_toArray,List.map_cons,List.map_nil,hs,hx,hr]
 exact hK _ _ h
def PTX(e:Int)(xs:List Nat)(u:World)(v:Value):Prop:= ∃y,v= .tuple #[y,iI e]/\IN u u.heap.size y xs
theorem app_row{n m bo co:Nat}{xs ys:List Nat}{zs:List Value}{y:Value}{ty:TypeId}{u:World}(hc:CV u bo (U8 xs++zs))(hb:bo<u.heap.size)(hxl:xs.length=n)(hyl:ys.length=m)(hnc:n<=co)(hz:zs.length=co -n)(hl:n+m<=1000000)(hy:NW m (U8 ys) u y):
 ∃v u',(Builtin.append_ #[133,133] ty #[.slice (some ⟨bo,0,none⟩) n co,y]).run Tryz.prog u= .ok v u'/\u.grownBy u' (some bo)/\PH u.heap.size bo 1 (n+m) (U8 (xs++ys)) u' v:=by
 obtain⟨ti,hti,htm⟩:=Option.map_eq_some_iff.1 infoB
 simp only[Prod.mk.injEq] at htm
 obtain⟨hzv,hsz,hby⟩:=htm
 obtain⟨v',u',hr,hg,hp⟩:=V2 (P:=Tryz.prog) u (ty:=ty) Tryz.underlying133 hti hzv (by rw[hsz];rfl) (base:=u.heap.size) (n:=n) (cap:=co) (m:=m) (news:=U8 ys) hc hb (by rw[hsz,Zk];omega) (by rw[hsz];omega) hnc (Nat.le_refl _) hy (by rw[hsz,Zk];omega) U8_mem (by rw[hby];omega) Z1
 rw[hsz,<-U8_app] at hp
 exact⟨v',u',hr,hg,hp⟩
theorem IN_of_txt(u:World)(s:ByteArray):IN (Lib.bytesWorld u 5 s) (Lib.bytesWorld u 5 s).heap.size (.slice (some ⟨u.heap.size,0,none⟩) s.size (grownCap u s.size 0 5)) (txt s)/\Bw u (Lib.bytesWorld u 5 s):=by
 have hsz:=Lib.bytesWorld_size u 5 s
 refine⟨⟨_,_,u.heap.size,0,by rw[Un],by rw[Un];exact grownCap_ge u s.size 0 _,.inr rfl,Z1,fun j hj=>?_⟩,⟨rfl,rfl,rfl,Z1,fun k hk=>Lib.bytesWorld_at_old u 5 s k hk⟩⟩
 rw[Un] at hj
 rw[Nat.zero_add,Lib.bytesWorld_cell u 5 s j hj]
 have hj2:j<s.data.toList.length:=by rw[Array.length_toList];exact hj
 have e1:s.data.toList.getD j 0=s.data.toList[j]:=by rw[List.getD_eq_getElem?_getD,List.getElem?_eq_getElem hj2];rfl
 have e2:(txt s).getD j 0=(s.data.toList[j]).toNat:=by rw[List.getD_eq_getElem?_getD,txt,List.getElem?_map,List.getElem?_eq_getElem hj2];rfl
 rw[e1,e2]
theorem PZ_new(u:World):PZ u.heap.size (u.alloc (.cells #[] 5)) (.slice (some ⟨u.heap.size,0,none⟩) 0 0):=⟨_,rfl,Nat.le_refl _,by simp⟩
theorem NW_one(u:World)(x:Nat):NW 1 (U8 [x]) (u.alloc (.cells #[.int .u8 (x:Int)] 5)) (.slice (some ⟨u.heap.size,0,none⟩) 1 1):=
 ⟨_,1,rfl,.inr ⟨_,rfl,fun j v hj=>by rw[Addr.add0];exact(CV.new u (U8 [x]) 5 j v hj).1⟩⟩
theorem round_a{wr:World}{lv:Value}{tk:List Nat}(hlv:IN wr wr.heap.size lv tk)(hl:tk.length<=1000): ∃v u,(Builtin.append_ #[133,133] 133 #[.slice (some ⟨wr.heap.size,0,none⟩) 0 0,lv]).run Tryz.prog (wr.alloc (.cells #[] 5))= .ok v u/\Bw wr u/\PG wr.heap.size 1 tk.length (U8 tk) u v:=by
 have hB:Bw wr (wr.alloc (.cells #[] 5)):=Z5 (Zf wr) _
 obtain⟨v,u,h1,h2,h3⟩:=app_PZ (ty:=133) (lo:=wr.heap.size) hB.size Z1 ((hlv.below hB).mono hB.size) (PZ_new wr)
 exact⟨v,u,h1,Z7 hB h2,h3⟩
theorem round_b{wr u1:World}{v1:Value}{tk:List Nat}{s:ByteArray}(hB:Bw wr u1)(h:PG wr.heap.size 1 tk.length (U8 tk) u1 v1)(hl:tk.length<=1000)(hs:s.size<=1000): ∃v u,(Builtin.append_ #[133,133] 133 #[v1,.slice (some ⟨u1.heap.size,0,none⟩) s.size (grownCap u1 s.size 0 5)]).run Tryz.prog (Lib.bytesWorld u1 5 s)= .ok v u/\Bw wr u/\PG wr.heap.size 1 (tk++txt s).length (U8 (tk++txt s)) u v:=by
 obtain⟨h1,h2⟩:=IN_of_txt u1 s
 have hB2:=Z7 hB h2
 have htl:=Un s
 have hn:=IN_NW h1
 rw[htl] at hn
 obtain⟨v,u,b,r1,r2,r3,r4⟩:=app_PG (ty:=133) hB2.size rfl htl Z1 hn (h.stab h2)
 refine⟨v,u,r1,hB2.grown r3 hB2.size (fun k e=>by cases e;exact r2),?_⟩
 rw[List.length_append,htl];exact r4
theorem round_c{wr u2:World}{v2:Value}{tk:List Nat}{x:Nat}(hB:Bw wr u2)(h:PG wr.heap.size 1 tk.length (U8 tk) u2 v2)(hl:tk.length<=3000): ∃v u,(Builtin.append_ #[133,133] 133 #[v2,.slice (some ⟨u2.heap.size,0,none⟩) 1 1]).run Tryz.prog (u2.alloc (.cells #[.int .u8 (x:Int)] 5))= .ok v u/\Bw wr u/\IN u u.heap.size v (tk++[x]):=by
 have h2:Bw u2 (u2.alloc (.cells #[.int .u8 (x:Int)] 5)):=Z5 (Zf u2) _
 have hB2:=Z7 hB h2
 obtain⟨v,u,b,r1,r2,r3,r4⟩:=app_PG (ty:=133) (m:=1) (ys:=[x]) hB2.size rfl rfl Z1 (NW_one u2 x) (h.stab h2)
 refine⟨v,u,r1,hB2.grown r3 hB2.size (fun k e=>by cases e;exact r2),?_⟩
 have e:(tk++[x]).length=tk.length+1:=by rw[List.length_append];rfl
 rw[<-e] at r4
 exact PG_in r4
end
section
open Go.RowKit Go.Extern.Stop Go.Stop Go.Extern
def pkE(xs:Nat->Value)(b:Nat->Bool):Nat->List Value
 | 0=>[]
 | i+1=>if b i then pkE xs b i++[xs i] else pkE xs b i
def PJ(l:List Value)(u:World)(y:Value):Prop:=(l=[]/\y= .nilIface)\/ ∃(J bo m co:Nat) (zs:List Value),y= .iface 94 (.pointer (some ⟨J,0,none⟩))/\J<u.heap.size/\bo<u.heap.size/\l.length=m/\0<m/\CV u J [.slice (some ⟨bo,0,none⟩) m co]/\CV u bo (l++zs)
theorem infoEr:(Tryz.prog.info? 49).map (fun i=>(i.zero,i.size,i.bytes))=some (some .nilIface,1,16):=by kernel_rfl
theorem mkEr(n:Nat)(hn:n<=1000000)(w:World):(Instr.makeSlice 93 (iI 0) (iI (n:Int))).run Tryz.prog w= .ok (.slice (some ⟨w.heap.size,0,none⟩) 0 n) (w.alloc (.cells (List.replicate n Value.nilIface).toArray 49)):=by
 obtain⟨i,hi,hi2⟩:=Option.map_eq_some_iff.1 infoEr
 simp only[Prod.mk.injEq] at hi2
 obtain⟨hz,hs,hb⟩:=hi2
 have:=run_makeSlice (P:=Tryz.prog) w 93 49 i .nilIface Tryz.underlying93 hi hz .i64 .i64 0 n Z1 Z1 (by rw[hs];omega) (by rw[hb];omega) Z1
 rw[this,hs]
 simp only[Int.toNat_natCast,Nat.mul_one]
 congr 3
 apply Array.ext'
 simp[madeCells,Value.cells]
 apply List.ext_getElem
 ·simp
 ·intro j h1 h2;simp[Nat.mod_one]
theorem CV.blk{u u2:World}{b:Nat}{l:List Value}(h:CV u b l)(hk:u2.heap[b]?=u.heap[b]?):CV u2 b l:=fun j x hj=>by
 rw[World.cell?_of_block (a:=⟨b,j,none⟩) hk,World.frozen?_of_block (a:=⟨b,j,none⟩) hk];exact h j x hj
theorem bsEr1(T:TypeId)(x:Value)(w:World):(Instr.buildSlice 93 1 #[(0,.iface T x)]).run Tryz.prog w= .ok (.slice (some ⟨w.heap.size,0,none⟩) 1 1) (w.alloc (.cells #[.iface T x] 49)):=by kernel_rfl
theorem app_er{u:World}{bo m co:Nat}{vs zs:List Value}{T:TypeId}{x:Value}{ty:TypeId}(hc:CV u bo (vs++zs))(hb:bo<u.heap.size)(hvl:vs.length=m)(hmc:m<=co)(hz:zs.length=co -m)(hl:m<=1000000):
 ∃v u',(Builtin.append_ #[93,93] ty #[.slice (some ⟨bo,0,none⟩) m co,.slice (some ⟨u.heap.size,0,none⟩) 1 1]).run Tryz.prog (u.alloc (.cells #[.iface T x] 49))= .ok v u'/\(u.alloc (.cells #[.iface T x] 49)).grownBy u' (some bo)/\PH (u.alloc (.cells #[.iface T x] 49)).heap.size bo 1 (m+1) (vs++[.iface T x]) u' v:=by
 obtain⟨ti,hti,htm⟩:=Option.map_eq_some_iff.1 infoEr
 simp only[Prod.mk.injEq] at htm
 obtain⟨hzv,hsz,hby⟩:=htm
 have hss:u.heap.size<=(u.alloc (.cells #[.iface T x] 49)).heap.size:=by simp
 obtain⟨v',u',hr,hg,hp⟩:=V2 (P:=Tryz.prog) (u.alloc (.cells #[.iface T x] 49)) (ty:=ty) Tryz.underlying93 hti hzv (by rw[hsz];rfl) (base:=(u.alloc (.cells #[.iface T x] 49)).heap.size) (n:=m) (cap:=co) (m:=1) (news:=[.iface T x]) (y:= .slice (some ⟨u.heap.size,0,none⟩) 1 1) (hc.below (Z5 (Zf u) _) hb) (Nat.lt_of_lt_of_le hb hss) (by rw[hsz];omega) (by rw[hsz];omega) hmc (Nat.le_refl _) ⟨_,1,rfl,.inr ⟨_,rfl,fun j v hj=>by rw[Addr.add0];exact(CV.new u [.iface T x] 49 j v hj).1⟩⟩ (by rw[hsz];rfl) (fun v hv=>by simp at hv;subst hv;rfl) (by rw[hby];omega) Z1
 rw[hsz] at hp
 exact⟨v',u',hr,hg,hp⟩
theorem join_core(n gcap:Nat)(gsl:Option Addr)(xs:Nat->Value)(b:Nat->Bool)(w:World)(hn:n<=1000000)(hrow:Hid (0<n-> ∃g o,gsl=some ⟨g,o,none⟩/\g<w.heap.size/\ ∀i,i<n->w.cell? ⟨g,o+i,none⟩=some (xs i)))(hb:Hid (∀i,i<n->b i=false/\xs i= .nilIface\/b i=true/\ ∃T x,xs i= .iface T x))(hpl:Hid (∀i,(pkE xs b i).length<=i)):
 Calls Tryz.prog 20 #[.slice gsl n gcap] w fun r u'=> ∃y,r= .returned y/\PJ (pkE xs b n) u' y/\Bw w u':=by
 go_enter Tryz.func20,Tryz.ntmps20
 go_wp2_with fail
 go_loopw [11,3] (fun s11 s3 wr=> ∃i:Nat,i<=n/\s11=iI (i:Int)/\s3=iI (((pkE xs b i).length:Nat):Int)/\Bw w wr) (fun s11 _ _=>n -(intOf s11).toNat)
 case atStart=>exact⟨0,Z1,rfl,rfl,Below.refl _ _⟩
 case round=>
  obtain⟨i,hi,rfl,rfl,HBr⟩:=hrel
  by_cases hj:i<n
  ·have hl2:(i:Int)<(n:Int):=Z1
   obtain⟨g,o,rfl,hg,hcl⟩:=hrow.out Z1
   have hc:wr.cell? ⟨g,o+i,none⟩=some (xs i):=(HBr.cell (p:=⟨g,o+i,none⟩) hg).trans (hcl i hj)
   have hP:=hpl.out i
   have e1:IntKind.i64.wrap ((i:Int)+1)=((i+1:Nat):Int):=wrap1 i n hj hn
   rcases hb.out i hj with⟨b1,b2⟩ | ⟨b1,T,x,b2⟩
   ·rw[b2] at hc
    have e2:pkE xs b (i+1)=pkE xs b i:=by rw[pkE,b1];rfl
    obtain⟨q,eq⟩:=Z3 ((pkE xs b i).length)
    rw[eq]
    clear hcl
    go_wp2
    refine⟨⟨i+1,Z1,by simp,by rw[e2,eq],HBr⟩,?_⟩
    simp[intOf];omega
   ·rw[b2] at hc
    have e2:pkE xs b (i+1)=pkE xs b i++[xs i]:=by rw[pkE,b1];rfl
    obtain⟨q,eq⟩:=Z3 ((pkE xs b i).length)
    have e3:IntKind.i64.wrap ((q:Int)+1)=((q+1:Nat):Int):=by rw[IntKind.wrap_i64];omega
    rw[eq]
    clear hcl
    go_wp2
    refine⟨⟨i+1,Z1,by simp,by rw[e2,List.length_append,eq];simp,HBr⟩,?_⟩
    simp[intOf];omega
  ·have hl2: ¬(i:Int)<(n:Int):=Z1
   have hin:i=n:=Z1
   subst hin
   obtain⟨m,em⟩:=Z3 ((pkE xs b i).length)
   rw[em]
   by_cases hm:m=0
   ·subst hm
    go_wp2
    exact bodyPost_ret (v:= .nilIface) (by simp[results,Tryz.results20,go_sem]) rfl ⟨_,rfl,.inl ⟨List.eq_nil_of_length_eq_zero em,rfl⟩,HBr⟩
   ·have hm2: ¬(m:Int)=0:=Z1
    have hmk:=mkEr m (by have:=hpl.out i;omega)
    have hbe:=bsEr1
    obtain⟨wo,rfl⟩:=Zr wr
    have hK1:CV ((wo.alloc (.cells (List.replicate m Value.nilIface).toArray 49)).alloc (.cells [Value.slice (some ⟨wo.heap.size,0,none⟩) 0 m].toArray 96)) (wo.heap.size+1) [.slice (some ⟨wo.heap.size,0,none⟩) 0 m]:=CV.newAt _ _ _ _ (by simp)
    have hK2:CV ((wo.alloc (.cells (List.replicate m Value.nilIface).toArray 49)).alloc (.cells [Value.slice (some ⟨wo.heap.size,0,none⟩) 0 m].toArray 96)) wo.heap.size (List.replicate m Value.nilIface):=(CV.new wo _ _).below (Z5 (Zf _) _) (by simp)
    have hBn:Bw w ((wo.alloc (.cells (List.replicate m Value.nilIface).toArray 49)).alloc (.cells [Value.slice (some ⟨wo.heap.size,0,none⟩) 0 m].toArray 96)):=Z5 (Z5 HBr _) _
    have hso:=HBr.size
    simp only[List.toArray_replicate] at hK1 hK2 hBn
    have hK1:Hid _:=hK1
    have hK2:Hid _:=hK2
    go_wp2_with fail
    go_loopw [28] (fun s28 wx=> ∃(j bo co:Nat) (zs:List Value),j<=i/\s28=iI (j:Int)/\Hid (CV wx (wo.heap.size+1) [.slice (some ⟨bo,0,none⟩) (pkE xs b j).length co])/\(pkE xs b j).length<=co/\zs.length=co -(pkE xs b j).length/\w.heap.size<=bo/\bo<wx.heap.size/\bo≠wo.heap.size+1/\wo.heap.size+1<wx.heap.size/\Hid (CV wx bo (pkE xs b j++zs))/\Bw w wx) (fun s28 _=>i -(intOf s28).toNat)
    case atStart=>exact⟨0,wo.heap.size,m,List.replicate m .nilIface,Z1,rfl,hK1.out,Nat.zero_le _,by simp[pkE],Z1,by (simp<;>omega),Z1,by (simp<;>omega),hK2.out,hBn⟩
    case round=>
     obtain⟨j,bo,co,zs,hji,rfl,CJ,hmc,hzl,hlo,hlt,hne,hJ,CB,HBx⟩:=hrel
     clear hK1 hK2 hBn
     obtain⟨q,eq⟩:=Z3 ((pkE xs b j).length)
     rw[eq] at CJ hmc hzl
     by_cases hj:j<i
     ·have hl3:(j:Int)<(i:Int):=Z1
      obtain⟨g,o,rfl,hg,hcl⟩:=hrow.out Z1
      have hc:wr.cell? ⟨g,o+j,none⟩=some (xs j):=(HBx.cell (p:=⟨g,o+j,none⟩) hg).trans (hcl j hj)
      have hP:=hpl.out j
      have e1:IntKind.i64.wrap ((j:Int)+1)=((j+1:Nat):Int):=wrap1 j i hj hn
      rcases hb.out j hj with⟨b1,b2⟩ | ⟨b1,T,x,b2⟩
      ·rw[b2] at hc
       have e2:pkE xs b (j+1)=pkE xs b j:=by rw[pkE,b1];rfl
       clear hcl
       go_wp2
       refine⟨⟨j+1,bo,co,zs,Z1,by simp,by rw[e2,eq];exact CJ,by rw[e2,eq];exact hmc,by rw[e2,eq];exact hzl,hlo,hlt,hne,hJ,by rw[e2];exact CB,HBx⟩,?_⟩
       simp[intOf];omega
      ·rw[b2] at hc
       have e2:pkE xs b (j+1)=pkE xs b j++[.iface T x]:=by rw[pkE,b1,b2];rfl
       obtain⟨v2,ub,r2,rg2,b5,c5,z5,rfl,f1,f2,f3,f4,f5⟩:=app_er (ty:=93) (T:=T) (x:=x) CB.out hlt eq hmc hzl Z1
       have hJc:=(CJ.out 0 _ rfl).1
       have hBa:Bw w (wr.alloc (.cells #[.iface T x] 49)):=Z5 HBx _
       have hBb:Bw w ub:=hBa.grown rg2 hBa.size (fun k e=>by cases e;exact hlo)
       have hsa:wr.heap.size<=(wr.alloc (.cells #[.iface T x] 49)).heap.size:=by simp
       have CJ2:CV ub (wo.heap.size+1) [.slice (some ⟨bo,0,none⟩) q co]:=(CJ.out.below (Z5 (Zf wr) (.cells #[.iface T x] 49)) hJ).blk (rg2.block _ (Nat.lt_of_lt_of_le hJ hsa) (fun e=>hne (by cases e;rfl)))
       have hJd:=(CJ2 0 _ rfl).1
       have hJf:=(CJ2 0 _ rfl).2
       have hsu:=rg2.size
       have hb5:w.heap.size<=b5:=by have:=hBa.size;rcases f1 with h | h<;>omega
       have hn5:b5≠wo.heap.size+1:=by rcases f1 with h | h<;>omega
       rw[Nat.mul_one] at f4
       have CJ3:Hid (CV (ub.setCell ⟨wo.heap.size+1,0,none⟩ (.slice (some ⟨b5,0,none⟩) (q+1) c5)) (wo.heap.size+1) [.slice (some ⟨b5,0,none⟩) (q+1) c5]):=CJ2.setC 0 (by simp) _
       have CB3:Hid (CV (ub.setCell ⟨wo.heap.size+1,0,none⟩ (.slice (some ⟨b5,0,none⟩) (q+1) c5)) b5 ((pkE xs b j++[.iface T x])++z5)):=f5.blk (Below.heap_setCell ub ⟨wo.heap.size+1,0,none⟩ _ b5 hn5)
       have hBc:Bw w (ub.setCell ⟨wo.heap.size+1,0,none⟩ (.slice (some ⟨b5,0,none⟩) (q+1) c5)):=hBb.setCell (by show w.heap.size<=wo.heap.size+1;omega) _
       clear hcl CJ2 f5 rg2
       go_wp2_with (at_builtin;refine Y2 rfl _ _ 93 rfl _ _ _ rfl rfl r2 ?_;clear r2)
       refine⟨⟨j+1,b5,c5,z5,Z1,by simp,by rw[e2,List.length_append,eq];exact CJ3,by rw[e2,List.length_append,eq];exact f3,by rw[e2,List.length_append,eq];exact f4,hb5,by simpa using f2,hn5,by simp;omega,by rw[e2];exact CB3,hBc⟩,?_⟩
       simp[intOf];omega
     ·have hl3: ¬(j:Int)<(i:Int):=Z1
      have hin:j=i:=Z1
      subst hin
      go_wp2
      refine bodyPost_ret (v:= .iface 94 (.pointer (some ⟨wo.heap.size+1,0,none⟩))) (by simp[results,Tryz.results20,go_sem]) rfl ⟨_,rfl,.inr ⟨wo.heap.size+1,bo,m,co,zs,rfl,hJ,hlt,em,Z1,?_,CB.out⟩,HBx⟩
      rw[<-em,eq];exact CJ.out
end
end Go.Proofs.YtoffgfhilkpdpaaGreatDoor
