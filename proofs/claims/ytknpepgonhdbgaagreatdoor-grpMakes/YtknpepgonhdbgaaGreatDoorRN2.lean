import Derived.Test.YtknpepgonhdbgaaGreatDoorRN1
import Derived.Laws.CopyOwn
namespace Go.Proofs.YtknpepgonhdbgaaGreatDoor
set_option linter.unusedVariables false
set_option linter.unusedSimpArgs false
set_option maxRecDepth 100000
set_option maxHeartbeats 4000000
section
open Go.RowKit
set_option maxHeartbeats 8000000 in
theorem cExtractR_z(n cap:Nat)(sl:Option Addr)(y:Value)(ds:List Nat)(w:World)(hds:ds.length=32)(hn:n=0)(hS:Hid (∀(u:World) (bz:Nat),Bw w u->CV u bz (U8 (List.replicate 32 0))->bz<u.heap.size->CC 127 #[.slice (some ⟨bz,0,none⟩) 32 32,y] u (.agg (U8 ds).toArray))):
 CC 110 #[.slice sl n cap,y] w (.agg (U8 ds).toArray):=by
 go_enter Tryz.func110,Tryz.ntmps110
 go_upto_region 1 with fail
 generalize hC:(w.alloc (.cells (Z32b:List Value).toArray 133))=v0 at *
 have HB0:Bw w v0:=by rw[<-hC];exact Z0 (Z5 w) _
 have K0:Bk w.heap.size v0 [(true,w.heap.size,U8 z32)]:=by rw[<-hC];exact(Bk.nil _ w).ad
 clear hC
 refine rgP K0 HB0 HB0.size [] [] [(0,5,(.slice sl n cap)),(1,6,.int .i64 ((n:Nat):Int)),(2,7,.bool true)] [] [] [] ?_ ?_
 ·exact oc g_mv<|oc (g_ln Tryz.underlying36)<|oc (g_bn (fun uZ=>eql_it _ _ ((n:Nat):Int) 0 true uZ (by simp;omega))) on
 intro u1 HB1 sz1 K1
 simp only[sQ] at K1⊢
 clear K0 HB0
 have hlt4:=(K1.lt 0)
 have hlo4:=HB1.size
 go_upto_region 2 with fail
 refine rgF K1 HB1 HB1.size [] [] [] [] [] [⟨0,8,some 1,PF u1.heap.size 32 (U8 (List.replicate 32 0))⟩,⟨1,0,none,PF u1.heap.size 32 (U8 (List.replicate 32 0))⟩] [] (.cons (fun _ _ _ h1 h2=>h2.stab h1)<| .cons (fun _ _ _ h1 h2=>h2.stab h1)<|Stab.nil) ?_ ?_
 ·exact oc (g_ms 0 (PF u1.heap.size 32 (U8 (List.replicate 32 0))) (mkB .i64 32 (by decide)) (fun u hu=>PF.new 32 _ _ u hu))<|oc (g_sE 0 1 (PF u1.heap.size 32 (U8 (List.replicate 32 0)))) on
 intro u2 v2_0 hv2_0 v2_1 hv2_1 HB2 sz2 K2
 simp only[sQ] at K2⊢
 clear K1 HB1
 obtain⟨bz,rfl,ho1,ho2,hoC⟩:=hv2_1 rfl
 have K2_1:Bk w.heap.size u2 [(true,w.heap.size,U8 z32),(false,bz,U8 (List.replicate 32 0))]:=⟨.o (K2.lt 0) (by omega) (K2.cv 0)<| .c ho2 hoC<|trivial,by simp;omega⟩
 go_upto_region 3 with fail
 refine rgP K2_1 HB2 HB2.size [.all 3 (U8 ds)] [] [(0,9,.slice (some ⟨bz,0,none⟩) 32 32),(1,10,y),(2,11,.agg (U8 ds).toArray)] [] [] [] ?_ ?_
 ·exact oc g_mv<|oc g_mv<|oc (g_cK X9 (fun fZ uZ kZ sZ bZ=>hS.out uZ bz bZ (kZ.cv 1) (kZ.lb sZ 1)))<|oc (g_st 0 Z3 (h1:=Yo _) (hm:=by rw[Z2,hds]) (hl:=by first | rw[Z2,Z2,hds,show z32.length=32 from rfl] | rfl)) on
 intro u3 HB3 sz3 K3
 simp only[sQ] at K3⊢
 clear HB2
 go_wp2
 refine bodyPost_ret (Zz Tryz.results110 rfl (K3.cv 0) Tryz.underlying133 rfl (by rw[Z2,hds];exact Z3)) rfl ⟨rfl,HB3⟩
set_option maxHeartbeats 8000000 in
theorem cExtractR_c(n cap:Nat)(sl:Option Addr)(y:Value)(ds:List Nat)(w:World)(hds:ds.length=32)(hn:0<n)(hS:Hid (∀(u:World),Bw w u->CC 127 #[(.slice sl n cap),y] u (.agg (U8 ds).toArray))):
 CC 110 #[.slice sl n cap,y] w (.agg (U8 ds).toArray):=by
 go_enter Tryz.func110,Tryz.ntmps110
 go_upto_region 1 with fail
 generalize hC:(w.alloc (.cells (Z32b:List Value).toArray 133))=v0 at *
 have HB0:Bw w v0:=by rw[<-hC];exact Z0 (Z5 w) _
 have K0:Bk w.heap.size v0 [(true,w.heap.size,U8 z32)]:=by rw[<-hC];exact(Bk.nil _ w).ad
 clear hC
 refine rgP K0 HB0 HB0.size [] [] [(0,5,(.slice sl n cap)),(1,6,.int .i64 ((n:Nat):Int)),(2,7,.bool false)] [] [] [] ?_ ?_
 ·exact oc g_mv<|oc (g_ln Tryz.underlying36)<|oc (g_bn (fun uZ=>eql_it _ _ ((n:Nat):Int) 0 false uZ (by simp;omega))) on
 intro u1 HB1 sz1 K1
 simp only[sQ] at K1⊢
 clear K0 HB0
 go_upto_region 3 with fail
 refine rgP K1 HB1 HB1.size [.all 3 (U8 ds)] [] [(0,9,(.slice sl n cap)),(1,10,y),(2,11,.agg (U8 ds).toArray)] [] [] [] ?_ ?_
 ·exact oc g_mv<|oc g_mv<|oc (g_cb X9 (fun uZ bZ=>hS.out uZ bZ))<|oc (g_st 0 Z3 (h1:=Yo _) (hm:=by rw[Z2,hds]) (hl:=by first | rw[Z2,Z2,hds,show z32.length=32 from rfl] | rfl)) on
 intro u2 HB2 sz2 K2
 simp only[sQ] at K2⊢
 clear K1 HB1
 go_wp2
 refine bodyPost_ret (Zz Tryz.results110 rfl (K2.cv 0) Tryz.underlying133 rfl (by rw[Z2,hds];exact Z3)) rfl ⟨rfl,HB2⟩
theorem cExtractR(ks xs:List Nat)(v y:Value)(w:World)(hin:IN w w.heap.size v ks)(hin2:IN w w.heap.size y xs)(hk: ∀x∈ks,x<256)(hx: ∀x∈xs,x<256)(hkl:ks.length<=1000)(hl:xs.length<=90000):
 CC 110 #[v,y] w (.agg (U8 (mac ks xs)).toArray):=by
 have hin0:=hin
 obtain⟨sl,cap,gb,go,rfl,h1,h2,h3,h4⟩:=hin
 by_cases h0:ks.length=0
 ·have hks:ks=[]:=List.length_eq_zero_iff.1 h0
  have e:mac (List.replicate 32 0) xs=mac ks xs:=by
   rw[hks]
   have:=whl_zeros [] 32 (by decide)
   rw[List.nil_append] at this
   unfold mac;rw[this]
  refine cExtractR_z ks.length cap sl y (mac ks xs) w (mac_B _ _).len h0 (fun u bz hB hc hb=>?_)
  rw[<-e]
  exact cMacR (List.replicate 32 0) xs _ y u (CV_in (by simp) hc hb) ((hin2.below hB).mono hB.size) (fun x hx=>by rw[List.eq_of_mem_replicate hx];decide) hx (by simp) hl
 ·exact cExtractR_c ks.length cap sl y (mac ks xs) w (mac_B _ _).len (by omega) (fun u hB=>cMacR ks xs _ y u ((hin0.below hB).mono hB.size) ((hin2.below hB).mono hB.size) hk hx (by omega) (by omega))
set_option maxHeartbeats 8000000 in
theorem cExtract_core(v y:Value)(ds:List Nat)(w:World)(hds:ds.length=32)(hS:Hid (∀(u:World),Bw w u->CC 128 #[v,y] u (.agg (U8 ds).toArray))):
 CC 112 #[v,y] w (.agg (U8 ds).toArray):=by
 go_enter Tryz.func112,Tryz.ntmps112
 go_upto_region 1 with fail
 generalize hC:(w.alloc (.cells (Z32b:List Value).toArray 133))=v0 at *
 have HB0:Bw w v0:=by rw[<-hC];exact Z0 (Z5 w) _
 have K0:Bk w.heap.size v0 [(true,w.heap.size,U8 z32)]:=by rw[<-hC];exact(Bk.nil _ w).ad
 clear hC
 refine rgP K0 HB0 HB0.size [.all 3 (U8 ds)] [] [(0,5,v),(1,6,y),(2,7,.agg (U8 ds).toArray)] [] [] [] ?_ ?_
 ·exact oc g_mv<|oc g_mv<|oc (g_cb ent_mac_Sum (fun uZ bZ=>hS.out uZ bZ))<|oc (g_st 0 Z3 (h1:=Yo _) (hm:=by rw[Z2,hds]) (hl:=by first | rw[Z2,Z2,hds,show z32.length=32 from rfl] | rfl)) on
 intro u1 HB1 sz1 K1
 simp only[sQ] at K1⊢
 clear K0 HB0
 go_wp2
 refine bodyPost_ret (Zz Tryz.results112 rfl (K1.cv 0) Tryz.underlying133 rfl (by rw[Z2,hds];exact Z3)) rfl ⟨rfl,HB1⟩
theorem cExtract(ks xs:List Nat)(v v2:Value)(w:World)(hV:GV w)(hin:IN w w.heap.size v ks)(hsn: ∀n c,v= .slice none n c->c=0)(hin2:IN w w.heap.size v2 xs)(hk: ∀x∈ks,x<256)(hx: ∀x∈xs,x<256)(hkl:ks.length<=1000)(hl:xs.length<=1000):
 CC 112 #[v,v2] w (.agg (U8 (mac ks xs)).toArray):=
 cExtract_core v v2 (mac ks xs) w (mac_B _ _).len (fun u hB=>cMac ks xs v v2 u (hV.below hB hV.sz) ((hin.below hB).mono hB.size) hsn ((hin2.below hB).mono hB.size) hk hx (by omega) (by omega))
theorem Yv{P:Program}{w w':World}{ops:Array Oper}{rest:List Oper}{o:Oper}{a:Act}{Q:Exit->Act->World->Prop}(hgd:o.guard=none)(s x:Operand)(t:TypeId)(ho:o.op= .call {callee:= .builtin .append,args:=#[s,x],argTypes:=#[t,t]})(vs vx v:Value)(hs:a.eval s=vs)(hx:a.eval x=vx)(hr:(Builtin.append_ #[t,t] o.type #[vs,vx]).run P w= .ok v w')(h:wpList P ops Q rest (a.put o.dst v) w'):wpList P ops Q (o::rest) a w:=by
 refine wpList_plain hgd fun K hK=>?_
 unfold Oper.wp execOp
 simp only[ho,resolve,invoke,builtin,Sem.run_bind,Sem.run_pure,Result.andThen_ok,List.map_toArray,List.map_cons,List.map_nil,hs,hx,hr]
 exact hK _ _ h
def PTX(e:Int)(xs:List Nat)(u:World)(v:Value):Prop:= ∃y,v= .tuple #[y,.int .i64 e]/\IN u u.heap.size y xs
theorem app_row{n m bo co:Nat}{xs ys:List Nat}{zs:List Value}{y:Value}{ty:TypeId}{u:World}(hc:CV u bo (U8 xs++zs))(hb:bo<u.heap.size)(hxl:xs.length=n)(hyl:ys.length=m)(hnc:n<=co)(hz:zs.length=co -n)(hl:n+m<=1000000)(hy:NW m (U8 ys) u y):
 ∃v u',(Builtin.append_ #[36,36] ty #[.slice (some ⟨bo,0,none⟩) n co,y]).run Tryz.prog u= .ok v u'/\u.grownBy u' (some bo)/\PH u.heap.size bo 1 (n+m) (U8 (xs++ys)) u' v:=by
 obtain⟨ti,hti,htm⟩:=Option.map_eq_some_iff.1 infoB
 simp only[Prod.mk.injEq] at htm
 obtain⟨hzv,hsz,hby⟩:=htm
 obtain⟨v',u',hr,hg,hp⟩:=run_app (P:=Tryz.prog) u (ty:=ty) Tryz.underlying36 hti hzv (by rw[hsz];rfl) (base:=u.heap.size) (n:=n) (cap:=co) (m:=m) (news:=U8 ys) hc hb (by rw[hsz,Z2];omega) (by rw[hsz];omega) hnc (Nat.le_refl _) hy (by rw[hsz,Z2];omega) Vg (by rw[hby];omega) (by omega)
 rw[hsz,<-W2] at hp
 exact⟨v',u',hr,hg,hp⟩
theorem IN_of_txt(u:World)(s:ByteArray):IN (Lib.bytesWorld u 5 s) (Lib.bytesWorld u 5 s).heap.size (.slice (some ⟨u.heap.size,0,none⟩) s.size (grownCap u s.size 0 5)) (txt s)/\Bw u (Lib.bytesWorld u 5 s):=by
 have hsz:=Lib.bytesWorld_size u 5 s
 refine⟨⟨_,_,u.heap.size,0,by rw[W3],by rw[W3];exact grownCap_ge u s.size 0 _,.inr rfl,by omega,fun j hj=>?_⟩,⟨rfl,rfl,rfl,by omega,fun k hk=>Lib.bytesWorld_at_old u 5 s k hk⟩⟩
 rw[W3] at hj
 rw[Nat.zero_add,Lib.bytesWorld_cell u 5 s j hj]
 have hj2:j<s.data.toList.length:=by rw[Array.length_toList];exact hj
 have e1:s.data.toList.getD j 0=s.data.toList[j]:=by rw[List.getD_eq_getElem?_getD,List.getElem?_eq_getElem hj2];rfl
 have e2:(txt s).getD j 0=(s.data.toList[j]).toNat:=by rw[List.getD_eq_getElem?_getD,txt,List.getElem?_map,List.getElem?_eq_getElem hj2];rfl
 rw[e1,e2]
theorem PZ_new(u:World):PZ u.heap.size (u.alloc (.cells #[] 5)) (.slice (some ⟨u.heap.size,0,none⟩) 0 0):=⟨_,rfl,Nat.le_refl _,by simp⟩
theorem NW_one(u:World)(x:Nat):NW 1 (U8 [x]) (u.alloc (.cells #[.int .u8 (x:Int)] 5)) (.slice (some ⟨u.heap.size,0,none⟩) 1 1):=
 ⟨_,1,rfl,.inr ⟨_,rfl,fun j v hj=>by rw[Addr.add0];exact(CV.new u (U8 [x]) 5 j v hj).1⟩⟩
theorem round_a{wr:World}{lv:Value}{tk:List Nat}(hlv:IN wr wr.heap.size lv tk)(hl:tk.length<=1000): ∃v u,(Builtin.append_ #[36,36] 36 #[.slice (some ⟨wr.heap.size,0,none⟩) 0 0,lv]).run Tryz.prog (wr.alloc (.cells #[] 5))= .ok v u/\Bw wr u/\PG wr.heap.size 1 tk.length (U8 tk) u v:=by
 have hB:Bw wr (wr.alloc (.cells #[] 5)):=Z0 (Z5 wr) _
 obtain⟨v,u,h1,h2,h3⟩:=app_PZ (ty:=36) (lo:=wr.heap.size) hB.size (by omega) ((hlv.below hB).mono hB.size) (PZ_new wr)
 exact⟨v,u,h1,Zt hB h2,h3⟩
theorem round_b{wr u1:World}{v1:Value}{tk:List Nat}{s:ByteArray}(hB:Bw wr u1)(h:PG wr.heap.size 1 tk.length (U8 tk) u1 v1)(hl:tk.length<=1000)(hs:s.size<=1000): ∃v u,(Builtin.append_ #[36,36] 36 #[v1,.slice (some ⟨u1.heap.size,0,none⟩) s.size (grownCap u1 s.size 0 5)]).run Tryz.prog (Lib.bytesWorld u1 5 s)= .ok v u/\Bw wr u/\PG wr.heap.size 1 (tk++txt s).length (U8 (tk++txt s)) u v:=by
 obtain⟨h1,h2⟩:=IN_of_txt u1 s
 have hB2:=Zt hB h2
 have htl:=W3 s
 have hn:=IN_NW h1
 rw[htl] at hn
 obtain⟨v,u,b,r1,r2,r3,r4⟩:=app_PG (ty:=36) hB2.size rfl htl (by omega) hn (h.stab h2)
 refine⟨v,u,r1,hB2.grown r3 hB2.size (fun k e=>by cases e;exact r2),?_⟩
 rw[List.length_append,htl];exact r4
theorem round_c{wr u2:World}{v2:Value}{tk:List Nat}{x:Nat}(hB:Bw wr u2)(h:PG wr.heap.size 1 tk.length (U8 tk) u2 v2)(hl:tk.length<=3000): ∃v u,(Builtin.append_ #[36,36] 36 #[v2,.slice (some ⟨u2.heap.size,0,none⟩) 1 1]).run Tryz.prog (u2.alloc (.cells #[.int .u8 (x:Int)] 5))= .ok v u/\Bw wr u/\IN u u.heap.size v (tk++[x]):=by
 have h2:Bw u2 (u2.alloc (.cells #[.int .u8 (x:Int)] 5)):=Z0 (Z5 u2) _
 have hB2:=Zt hB h2
 obtain⟨v,u,b,r1,r2,r3,r4⟩:=app_PG (ty:=36) (m:=1) (ys:=[x]) hB2.size rfl rfl (by omega) (NW_one u2 x) (h.stab h2)
 refine⟨v,u,r1,hB2.grown r3 hB2.size (fun k e=>by cases e;exact r2),?_⟩
 have e:(tk++[x]).length=tk.length+1:=by rw[List.length_append];rfl
 rw[<-e] at r4
 exact PG_in r4
theorem NW_full2{u:World}{b n cap:Nat}{xs:List Nat}{zs:List Value}(hl:xs.length=n)(h:CV u b (U8 xs++zs)):NW n (U8 xs) u (.slice (some ⟨b,0,none⟩) n cap):=
 ⟨_,cap,rfl,.inr ⟨_,rfl,fun j v hj=>by rw[Addr.add0];exact(h.pre2 j v hj).1⟩⟩
theorem cExpandR_core(kv:Value)(s:ByteArray)(n:Nat)(tS oS:Nat->List Nat)(w:World)(hn:n<=8160)(hs:s.size<=1000)(ht0:Hid (tS 0=[]))(htB:Hid (∀k,BB 32 (tS (k+1))))(htl:Hid (∀k,(tS k).length<=32))(ho0:Hid (oS 0=[]))(hos:Hid (∀k,oS (k+1)=oS k++tS (k+1)))(hol:Hid (∀k,(oS k).length=32*k))
 (hSu:Hid (∀(k:Nat) (u:World) (z:Value),Bw w u->IN u u.heap.size z ((tS k++txt s)++[(k+1)%256])->CC 127 #[kv,z] u (.agg (U8 (tS (k+1))).toArray))):
 Calls Tryz.prog 111 #[kv,.string s,.int .i64 (n:Int)] w fun e w'=> ∃v,e= .returned v/\(∃k,n<=32*k/\PTX 0 ((oS k).take n) w' v)/\Bw w w':=by
 have hbs:=bs0b
 have hn0: ¬(n:Int)<0:=by omega
 have hn1: ¬(8160:Int)<(n:Int):=by omega
 go_enter Tryz.func111,Tryz.ntmps111
 go_wp2_with fail
 go_loopw [10,9,8] (fun s10 s9 s8 wr=> ∃(k bo co:Nat) (zs:List Value),s10= .int .i64 ((k+1:Nat):Int)/\s8= .slice (some ⟨bo,0,none⟩) (32*k) co/\32*k<=co/\zs.length=co -32*k/\w.heap.size<=bo/\bo<wr.heap.size/\Hid (CV wr bo (U8 (oS k)++zs))/\Hid (INb wr bo s9 (tS k))/\k<=255/\Bw w wr) (fun _ _ s8 _=>n -lenV s8)
 case atStart=>
  exact⟨0,w.heap.size,0,[],rfl,rfl,by omega,rfl,Nat.le_refl _,by simp;omega,(by rw[ho0.out];exact fun j v h=>by simp[U8] at h),(by rw[ht0.out];exact⟨_,0,w.heap.size+1,0,rfl,Nat.le_refl _,.inl rfl,by simp,by omega,fun j hj=>by simp at hj⟩),by omega,Z0 (Z0 (Z5 w) _) _⟩
 case round=>
  obtain⟨k,bo,co,zs,rfl,rfl,hco,hzl,hbo,hlo,Ko,hlv,hk,HBr⟩:=hrel
  by_cases hj:32*k<n
  ·have hl1:decide (((32*k:Nat):Int)<(n:Int))=true:=by simp;omega
   have hl2:(32:Int)*(k:Int)<(n:Int):=by omega
   have hS:=hSu.out k
   have hT:=htl.out k
   have hTn:=htB.out k
   have hO:=hos.out k
   have hOl:=hol.out k
   obtain⟨tk,etk⟩: ∃x,tS k=x:=⟨_,rfl⟩
   obtain⟨tn,etn⟩: ∃x,tS (k+1)=x:=⟨_,rfl⟩
   obtain⟨ol,eol⟩: ∃x,oS k=x:=⟨_,rfl⟩
   obtain⟨ib,eib⟩: ∃x,(k+1)%256=x:=⟨_,rfl⟩
   rw[etk] at hS hT hlv
   rw[etn] at hS hTn hO
   rw[eol] at hO hOl Ko
   rw[eib] at hS
   have e8:IntKind.u8.wrap ((k:Int)+1)=(ib:Int):=by
    rw[<-eib];simp[IntKind.wrap,IntKind.signed,IntKind.bits]
   have e1:IntKind.i64.wrap ((k:Int)+1+1)=(k:Int)+1+1:=by rw[IntKind.wrap_i64];omega
   have hts:=W3 s
   obtain⟨v1,u1,r1,rB1,rp1⟩:=round_a (INb.inn hlv.out) (by omega)
   have hcv:=fun(u:World)=>Lib.run_convert_string_bytes (P:=Tryz.prog) u 9 36 5 s Tryz.underlying9 Tryz.underlying36 Tryz.underlying5
   obtain⟨v2,u2,r2,rB2,rp2⟩:=round_b rB1 rp1 (by omega) hs
   obtain⟨v3,u3,r3,rB3,rp3⟩:=round_c (x:=ib) rB2 rp2 (by rw[List.length_append,hts];omega)
   have hc3:=hS u3 v3 (Zt HBr rB3) rp3
   have hst:=sc32 tn hTn.len
   have hU:(U8 tn).length=32:=by rw[Z2];exact hTn.len
   have hS:Hid _:=hS
   have hO:Hid _:=hO
   have hTn:Hid _:=hTn
   have hOl:Hid _:=hOl
   have etn:Hid _:=etn
   clear rp1 rp2 rp3 etk eol eib hT
   go_upto_region 10 with(first | (at_builtin;refine Yv rfl _ _ 36 rfl _ _ _ rfl rfl r1 ?_;clear r1) | (at_builtin;refine Yv rfl _ _ 36 rfl _ _ _ rfl rfl r2 ?_;clear r2) | (at_builtin;refine Yv rfl _ _ 36 rfl _ _ _ rfl rfl r3 ?_;clear r3) | (go_at_call 127;refine hc3.mono ?_;rintro e u4 ⟨rfl,hB4⟩;clear hc3))
   have hBA:Bw wr u4:=Zt rB3 hB4
   have K0:=bk32 tn hTn.out.len wr.heap.size u4 hBA.size
   have HB0:Bw wr ((u4.alloc (.cells #[.int .u8 0,.int .u8 0,.int .u8 0,.int .u8 0,.int .u8 0,.int .u8 0,.int .u8 0,.int .u8 0,.int .u8 0,.int .u8 0,.int .u8 0,.int .u8 0,.int .u8 0,.int .u8 0,.int .u8 0,.int .u8 0,.int .u8 0,.int .u8 0,.int .u8 0,.int .u8 0,.int .u8 0,.int .u8 0,.int .u8 0,.int .u8 0,.int .u8 0,.int .u8 0,.int .u8 0,.int .u8 0,.int .u8 0,.int .u8 0,.int .u8 0,.int .u8 0] 133)).setCells u4.heap.size 0 (U8 tn)):=Ze hBA.size (U8 tn) 0 _ (Z0 hBA _)
   generalize hC:((u4.alloc (.cells #[.int .u8 0,.int .u8 0,.int .u8 0,.int .u8 0,.int .u8 0,.int .u8 0,.int .u8 0,.int .u8 0,.int .u8 0,.int .u8 0,.int .u8 0,.int .u8 0,.int .u8 0,.int .u8 0,.int .u8 0,.int .u8 0,.int .u8 0,.int .u8 0,.int .u8 0,.int .u8 0,.int .u8 0,.int .u8 0,.int .u8 0,.int .u8 0,.int .u8 0,.int .u8 0,.int .u8 0,.int .u8 0,.int .u8 0,.int .u8 0,.int .u8 0,.int .u8 0] 133)).setCells u4.heap.size 0 (U8 tn))=v0 at *
   have hsz4:=hBA.size
   have hc0:=K0.cv 0
   have hl0:=K0.lt 0
   clear hst hcv hB4 rB3 rB2 rB1 hBA hC K0
   obtain⟨v4,u5,r4,rB4,b4,c4,z4,rfl,g1,g2,g3,g4,g5⟩:=round_a (wr:=v0) (lv:= .slice (some ⟨u4.heap.size,0,none⟩) 32 32) (tk:=tn) (CV_in hTn.out.len hc0 hl0) (by rw[hTn.out.len];omega)
   rw[hTn.out.len] at r4 g3 g4
   rw[Nat.mul_one] at g4
   have hB5:Bw wr u5:=Zt HB0 rB4
   obtain⟨v5,u6,r5,rg5,b6,c6,z6,rfl,f1,f2,f3,f4,f5⟩:=app_row (ty:=36) (Ko.out.below hB5 hlo) (Nat.lt_of_lt_of_le hlo hB5.size) hOl.out hTn.out.len hco hzl (by omega) (NW_full2 (n:=32) (cap:=c4) (zs:=z4) hTn.out.len g5)
   rw[Nat.mul_one] at f4
   rw[<-hO.out] at f5
   have f5:Hid _:=f5
   have g5:Hid _:=g5
   have h32:32*k+32=32*(k+1):=by omega
   rw[h32] at r5 f3 f4
   have hw6:32*(k+1)<=c6:=f3
   go_wp2_with (first | (at_builtin;refine Yv rfl _ _ 36 rfl _ _ _ rfl rfl r4 ?_;clear r4) | (at_builtin;refine Yv rfl _ _ 36 rfl _ _ _ rfl rfl r5 ?_;clear r5))
   have hs1:=HBr.size
   have hs2:=HB0.size
   have hs3:=hB5.size
   have hBw:Bw w u6:=(Zt HBr hB5).grown rg5 (by omega) (fun j e=>by cases e;exact hbo)
   have hb4:b4≠bo:=by omega
   have hin4:INb u6 b6 (.slice (some ⟨b4,0,none⟩) 32 c4) tn:=by
    refine⟨_,c4,b4,0,by rw[hTn.out.len],by rw[hTn.out.len];exact g3,.inr rfl,Nat.lt_of_lt_of_le g2 rg5.size,by omega,fun j hj=>?_⟩
    have hk:u6.heap[b4]?=u5.heap[b4]?:=rg5.block _ g2 (fun e=>hb4 (by cases e;rfl))
    rw[Nat.zero_add,World.cell?_of_block (a:=⟨b4,j,none⟩) hk]
    exact((CV.pre2 g5.out) j _ (Zx tn j hj)).1
   refine⟨⟨k+1,b6,c6,z6,by simp,rfl,hw6,by omega,by omega,f2,f5,(by rw[etn.out];exact hin4),by omega,hBw⟩,?_⟩
   simp[lenV];omega
  ·have hl1:decide (((32*k:Nat):Int)<(n:Int))=false:=by simp;omega
   have hl2: ¬(32:Int)*(k:Int)<(n:Int):=by omega
   have hnk:n<=32*k:=by omega
   have hnc:(n:Int)<=(co:Int):=by omega
   have hsl:=fun(u:World)=>slHB (some ⟨bo,0,none⟩) (32*k) co n hnk hco (fun e=>by cases e) u
   go_wp2
   have hOl:=hol.out k
   have hnl:((oS k).take n).length=n:=by rw[List.length_take,hOl];omega
   refine bodyPost_ret (v:= .tuple #[.slice (some ⟨bo,0,none⟩) n co,.int .i64 0]) (by simp[results,Tryz.results111,go_sem]) rfl ⟨_,rfl,⟨k,hnk,_,rfl,_,co,bo,0,by rw[hnl],by rw[hnl];omega,.inr rfl,hlo,fun j hj=>?_⟩,HBr⟩
   rw[hnl] at hj
   rw[Nat.zero_add,List.getD_eq_getElem?_getD,List.getElem?_take_of_lt hj,<-List.getD_eq_getElem?_getD]
   exact((CV.pre2 Ko.out) j _ (Zx (oS k) j (by omega))).1
theorem cExpandR_neg(kv:Value)(s:ByteArray)(x:Int)(w:World)(hx:x<0):CC 111 #[kv,.string s,.int .i64 x] w (.tuple #[.slice none 0 0,.int .i64 2]):=by
 go_enter Tryz.func111,Tryz.ntmps111
 go_wp2
 exact bodyPost_ret (v:= .tuple #[.slice none 0 0,.int .i64 2]) (by simp[results,Tryz.results111,go_sem]) rfl ⟨rfl,Below.refl _ _⟩
theorem cExpandR_big(kv:Value)(s:ByteArray)(x:Int)(w:World)(hx:8160<x):CC 111 #[kv,.string s,.int .i64 x] w (.tuple #[.slice none 0 0,.int .i64 3]):=by
 have h0: ¬x<0:=by omega
 go_enter Tryz.func111,Tryz.ntmps111
 go_wp2
 exact bodyPost_ret (v:= .tuple #[.slice none 0 0,.int .i64 3]) (by simp[results,Tryz.results111,go_sem]) rfl ⟨rfl,Below.refl _ _⟩
theorem cExpand_neg(kv:Value)(s:ByteArray)(x:Int)(w:World)(hx:x<0):CC 113 #[kv,.string s,.int .i64 x] w (.tuple #[.slice none 0 0,.int .i64 2]):=by
 go_enter Tryz.func113,Tryz.ntmps113
 go_wp2
 exact bodyPost_ret (v:= .tuple #[.slice none 0 0,.int .i64 2]) (by simp[results,Tryz.results113,go_sem]) rfl ⟨rfl,Below.refl _ _⟩
theorem cExpand_big(kv:Value)(s:ByteArray)(x:Int)(w:World)(hx:8160<x):CC 113 #[kv,.string s,.int .i64 x] w (.tuple #[.slice none 0 0,.int .i64 3]):=by
 have h0: ¬x<0:=by omega
 go_enter Tryz.func113,Tryz.ntmps113
 go_wp2
 exact bodyPost_ret (v:= .tuple #[.slice none 0 0,.int .i64 3]) (by simp[results,Tryz.results113,go_sem]) rfl ⟨rfl,Below.refl _ _⟩
def exE(x:Int):Int:=if x<0 then 2 else if 8160<x then 3 else 0
def exY(ks tx:List Nat)(x:Int):List Nat:=if x<0 then [] else if 8160<x then [] else exN (whl ks) tx x.toNat
theorem exY_m(ks tx:List Nat)(x:Int): ∀y∈exY ks tx x,y<256:=by
 unfold exY
 split
 ·simp
 ·split
  ·simp
  ·exact exN_m _ _ _
theorem PTX_nil(u:World)(e:Int)(h:0<u.heap.size):PTX e [] u (.tuple #[.slice none 0 0,.int .i64 e]):=⟨_,rfl,IN_nil u h⟩
theorem cExpandX(ks:List Nat)(v:Value)(s:ByteArray)(x:Int)(w:World)(hV:GV w)(hin:IN w w.heap.size v ks)(hsn: ∀n c,v= .slice none n c->c=0)(hk: ∀x∈ks,x<256)(hkl:ks.length<=1000)(hs:s.size<=1000):
 Calls Tryz.prog 113 #[v,.string s,.int .i64 x] w fun e w'=> ∃v,e= .returned v/\PTX (exE x) (exY ks (txt s) x) w' v/\Bw w w':=by
 have hz:=hV.sz
 unfold exE exY
 by_cases h1:x<0
 ·rw[if_pos h1,if_pos h1]
  refine(cExpand_neg v s x w h1).mono ?_
  rintro e w' ⟨rfl,hB⟩
  exact⟨_,rfl,PTX_nil w' 2 (by have:=hB.size;omega),hB⟩
 ·rw[if_neg h1,if_neg h1]
  by_cases h2:8160<x
  ·rw[if_pos h2,if_pos h2]
   refine(cExpand_big v s x w h2).mono ?_
   rintro e w' ⟨rfl,hB⟩
   exact⟨_,rfl,PTX_nil w' 3 (by have:=hB.size;omega),hB⟩
  ·rw[if_neg h2,if_neg h2]
   obtain⟨n,rfl⟩: ∃n:Nat,x=(n:Int):=⟨x.toNat,by omega⟩
   refine(cExpand ks v s n w hV hin hsn hk (by omega) (by omega) (by omega)).mono ?_
   rintro e w' ⟨y,rfl,⟨z,rfl,hz⟩,hB⟩
   refine⟨_,rfl,⟨z,rfl,?_⟩,hB⟩
   rw[Int.toNat_natCast]
   have hl:=exN_len (whl ks) (txt s) n
   obtain⟨ys,eys⟩: ∃ys,exN (whl ks) (txt s) n=ys:=⟨_,rfl⟩
   rw[eys] at hz hl⊢
   rw[<-hl] at hz
   exact PS_in hz
theorem cExpandRX(ks:List Nat)(v:Value)(s:ByteArray)(x:Int)(w:World)(hz:0<w.heap.size)(hin:IN w w.heap.size v ks)(hk: ∀x∈ks,x<256)(hkl:ks.length<=1000)(hs:s.size<=1000):
 Calls Tryz.prog 111 #[v,.string s,.int .i64 x] w fun e w'=> ∃v,e= .returned v/\PTX (exE x) (exY ks (txt s) x) w' v/\Bw w w':=by
 unfold exE exY
 by_cases h1:x<0
 ·rw[if_pos h1,if_pos h1]
  refine(cExpandR_neg v s x w h1).mono ?_
  rintro e w' ⟨rfl,hB⟩
  exact⟨_,rfl,PTX_nil w' 2 (by have:=hB.size;omega),hB⟩
 ·rw[if_neg h1,if_neg h1]
  by_cases h2:8160<x
  ·rw[if_pos h2,if_pos h2]
   refine(cExpandR_big v s x w h2).mono ?_
   rintro e w' ⟨rfl,hB⟩
   exact⟨_,rfl,PTX_nil w' 3 (by have:=hB.size;omega),hB⟩
  ·rw[if_neg h2,if_neg h2]
   obtain⟨n,rfl⟩: ∃n:Nat,x=(n:Int):=⟨x.toNat,by omega⟩
   refine(cExpandR_core v s n (exT (whl ks) (txt s)) (exS (whl ks) (txt s)) w (by omega) hs rfl (exT_B _ _) (fun k=>(exT_m _ _ k).2) rfl (fun _=>rfl) (Wl _ _) (fun k u z hB hz=>?_)).mono ?_
   ·have hm:=(exT_m (whl ks) (txt s) k)
    have e:exT (whl ks) (txt s) (k+1)=mac ks (exT (whl ks) (txt s) k++txt s++[(k+1)%256]):=rfl
    rw[e]
    obtain⟨a,ea⟩: ∃a,exT (whl ks) (txt s) k=a:=⟨_,rfl⟩
    rw[ea] at hz hm⊢
    have htl:=W3 s
    exact cMacR ks (a++txt s++[(k+1)%256]) v z u ((hin.below hB).mono hB.size) hz hk (fun y hy=>by
     rcases List.mem_append.1 hy with hy | hy
     ·rcases List.mem_append.1 hy with hy | hy
      ·exact hm.1 y hy
      ·exact txt_m s y hy
     ·simp at hy;omega) hkl (by
     rw[List.length_append,List.length_append,htl]
     show _+1<=_
     omega)
   ·rintro e w' ⟨v,rfl,⟨k,h3,h4⟩,hB⟩
    rw[exN_of _ _ k n h3] at h4
    rw[Int.toNat_natCast]
    exact⟨v,rfl,h4,hB⟩
section
section
variable {R:Rg} {P:Program} {ops:Array Oper} {Q:Exit->Act->World->Prop} {f:Nat->Bool} {t:Nat->Value} {u:World} {a:Act} {i:Nat} {o:Oper}
end
theorem eql_i(T:TypeId)(p q:Operand)(x y:Int)(b:Bool)(w:World)(h:(x==y)=b):(do eqGuard .eql T p q (.int .i64 x) (.int .i64 y);binOp .eql T (.int .i64 x) (.int .i64 y):Sem Value).run Tryz.prog w= .ok (.bool b) w:=by
 subst h;go_simp
end
theorem cDerive_core(kv sv:Value)(s:ByteArray)(x er:Int)(ds ys:List Nat)(w:World)(hds:ds.length=32)(hEx:Hid (∀(u:World),Bw w u->CC 112 #[sv,kv] u (.agg (U8 ds).toArray)))
 (hEp:Hid (∀(u:World) (b:Nat),Bw w u->CV u b (U8 ds)->b<u.heap.size->Calls Tryz.prog 113 #[.slice (some ⟨b,0,none⟩) 32 32,.string s,.int .i64 x] u fun e u'=> ∃v,e= .returned v/\PTX er ys u' v/\Bw u u')):
 Calls Tryz.prog 81 #[kv,sv,.string s,.int .i64 x] w fun e w'=> ∃v,e= .returned v/\PTX er ys w' v/\Bw w w':=by
 have hst:=sc32 ds hds
 have hU:(U8 ds).length=32:=by rw[Z2];exact hds
 go_enter Tryz.func81,Tryz.ntmps81
 go_upto_region 2 with(go_at_call 112;refine(hEx.out _ (Below.refl _ _)).mono ?_;rintro e u1 ⟨rfl,hB1⟩)
 have hBA:Bw w u1:=hB1
 have K0:=bk32 ds hds w.heap.size u1 hBA.size
 have HB0:Bw w ((u1.alloc (.cells #[.int .u8 0,.int .u8 0,.int .u8 0,.int .u8 0,.int .u8 0,.int .u8 0,.int .u8 0,.int .u8 0,.int .u8 0,.int .u8 0,.int .u8 0,.int .u8 0,.int .u8 0,.int .u8 0,.int .u8 0,.int .u8 0,.int .u8 0,.int .u8 0,.int .u8 0,.int .u8 0,.int .u8 0,.int .u8 0,.int .u8 0,.int .u8 0,.int .u8 0,.int .u8 0,.int .u8 0,.int .u8 0,.int .u8 0,.int .u8 0,.int .u8 0,.int .u8 0] 133)).setCells u1.heap.size 0 (U8 ds)):=Ze hBA.size (U8 ds) 0 _ (Z0 hBA _)
 generalize hC:((u1.alloc (.cells #[.int .u8 0,.int .u8 0,.int .u8 0,.int .u8 0,.int .u8 0,.int .u8 0,.int .u8 0,.int .u8 0,.int .u8 0,.int .u8 0,.int .u8 0,.int .u8 0,.int .u8 0,.int .u8 0,.int .u8 0,.int .u8 0,.int .u8 0,.int .u8 0,.int .u8 0,.int .u8 0,.int .u8 0,.int .u8 0,.int .u8 0,.int .u8 0,.int .u8 0,.int .u8 0,.int .u8 0,.int .u8 0,.int .u8 0,.int .u8 0,.int .u8 0,.int .u8 0] 133)).setCells u1.heap.size 0 (U8 ds))=v0 at *
 have hc0:=K0.cv 0
 have hl0:=K0.lt 0
 clear hst hU hC K0
 go_wp2_with (go_at_call 113;refine(hEp.out _ u1.heap.size HB0 hc0 hl0).mono ?_;rintro e u2 ⟨v,rfl,⟨y,rfl,hy⟩,hB2⟩)
 exact bodyPost_ret (v:= .tuple #[y,.int .i64 er]) (by simp[results,Tryz.results81,go_sem]) rfl ⟨_,rfl,⟨y,rfl,hy⟩,Zt HB0 hB2⟩
theorem cDeriveR_core(kv sv:Value)(s:ByteArray)(x er:Int)(ds ys:List Nat)(w:World)(hds:ds.length=32)(hEx:Hid (∀(u:World),Bw w u->CC 110 #[sv,kv] u (.agg (U8 ds).toArray)))
 (hEp:Hid (∀(u:World) (b:Nat),Bw w u->CV u b (U8 ds)->b<u.heap.size->Calls Tryz.prog 111 #[.slice (some ⟨b,0,none⟩) 32 32,.string s,.int .i64 x] u fun e u'=> ∃v,e= .returned v/\PTX er ys u' v/\Bw u u')):
 Calls Tryz.prog 79 #[kv,sv,.string s,.int .i64 x] w fun e w'=> ∃v,e= .returned v/\PTX er ys w' v/\Bw w w':=by
 have hst:=sc32 ds hds
 have hU:(U8 ds).length=32:=by rw[Z2];exact hds
 go_enter Tryz.func79,Tryz.ntmps79
 go_upto_region 2 with(go_at_call 110;refine(hEx.out _ (Below.refl _ _)).mono ?_;rintro e u1 ⟨rfl,hB1⟩)
 have hBA:Bw w u1:=hB1
 have K0:=bk32 ds hds w.heap.size u1 hBA.size
 have HB0:Bw w ((u1.alloc (.cells #[.int .u8 0,.int .u8 0,.int .u8 0,.int .u8 0,.int .u8 0,.int .u8 0,.int .u8 0,.int .u8 0,.int .u8 0,.int .u8 0,.int .u8 0,.int .u8 0,.int .u8 0,.int .u8 0,.int .u8 0,.int .u8 0,.int .u8 0,.int .u8 0,.int .u8 0,.int .u8 0,.int .u8 0,.int .u8 0,.int .u8 0,.int .u8 0,.int .u8 0,.int .u8 0,.int .u8 0,.int .u8 0,.int .u8 0,.int .u8 0,.int .u8 0,.int .u8 0] 133)).setCells u1.heap.size 0 (U8 ds)):=Ze hBA.size (U8 ds) 0 _ (Z0 hBA _)
 generalize hC:((u1.alloc (.cells #[.int .u8 0,.int .u8 0,.int .u8 0,.int .u8 0,.int .u8 0,.int .u8 0,.int .u8 0,.int .u8 0,.int .u8 0,.int .u8 0,.int .u8 0,.int .u8 0,.int .u8 0,.int .u8 0,.int .u8 0,.int .u8 0,.int .u8 0,.int .u8 0,.int .u8 0,.int .u8 0,.int .u8 0,.int .u8 0,.int .u8 0,.int .u8 0,.int .u8 0,.int .u8 0,.int .u8 0,.int .u8 0,.int .u8 0,.int .u8 0,.int .u8 0,.int .u8 0] 133)).setCells u1.heap.size 0 (U8 ds))=v0 at *
 have hc0:=K0.cv 0
 have hl0:=K0.lt 0
 clear hst hU hC K0
 go_wp2_with (go_at_call 111;refine(hEp.out _ u1.heap.size HB0 hc0 hl0).mono ?_;rintro e u2 ⟨v,rfl,⟨y,rfl,hy⟩,hB2⟩)
 exact bodyPost_ret (v:= .tuple #[y,.int .i64 er]) (by simp[results,Tryz.results79,go_sem]) rfl ⟨_,rfl,⟨y,rfl,hy⟩,Zt HB0 hB2⟩
theorem cDerive(ks ss:List Nat)(v sv:Value)(s:ByteArray)(x:Int)(w:World)(hV:GV w)(hin:IN w w.heap.size v ks)(hin2:IN w w.heap.size sv ss)(hsn: ∀n c,sv= .slice none n c->c=0)(hk: ∀x∈ks,x<256)(hss: ∀x∈ss,x<256)(hkl:ks.length<=1000)(hsl:ss.length<=1000)(hs:s.size<=1000):
 Calls Tryz.prog 81 #[v,sv,.string s,.int .i64 x] w fun e w'=> ∃v,e= .returned v/\PTX (exE x) (exY (mac ss ks) (txt s) x) w' v/\Bw w w':=by
 have hm:=mac_B ss ks
 have hE: ∀u,Bw w u->_:=fun u hB=>cExtract ss ks sv v u (hV.below hB hV.sz) ((hin2.below hB).mono hB.size) hsn ((hin.below hB).mono hB.size) hss hk hsl hkl
 obtain⟨ds,eds⟩: ∃ds,mac ss ks=ds:=⟨_,rfl⟩
 rw[eds] at hm hE⊢
 exact cDerive_core v sv s x (exE x) ds (exY ds (txt s) x) w hm.len hE (fun u b hB hc hb=>cExpandX ds _ s x u (hV.below hB hV.sz) (CV_in hm.len hc hb) (fun n c e=>by cases e) hm.mem (by rw[hm.len];omega) hs)
theorem cDeriveR(ks ss:List Nat)(v sv:Value)(s:ByteArray)(x:Int)(w:World)(hz:0<w.heap.size)(hin:IN w w.heap.size v ks)(hin2:IN w w.heap.size sv ss)(hk: ∀x∈ks,x<256)(hss: ∀x∈ss,x<256)(hkl:ks.length<=1000)(hsl:ss.length<=1000)(hs:s.size<=1000):
 Calls Tryz.prog 79 #[v,sv,.string s,.int .i64 x] w fun e w'=> ∃v,e= .returned v/\PTX (exE x) (exY (mac ss ks) (txt s) x) w' v/\Bw w w':=by
 have hm:=mac_B ss ks
 have hE: ∀u,Bw w u->_:=fun u hB=>cExtractR ss ks sv v u ((hin2.below hB).mono hB.size) ((hin.below hB).mono hB.size) hss hk hsl (by omega)
 obtain⟨ds,eds⟩: ∃ds,mac ss ks=ds:=⟨_,rfl⟩
 rw[eds] at hm hE⊢
 exact cDeriveR_core v sv s x (exE x) ds (exY ds (txt s) x) w hm.len hE (fun u b hB hc hb=>cExpandRX ds _ s x u (by have:=hB.size;omega) (CV_in hm.len hc hb) hm.mem (by rw[hm.len];omega) hs)
section
variable {lo:Nat} {w u v:World} {base:Nat} {ks:List (Nat×List Value)} {ex:List (Nat×Bool×List Value×List Value)} {nw:List (Bool×Bool×Value×List Value×List Value)}
end
section
section
variable {P:Program} {ops:Array Oper} {Q:Exit->Act->World->Prop} {id:Nat} {w:World} {fr:List Value}
end
abbrev LN(n:Int):List Value:=[.int .u64 (D0 n),.int .u64 (D1 n),.int .u64 (D2 n),.int .u64 (D3 n)]
abbrev LW(n:Int):List Value:=[.int .u64 (D0 n),.int .u64 (D1 n),.int .u64 (D2 n),.int .u64 (D3 n),.int .u64 (D0 (D4 n)),.int .u64 (D1 (D4 n)),.int .u64 (D2 (D4 n)),.int .u64 (D3 (D4 n))]
abbrev L0s:List Value:=[.int .u64 0,.int .u64 0,.int .u64 0,.int .u64 0]
abbrev L0w:List Value:=[.int .u64 0,.int .u64 0,.int .u64 0,.int .u64 0,.int .u64 0,.int .u64 0,.int .u64 0,.int .u64 0]
end
section
section
variable {P:Program} {o:Oper} {a:Act} {w:World} {K:Act->World->Prop} {Q:Exit->Act->World->Prop}
end
end
section
section
variable {P:Program} {ops:Array Oper} {Q:Exit->Act->World->Prop} {i:Nat} {o:Oper} {a:Act} {w:World} {fr:List Value} {S:List Nat} {t:Nat->Value} {I:(Nat->Value)->World->Prop} {d:Nat} {v:Value}
end
section
variable {P:Program} {ops:Array Oper} {Q:Exit->Act->World->Prop} {i:Nat} {o:Oper} {a:Act} {fr:List Value} {S:List Nat} {t:Nat->Value} {I:(Nat->Value)->World->Prop} {d:Nat} {lo base:Nat} {w u:World} {ks:List (Nat×List Value)} {ex:List (Nat×Bool×List Value×List Value)} {nw:List (Bool×Bool×Value×List Value×List Value)}
end
end
end
section
theorem Va:EnT 98:=fun _ _=>by kernel_rfl
theorem Yz:EnT 101:=fun _ _=>by kernel_rfl
theorem Xz:EnT 100:=fun _ _=>by kernel_rfl
theorem Ym:EnT 72:=fun _ _=>by kernel_rfl
theorem Zd:EnT 62:=fun _ _=>by kernel_rfl
theorem Z9:EnT 55:=fun _ _=>by kernel_rfl
theorem ent_limb_Length:EnT 102:=fun _ _=>by kernel_rfl
theorem W0:EnT 89:=fun _ _=>by kernel_rfl
theorem ent_mod_Sub:EnT 70:=fun _ _=>by kernel_rfl
theorem Vy:EnT 78:=fun _ _=>by kernel_rfl
theorem Zl:EnT 61:=fun _ _=>by kernel_rfl
theorem Vz:EnT 63:=fun _ _=>by kernel_rfl
theorem ent_mod_Inverse:EnT 41:=fun _ _=>by kernel_rfl
theorem ent_mod_Product:EnT 75:=fun _ _=>by kernel_rfl
theorem ent_mod_gather:EnT 107:=fun _ _=>by kernel_rfl
theorem Vs:EnT 97:=fun _ _=>by kernel_rfl
theorem Wo:EnT 99:=fun _ _=>by kernel_rfl
theorem Vr:EnT 69:=fun _ _=>by kernel_rfl
theorem ent_mod_split:EnT 90:=fun _ _=>by kernel_rfl
theorem U7:EnT 91:=fun _ _=>by kernel_rfl
theorem U9:EnT 92:=fun _ _=>by kernel_rfl
theorem Xy:EnT 93:=fun _ _=>by kernel_rfl
theorem Ut:EnT 94:=fun _ _=>by kernel_rfl
theorem Vp:EnT 117:=fun _ _=>by kernel_rfl
theorem Vq:EnT 118:=fun _ _=>by kernel_rfl
theorem Xt:EnT 136:=fun _ _=>by kernel_rfl
theorem Xg:EnT 119:=fun _ _=>by kernel_rfl
theorem Zf:EnT 44:=fun _ _=>by kernel_rfl
theorem Wv:EnT 45:=fun _ _=>by kernel_rfl
theorem Ww:EnT 80:=fun _ _=>by kernel_rfl
theorem Wa:EnT 64:=fun _ _=>by kernel_rfl
theorem Wf:EnT 39:=fun _ _=>by kernel_rfl
theorem W9:EnT 67:=fun _ _=>by kernel_rfl
theorem Xb:EnT 68:=fun _ _=>by kernel_rfl
theorem Zm:EnT 51:=fun _ _=>by kernel_rfl
theorem Zr:EnT 38:=fun _ _=>by kernel_rfl
theorem Xa:EnT 40:=fun _ _=>by kernel_rfl
theorem Xv:EnT 47:=fun _ _=>by kernel_rfl
theorem Y8:EnT 32:=fun _ _=>by kernel_rfl
theorem al_api_Nat(w:World):(Instr.alloc 24 true (.tuple #[])).run Tryz.prog w= .ok (.pointer (some ⟨w.heap.size,0,none⟩)) (w.alloc (.cells L0s.toArray 24)):=by kernel_rfl
theorem al_api_Wide(w:World):(Instr.alloc 64 true (.tuple #[])).run Tryz.prog w= .ok (.pointer (some ⟨w.heap.size,0,none⟩)) (w.alloc (.cells L0w.toArray 64)):=by kernel_rfl
theorem info_api_Nat:(Tryz.prog.info? 24).map (·.size)=some 4:=by kernel_rfl
theorem info_api_Wide:(Tryz.prog.info? 64).map (·.size)=some 8:=by kernel_rfl
end
section
open Go.RowKit
theorem neq_w(p q:Operand)(a b c d x y z t:Int)(w:World):(do eqGuard .neq 24 p q (A4 a b c d) (A4 x y z t);binOp .neq 24 (A4 a b c d) (A4 x y z t):Sem Value).run Tryz.prog w= .ok (.bool (!eq4 a b c d x y z t)) w:=by
 go_simp
theorem eql_w(p q:Operand)(a b c d x y z t:Int)(w:World):(do eqGuard .eql 24 p q (A4 a b c d) (A4 x y z t);binOp .eql 24 (A4 a b c d) (A4 x y z t):Sem Value).run Tryz.prog w= .ok (.bool (eq4 a b c d x y z t)) w:=by
 go_simp
theorem eq4_N{n m:Int}(hn:In n)(hm:In m):eq4 (D0 n) (D1 n) (D2 n) (D3 n) (D0 m) (D1 m) (D2 m) (D3 m)=decide (n=m):=by
 rw[Bool.eq_iff_iff,eq4_V _ _ _ _ _ _ _ _ (W_D0 _) (W_D1 _) (W_D2 _) (W_D3 _) (W_D0 _) (W_D1 _) (W_D2 _) (W_D3 _),V_In hn,V_In hm];simp
theorem eq4_N0{n:Int}(hn:In n):eq4 (D0 n) (D1 n) (D2 n) (D3 n) 0 0 0 0=decide (n=0):=by
 have w0:W64 0:=by unfold W64;omega
 rw[Bool.eq_iff_iff,eq4_V _ _ _ _ _ _ _ _ (W_D0 _) (W_D1 _) (W_D2 _) (W_D3 _) w0 w0 w0 w0,V_In hn];simp[V]
theorem neq_n(p q:Operand){n m:Int}(hn:In n)(hm:In m)(b:Bool)(hb:decide (n=m)=!b)(w:World):(do eqGuard .neq 24 p q (NV n) (NV m);binOp .neq 24 (NV n) (NV m):Sem Value).run Tryz.prog w= .ok (.bool b) w:=by
 rw[neq_w,eq4_N hn hm,hb];simp
theorem neq_0(p q:Operand){n:Int}(hn:In n)(b:Bool)(hb:decide (n=0)=!b)(w:World):(do eqGuard .neq 24 p q (NV n) (A4 0 0 0 0);binOp .neq 24 (NV n) (A4 0 0 0 0):Sem Value).run Tryz.prog w= .ok (.bool b) w:=by
 rw[neq_w,eq4_N0 hn,hb];simp
theorem eql_n(p q:Operand){n m:Int}(hn:In n)(hm:In m)(b:Bool)(hb:decide (n=m)=b)(w:World):(do eqGuard .eql 24 p q (NV n) (NV m);binOp .eql 24 (NV n) (NV m):Sem Value).run Tryz.prog w= .ok (.bool b) w:=by
 rw[eql_w,eq4_N hn hm,hb]
theorem Ux(p q:Operand){n:Int}(hn:In n)(b:Bool)(hb:decide (n=0)=b)(w:World):(do eqGuard .eql 24 p q (NV n) (A4 0 0 0 0);binOp .eql 24 (NV n) (A4 0 0 0 0):Sem Value).run Tryz.prog w= .ok (.bool b) w:=by
 rw[eql_w,eq4_N0 hn,hb]
theorem ld_u64(w:World)(b k:Nat)(v:Int)(h:w.cell? ⟨b,k,none⟩=some (.int .u64 v)):(Instr.loadAt 22 (.pointer (some ⟨b,k,none⟩))).run Tryz.prog w= .ok (.int .u64 v) w:=by
 go_simp
theorem st_u64(w:World)(b k:Nat)(v x:Int)(h:w.cell? ⟨b,k,none⟩=some (.int .u64 v))(hf:w.frozen? ⟨b,k,none⟩=false):(Instr.storeAt 22 (.pointer (some ⟨b,k,none⟩)) (.int .u64 x)).run Tryz.prog w= .ok () (w.setCell ⟨b,k,none⟩ (.int .u64 x)):=by
 go_simp
theorem ix_nat(w:World)(b k:Nat)(h:k<4):(Instr.indexAt 24 (.pointer (some ⟨b,0,none⟩)) (.int .i64 k)).run Tryz.prog w= .ok (.pointer (some ⟨b,k,none⟩)) w:=by
 have h0:(0:Int)<=k:=by omega
 have h1:(k:Int)<4:=by omega
 go_simp
theorem Yb(w:World)(b k:Nat)(h:k<5):(Instr.indexAt 167 (.pointer (some ⟨b,0,none⟩)) (.int .i64 k)).run Tryz.prog w= .ok (.pointer (some ⟨b,k,none⟩)) w:=by
 have h0:(0:Int)<=k:=by omega
 have h1:(k:Int)<5:=by omega
 go_simp
theorem add_u(p q:Operand)(x y z:Int)(w:World)(h:(x+y)%18446744073709551616=z):(do eqGuard .add 22 p q (.int .u64 x) (.int .u64 y);binOp .add 22 (.int .u64 x) (.int .u64 y):Sem Value).run Tryz.prog w= .ok (.int .u64 z) w:=by
 subst h
 go_simp
 simp[IntKind.wrap,IntKind.signed,IntKind.bits]
theorem mul_u(p q:Operand)(x y z:Int)(w:World)(h:(x*y)%18446744073709551616=z):(do eqGuard .mul 22 p q (.int .u64 x) (.int .u64 y);binOp .mul 22 (.int .u64 x) (.int .u64 y):Sem Value).run Tryz.prog w= .ok (.int .u64 z) w:=by
 subst h
 go_simp
 simp[IntKind.wrap,IntKind.signed,IntKind.bits]
end
section
def natAt(w:World)(b:Nat):Nat:=(V (wordAt w b 0) (wordAt w b 1) (wordAt w b 2) (wordAt w b 3)).toNat
theorem natAt_of{w:World}{b:Nat}{n:Int}(h:CV w b (LN n))(hn:In n):natAt w b=n.toNat:=by
 have h0:=(h 0 _ rfl).1;have h1:=(h 1 _ rfl).1;have h2:=(h 2 _ rfl).1;have h3:=(h 3 _ rfl).1
 unfold natAt wordAt
 rw[h0,h1,h2,h3]
 show (V (D0 n) (D1 n) (D2 n) (D3 n)).toNat=_
 rw[V_In hn]
end
section
open Go.RowKit
section
section
variable {P:Program} {o:Oper} {a:Act} {w:World} {K:Act->World->Prop} {Q:Exit->Act->World->Prop}
end
theorem al__5_uint64(w:World):(Instr.alloc 167 true (.tuple #[])).run Tryz.prog w= .ok (.pointer (some ⟨w.heap.size,0,none⟩)) (w.alloc (.cells L05.toArray 167)):=by kernel_rfl
theorem sl_five(b:Nat)(w:World):(Instr.sliceAt 167 (.pointer (some ⟨b,0,none⟩)) none (some (.int .i64 4)) none).run Tryz.prog w= .ok (.slice (some ⟨b,0,none⟩) 4 5) w:=by kernel_rfl
theorem ap_five(b:Nat)(w:World):(Instr.arrayAt 24 (.slice (some ⟨b,0,none⟩) 4 5)).run Tryz.prog w= .ok (.pointer (some ⟨b,0,none⟩)) w:=by kernel_rfl
theorem fd_m(b:Nat)(w:World):(Instr.fieldAt 151 (.pointer (some ⟨b,0,none⟩)) 0).run Tryz.prog w= .ok (.pointer (some ⟨b,0,none⟩)) w:=by kernel_rfl
theorem fd_c(b:Nat)(w:World):(Instr.fieldAt 151 (.pointer (some ⟨b,0,none⟩)) 1).run Tryz.prog w= .ok (.pointer (some ⟨b,4,none⟩)) w:=by go_simp
end
theorem U5(p q:Operand)(n:Int)(w:World):(do eqGuard .eql 24 p q (NV n) (NV n);binOp .eql 24 (NV n) (NV n):Sem Value).run Tryz.prog w= .ok (.bool true) w:=by
 rw[eql_w,eq4_same]
theorem neq_i(T:TypeId)(p q:Operand)(x y:Int)(b:Bool)(w:World)(h:(x !=y)=b):(do eqGuard .neq T p q (.int .i64 x) (.int .i64 y);binOp .neq T (.int .i64 x) (.int .i64 y):Sem Value).run Tryz.prog w= .ok (.bool b) w:=by
 subst h;go_simp
section
section
variable {R:Rg} {P:Program} {ops:Array Oper} {Q:Exit->Act->World->Prop} {f:Nat->Bool} {t:Nat->Value} {u:World} {a:Act} {i:Nat} {o:Oper}
end
end
section
section
variable {R:Rg} {P:Program} {ops:Array Oper} {Q:Exit->Act->World->Prop} {f:Nat->Bool} {t:Nat->Value} {u:World} {a:Act} {i:Nat} {o:Oper}
end
end
section
section
variable {R:Rg} {P:Program} {ops:Array Oper} {Q:Exit->Act->World->Prop} {f:Nat->Bool} {t:Nat->Value} {u:World} {a:Act} {i:Nat} {o:Oper}
end
section
variable {P:Program} {ops:Array Oper} {Q:Exit->Act->World->Prop} {id:Nat} {w0 w:World} {fr:List Value} {lo:Nat} {ks:List Blk}
end
end
theorem uN:Tryz.prog.underlying 24=some (.array 4 22):=Tryz.underlying24
theorem uW:Tryz.prog.underlying 64=some (.array 8 22):=Tryz.underlying64
theorem iN:(Tryz.prog.info? 24).map (·.size)=some 4:=info_api_Nat
theorem iW:(Tryz.prog.info? 64).map (·.size)=some 8:=info_api_Wide
theorem aN(w:World):(Instr.alloc 24 true (.tuple #[])).run Tryz.prog w= .ok (.pointer (some ⟨w.heap.size,0,none⟩)) (w.alloc (.cells L0s.toArray 24)):=al_api_Nat w
theorem aW(w:World):(Instr.alloc 64 true (.tuple #[])).run Tryz.prog w= .ok (.pointer (some ⟨w.heap.size,0,none⟩)) (w.alloc (.cells L0w.toArray 64)):=al_api_Wide w
theorem zN(w:World):(Instr.build 24 [].toArray).run Tryz.prog w= .ok (A4 0 0 0 0) w:=by kernel_rfl
theorem lU{b c:Nat}{v:Int}(w:World)(h:w.cell? ⟨b,c,none⟩=some (.int .u64 v)):(Instr.loadAt 22 (.pointer (some ⟨b,c,none⟩))).run Tryz.prog w= .ok (.int .u64 v) w:=ld_u64 w b c v h
theorem sU{b c:Nat}{v x:Int}(w:World)(h:w.cell? ⟨b,c,none⟩=some (.int .u64 v))(hf:w.frozen? ⟨b,c,none⟩=false):(Instr.storeAt 22 (.pointer (some ⟨b,c,none⟩)) (.int .u64 x)).run Tryz.prog w= .ok () (w.setCell ⟨b,c,none⟩ (.int .u64 x)):=st_u64 w b c v x h hf
theorem jN{b:Nat}(k:Nat)(w:World)(h:k<4:=by decide):(Instr.indexAt 24 (.pointer (some ⟨b,0,none⟩)) (.int .i64 k)).run Tryz.prog w= .ok (.pointer (some ⟨b,k,none⟩)) w:=ix_nat w b k h
theorem NV_of(n a b c d k:Int)(ha:W64 a)(hb:W64 b)(hc:W64 c)(hd:W64 d)(h:n=V a b c d+k*115792089237316195423570985008687907853269984665640564039457584007913129639936):NV n=A4 a b c d:=by
 obtain⟨h0,h1,h2,h3,_⟩:=D_of n a b c d k ha hb hc hd h
 rw[NV,h0,h1,h2,h3]
theorem WV_of(n a b c d e f g h:Int)(ha:W64 a)(hb:W64 b)(hc:W64 c)(hd:W64 d)(he:W64 e)(hf:W64 f)(hg:W64 g)(hh:W64 h)(hn:n=V a b c d+V e f g h*115792089237316195423570985008687907853269984665640564039457584007913129639936):WV n=A8 a b c d e f g h:=by
 obtain⟨h0,h1,h2,h3,h4⟩:=D_of n a b c d (V e f g h) ha hb hc hd hn
 obtain⟨k0,k1,k2,k3,k4⟩:=D_of (V e f g h) e f g h 0 he hf hg hh (by omega)
 rw[WV,h0,h1,h2,h3,h4,k0,k1,k2,k3]
def H32(x:Int):Prop:=0<=x/\x<4294967296
theorem wide_any(g cap:Nat)(x0 x1 x2 x3 x4 x5 x6 x7 x8 x9 x10 x11 x12 x13 x14 x15:Int)(w:World)(c0:w.cell? ⟨g,0,none⟩=some (.int .u64 x0))(c1:w.cell? ⟨g,1,none⟩=some (.int .u64 x1))(c2:w.cell? ⟨g,2,none⟩=some (.int .u64 x2))(c3:w.cell? ⟨g,3,none⟩=some (.int .u64 x3))(c4:w.cell? ⟨g,4,none⟩=some (.int .u64 x4))(c5:w.cell? ⟨g,5,none⟩=some (.int .u64 x5))(c6:w.cell? ⟨g,6,none⟩=some (.int .u64 x6))(c7:w.cell? ⟨g,7,none⟩=some (.int .u64 x7))(c8:w.cell? ⟨g,8,none⟩=some (.int .u64 x8))(c9:w.cell? ⟨g,9,none⟩=some (.int .u64 x9))(c10:w.cell? ⟨g,10,none⟩=some (.int .u64 x10))(c11:w.cell? ⟨g,11,none⟩=some (.int .u64 x11))(c12:w.cell? ⟨g,12,none⟩=some (.int .u64 x12))(c13:w.cell? ⟨g,13,none⟩=some (.int .u64 x13))(c14:w.cell? ⟨g,14,none⟩=some (.int .u64 x14))(c15:w.cell? ⟨g,15,none⟩=some (.int .u64 x15))(h0:H32 x0)(h1:H32 x1)(h2:H32 x2)(h3:H32 x3)(h4:H32 x4)(h5:H32 x5)(h6:H32 x6)(h7:H32 x7)(h8:H32 x8)(h9:H32 x9)(h10:H32 x10)(h11:H32 x11)(h12:H32 x12)(h13:H32 x13)(h14:H32 x14)(h15:H32 x15):
 CC 65 #[.slice (some ⟨g,0,none⟩) 16 cap] w (A8 (x0+x1*4294967296) (x2+x3*4294967296) (x4+x5*4294967296) (x6+x7*4294967296) (x8+x9*4294967296) (x10+x11*4294967296) (x12+x13*4294967296) (x14+x15*4294967296)):=by
 obtain⟨l0,u0⟩:=h0
 obtain⟨l1,u1⟩:=h1
 obtain⟨l2,u2⟩:=h2
 obtain⟨l3,u3⟩:=h3
 obtain⟨l4,u4⟩:=h4
 obtain⟨l5,u5⟩:=h5
 obtain⟨l6,u6⟩:=h6
 obtain⟨l7,u7⟩:=h7
 obtain⟨l8,u8⟩:=h8
 obtain⟨l9,u9⟩:=h9
 obtain⟨l10,u10⟩:=h10
 obtain⟨l11,u11⟩:=h11
 obtain⟨l12,u12⟩:=h12
 obtain⟨l13,u13⟩:=h13
 obtain⟨l14,u14⟩:=h14
 obtain⟨l15,u15⟩:=h15
 have lg:g<w.heap.size:=World.block_lt_of_cell? w _ c0
 have lg1:g<w.heap.size+1:=by omega
 have lg2:g<w.heap.size+1+1:=by omega
 go_enter Tryz.func65,Tryz.ntmps65
 go_wp2
 refine wp_loop_rounds 9 ?_
 rw[rounds_succ]
 go_wp2
 go_region
 go_wp2
 rw[rounds_succ]
 go_wp2
 go_region
 go_wp2
 rw[rounds_succ]
 go_wp2
 go_region
 go_wp2
 rw[rounds_succ]
 go_wp2
 go_region
 go_wp2
 rw[rounds_succ]
 go_wp2
 go_region
 go_wp2
 rw[rounds_succ]
 go_wp2
 go_region
 go_wp2
 rw[rounds_succ]
 go_wp2
 go_region
 go_wp2
 rw[rounds_succ]
 go_wp2
 go_region
 go_wp2
 rw[rounds_succ]
 go_wp2
 refine bodyPost_ret (v:=A8 (x0+x1*4294967296) (x2+x3*4294967296) (x4+x5*4294967296) (x6+x7*4294967296) (x8+x9*4294967296) (x10+x11*4294967296) (x12+x13*4294967296) (x14+x15*4294967296)) (by simp[results,Tryz.results65,go_sem]) rfl ⟨rfl,?_⟩
 iterate 6 all_goals (go_grown<;>try with_reducible refine below_drewN ?_ _)
theorem zc8L:Builtin.zeroCells (Value.int .u64 0).cells 8=#[.int .u64 0,.int .u64 0,.int .u64 0,.int .u64 0,.int .u64 0,.int .u64 0,.int .u64 0,.int .u64 0]:=by kernel_rfl
abbrev z8L:List Value:=[.int .u64 0,.int .u64 0,.int .u64 0,.int .u64 0,.int .u64 0,.int .u64 0,.int .u64 0,.int .u64 0]
theorem run_app16(w:World)(base b cap:Nat)(xs:List Value)(hbase:base<=w.heap.size)(hown:w.ownsRow base 22 1 (.slice (some ⟨b,0,none⟩) 8 cap) 8 xs):
 ∃b' cap' w',(Builtin.append_ #[93,3] 93 #[.slice (some ⟨b,0,none⟩) 8 cap,.int .i64 8]).run Tryz.prog w= .ok (.slice (some ⟨b',0,none⟩) 16 cap') w'/\
  (∀i u,(xs++z8L)[i]?=some u->w'.cell? ⟨b',i,none⟩=some u)/\Below base w w':=by
 obtain⟨i0,hi0,hz0,hz1,hz2⟩:=info_parts Tryz.info22
 obtain⟨hlen,hr⟩:=hown
 rcases hr with⟨h,_⟩ | ⟨g,cap',cur,hv,hbg,hg,hcap,hcm,hcs,htake⟩
 ·simp at h
 ·simp at hv
  obtain⟨rfl,rfl⟩:=hv
  simp only[Nat.mul_one] at hcs htake hlen
  by_cases hroom:16<=cap
  ·refine⟨b,cap,w.setRow b (cur.toList.take 8++z8L++cur.toList.drop 16).toArray,?_,?_,?_⟩
   ·have hst:=run_storeCells_at (P:=Tryz.prog) b 8 22 z8L 0 cur w hg (by simp;omega) (by intro v hv;simp at hv;subst hv;rfl)
    simp only[Nat.add_zero] at hst
    have hw:IntKind.i64.wrap (8:Int)=8:=by decide
    simp[Builtin.append_,run_underlying Tryz.underlying93,run_underlying Tryz.underlying3,sizeOf,typeInfo,zeroValue,hi0,hz0,hz1,hz2,asInt,asIntOf,hw,hroom,zc8L,Addr.add_lit,hst]
   ·intro i u hu
    rw[cell_setRow_same w b i cur _ 22 (0,0) hg]
    rw[htake]
    have hi:i<16:=by
     have:=(List.getElem?_eq_some_iff.1 hu).1
     simp[hlen] at this;exact this
    rw[List.getElem?_toArray,List.getElem?_append_left (by simp[hlen];omega)]
    exact hu
   ·exact below_setRow (Below.refl _ _) hbg _
  ·have hold:(Builtin.firstCells i0.size 8 (.slice (some ⟨b,0,none⟩) 8 cap)).run Tryz.prog w.drew= .ok xs.toArray w.drew:=by
    refine run_firstCells_some (P:=Tryz.prog) w.drew i0.size 8 ⟨b,0,none⟩ 8 cap xs (by rw[hz1];simpa using hlen) ?_
    intro j v hj
    have hadd:(⟨b,0,none⟩:Addr).add j=⟨b,j,none⟩:=by unfold Addr.add;split<;>simp_all
    rw[hadd]
    show w.cell? ⟨b,j,none⟩=some v
    rw[cell_of_row w b j cur 22 (0,0) hg]
    rw[<-htake,List.getElem?_take] at hj
    split at hj
    ·simpa using hj
    ·cases hj
   have hrun:=Lib.run_append_grow_zeros (P:=Tryz.prog) w 93 3 93 22 i0 (.int .u64 0) .i64 .i64 Tryz.underlying93 Tryz.underlying3 hi0 hz0 (some ⟨b,0,none⟩) 8 cap xs hold 8 (by omega) (by omega) (by omega) (by simp) (by rw[hz2];omega) (by
    rw[hz2];unfold Builtin.nextslicecap;split
    ·omega
    ·rw[if_pos (by omega)];omega)
   refine⟨_,_,_,hrun,?_,?_⟩
   ·intro i u hu
    rw[cell_of_row _ w.heap.size i _ 22 (0,0) (heap_alloc_new w.drew _)]
    rw[zc8L]
    have hi:i<16:=by
     have:=(List.getElem?_eq_some_iff.1 hu).1
     simp[hlen] at this;exact this
    rw[Array.getElem?_append_left (by simp[hlen];omega)]
    simpa using hu
   ·exact((Below.refl _ _).drew).alloc hbase _
theorem lo32(x:Int):H32 (x%4294967296):=by unfold H32;omega
theorem hi32(x:Int)(h:W64 x):H32 (x/4294967296):=by unfold W64 at h;unfold H32;omega
theorem z32L:H32 0:=by unfold H32;omega
theorem lohi(x:Int):x%4294967296+x/4294967296*4294967296=x:=by omega
theorem zz:(0:Int)+0*4294967296=0:=by omega
theorem rWiden_any(p q r s:Int)(w:World)(hp:W64 p)(hq:W64 q)(hr:W64 r)(hs:W64 s):
 CC 39 #[A4 p q r s] w (A8 p q r s 0 0 0 0):=by
 have hW:=fun(g cap:Nat) (w:World)=>wide_any g cap (p%4294967296) (p/4294967296) (q%4294967296) (q/4294967296) (r%4294967296) (r/4294967296) (s%4294967296) (s/4294967296) 0 0 0 0 0 0 0 0 w
 simp only[lohi,zz] at hW
 have HW:=hW
 clear hW
 have hWW:Hid _:=HW
 clear HW
 go_enter Tryz.func39,Tryz.ntmps39
 go_wp2_with fail
 refine(Vn _ p q r s _ (by unfold C4;simp[go_sem]) hp hq hr hs).mono ?_
 rintro e w1 ⟨b,cap,rfl,hown,hB⟩
 simp only[World.size_alloc] at hown
 obtain⟨b',cap',w2,hrun,hcells,hB2⟩:=run_app16 w1 _ b cap _ (by have:=hB.size;simp at this;omega) hown
 clear hown
 have hR:Hid _:=hrun
 clear hrun
 go_wp2_with (at_builtin;refine Lib.wpList_append_run _ rfl _ _ _ _ rfl _ _ rfl rfl _ _ hR.out ?_)
 refine(hWW.out b' cap' _ (hcells 0 _ rfl) (hcells 1 _ rfl) (hcells 2 _ rfl) (hcells 3 _ rfl) (hcells 4 _ rfl) (hcells 5 _ rfl) (hcells 6 _ rfl) (hcells 7 _ rfl) (hcells 8 _ rfl) (hcells 9 _ rfl) (hcells 10 _ rfl) (hcells 11 _ rfl) (hcells 12 _ rfl) (hcells 13 _ rfl) (hcells 14 _ rfl) (hcells 15 _ rfl) (lo32 p) (hi32 p hp) (lo32 q) (hi32 q hq) (lo32 r) (hi32 r hr) (lo32 s) (hi32 s hs) z32L z32L z32L z32L z32L z32L z32L z32L).mono ?_
 rintro e w3 ⟨rfl,hB3⟩
 simp only[Bw,World.size_alloc] at hB
 have hsz1:=hB.size
 have hsz2:=hB2.size
 have hsz3:=hB3.size
 simp only[World.size_alloc] at hsz1
 have hall:=hB.trans (hB2.trans (hB3.mono (by omega)))
 clear hB hB2 hB3 hcells
 have hcell: ∀o,w3.cell? ⟨w.heap.size+1,o,none⟩=_:=fun o=>hall.cell (p:=⟨w.heap.size+1,o,none⟩) (by show w.heap.size+1<w.heap.size+1+1;omega)
 have hfroz: ∀o,w3.frozen? ⟨w.heap.size+1,o,none⟩=_:=fun o=>hall.frozen (p:=⟨w.heap.size+1,o,none⟩) (by show w.heap.size+1<w.heap.size+1+1;omega)
 go_wp2
 refine bodyPost_ret (v:=A8 p q r s 0 0 0 0) (by simp[results,Tryz.results39,go_sem,hcell]) rfl ⟨rfl,?_⟩
 have hB':Bw w w3:=Below.trans (by go_grown) (hall.mono (by omega))
 go_grown
end
end Go.Proofs.YtknpepgonhdbgaaGreatDoor
