import Derived.Test.YtdhlekdohebbbaaGreatDoorRN1
namespace Go.Proofs.YtdhlekdohebbbaaGreatDoor
set_option linter.unusedVariables false
set_option linter.unusedSimpArgs false
set_option maxRecDepth 100000
set_option maxHeartbeats 4000000
section
open Go.RowKit
set_option maxHeartbeats 8000000 in
theorem cExtractR_z(n cap:Nat)(sl:Option Addr)(y:Value)(ds:List Nat)(w:World)(hds:ds.length=32)(hn:n=0)(hS:Hid (∀(u:World) (bz:Nat),Bw w u->CV u bz (U8 (List.replicate 32 0))->bz<u.heap.size->CC 106 #[.slice (some ⟨bz,0,none⟩) 32 32,y] u (.agg (U8 ds).toArray))):
 CC 78 #[.slice sl n cap,y] w (.agg (U8 ds).toArray):=by
 go_enter Tryz.func78,Tryz.ntmps78
 go_upto_region 1 with fail
 generalize hC:(w.alloc (.cells (Z32b:List Value).toArray 117))=v0 at *
 have HB0:Bw w v0:=by rw[<-hC];exact Z7 (Zx w) _
 have K0:Bk w.heap.size v0 [(true,w.heap.size,U8 z32)]:=by rw[<-hC];exact(Bk.nil _ w).ad
 clear hC
 refine Rn K0 HB0 (cG 0 5 [_,_,_] []) (oc g_mv<|oc (g_ln Tryz.underlying46)<|oc (g_bn (fun uZ=>eql_it _ _ ((n:Nat):Int) 0 true uZ (by simp;omega))) on) fun u1 HB1 _ K1=>?_
 simp only[sQ] at K1⊢
 have hlt4:=(K1.lt 0)
 have hlo4:=HB1.size
 go_upto_region 2 with fail
 refine Rf K1 HB1 [] [] [] [] [] [⟨0,8,some 1,PF u1.heap.size 32 (U8 (List.replicate 32 0))⟩,⟨1,0,none,PF u1.heap.size 32 (U8 (List.replicate 32 0))⟩] [] (hst:=(.cons (fun _ _ _ h1 h2=>h2.stab h1)<| .cons (fun _ _ _ h1 h2=>h2.stab h1)<|Stab.nil)) (oc (g_ms 0 (PF u1.heap.size 32 (U8 (List.replicate 32 0))) (mkB .i64 32 (by decide)) (fun u hu=>PF.new 32 _ _ u hu))<|oc (g_sE 0 1 (PF u1.heap.size 32 (U8 (List.replicate 32 0)))) on) fun u2 v2_0 hv2_0 v2_1 hv2_1 HB2 _ K2=>?_
 simp only[sQ] at K2⊢
 obtain⟨bz,rfl,ho1,ho2,hoC⟩:=hv2_1 rfl
 have K2_1:Bk w.heap.size u2 [(true,w.heap.size,U8 z32),(false,bz,U8 (List.replicate 32 0))]:=⟨.o (K2.lt 0) (by omega) (K2.cv 0)<| .c ho2 hoC<|trivial,by simp;omega⟩
 go_upto_region 3 with fail
 refine Rp K2_1 HB2 [.all 3 (U8 ds)] [] (cG 0 9 [_,y,_] []) [] [] [] (oc g_mv<|oc g_mv<|oc (g_cK Xl (fun fZ uZ kZ sZ bZ=>hS.out uZ bz bZ (kZ.cv 1) (kZ.lb sZ 1)))<|oc (g_st 0 Z5 (h1:=Yv _) (hm:=by rw[Z2,hds]) (hl:=by first | rw[Z2,Z2,hds,show z32.length=32 from rfl] | rfl)) on) fun u3 HB3 _ K3=>?_
 simp only[sQ] at K3⊢
 go_wp2
 refine bodyPost_ret (Y3 Tryz.results78 rfl (K3.cv 0) Tryz.underlying117 rfl (by rw[Z2,hds];exact Z5)) rfl ⟨rfl,HB3⟩
set_option maxHeartbeats 8000000 in
theorem cExtractR_c(n cap:Nat)(sl:Option Addr)(y:Value)(ds:List Nat)(w:World)(hds:ds.length=32)(hn:0<n)(hS:Hid (∀(u:World),Bw w u->CC 106 #[(.slice sl n cap),y] u (.agg (U8 ds).toArray))):
 CC 78 #[.slice sl n cap,y] w (.agg (U8 ds).toArray):=by
 go_enter Tryz.func78,Tryz.ntmps78
 go_upto_region 1 with fail
 generalize hC:(w.alloc (.cells (Z32b:List Value).toArray 117))=v0 at *
 have HB0:Bw w v0:=by rw[<-hC];exact Z7 (Zx w) _
 have K0:Bk w.heap.size v0 [(true,w.heap.size,U8 z32)]:=by rw[<-hC];exact(Bk.nil _ w).ad
 clear hC
 refine Rn K0 HB0 (cG 0 5 [_,_,_] []) (oc g_mv<|oc (g_ln Tryz.underlying46)<|oc (g_bn (fun uZ=>eql_it _ _ ((n:Nat):Int) 0 false uZ (by simp;omega))) on) fun u1 HB1 _ K1=>?_
 simp only[sQ] at K1⊢
 go_upto_region 3 with fail
 refine Rp K1 HB1 [.all 3 (U8 ds)] [] (cG 0 9 [_,y,_] []) [] [] [] (oc g_mv<|oc g_mv<|oc (g_cb Xl hS.out)<|oc (g_st 0 Z5 (h1:=Yv _) (hm:=by rw[Z2,hds]) (hl:=by first | rw[Z2,Z2,hds,show z32.length=32 from rfl] | rfl)) on) fun u2 HB2 _ K2=>?_
 simp only[sQ] at K2⊢
 go_wp2
 refine bodyPost_ret (Y3 Tryz.results78 rfl (K2.cv 0) Tryz.underlying117 rfl (by rw[Z2,hds];exact Z5)) rfl ⟨rfl,HB2⟩
theorem cExtractR(ks xs:List Nat)(v y:Value)(w:World)(hin:IN w w.heap.size v ks)(hin2:IN w w.heap.size y xs)(hk: ∀x∈ks,x<256)(hx: ∀x∈xs,x<256)(hkl:ks.length<=1000)(hl:xs.length<=90000):
 CC 78 #[v,y] w (.agg (U8 (mac ks xs)).toArray):=by
 have hin0:=hin
 obtain⟨sl,cap,gb,go,rfl,h1,h2,h3,h4⟩:=hin
 by_cases h0:ks.length=0
 ·have hks:ks=[]:=List.length_eq_zero_iff.1 h0
  have e:mac (List.replicate 32 0) xs=mac ks xs:=by
   rw[hks]
   have:=whl_zeros [] 32 (by decide)
   rw[List.nil_append] at this
   unfold mac;rw[this]
  refine cExtractR_z ks.length cap sl y (mac ks xs) w (mac_B _ _).len h0 (fun u bz hB hc hb=>?_)
  rw[<-e]
  exact cMacR (List.replicate 32 0) xs _ y u (CV_in (by simp) hc hb) ((hin2.below hB).mono hB.size) (fun x hx=>by rw[List.eq_of_mem_replicate hx];decide) hx (by simp) hl
 ·exact cExtractR_c ks.length cap sl y (mac ks xs) w (mac_B _ _).len (by omega) (fun u hB=>cMacR ks xs _ y u ((hin0.below hB).mono hB.size) ((hin2.below hB).mono hB.size) hk hx (by omega) (by omega))
set_option maxHeartbeats 8000000 in
theorem cExtract_core(v y:Value)(ds:List Nat)(w:World)(hds:ds.length=32)(hS:Hid (∀(u:World),Bw w u->CC 101 #[v,y] u (.agg (U8 ds).toArray))):
 CC 71 #[v,y] w (.agg (U8 ds).toArray):=by
 go_enter Tryz.func71,Tryz.ntmps71
 go_upto_region 1 with fail
 generalize hC:(w.alloc (.cells (Z32b:List Value).toArray 117))=v0 at *
 have HB0:Bw w v0:=by rw[<-hC];exact Z7 (Zx w) _
 have K0:Bk w.heap.size v0 [(true,w.heap.size,U8 z32)]:=by rw[<-hC];exact(Bk.nil _ w).ad
 clear hC
 refine Rp K0 HB0 [.all 3 (U8 ds)] [] (cG 0 5 [v,y,_] []) [] [] [] (oc g_mv<|oc g_mv<|oc (g_cb ent_mac_Sum hS.out)<|oc (g_st 0 Z5 (h1:=Yv _) (hm:=by rw[Z2,hds]) (hl:=by first | rw[Z2,Z2,hds,show z32.length=32 from rfl] | rfl)) on) fun u1 HB1 _ K1=>?_
 simp only[sQ] at K1⊢
 go_wp2
 refine bodyPost_ret (Y3 Tryz.results71 rfl (K1.cv 0) Tryz.underlying117 rfl (by rw[Z2,hds];exact Z5)) rfl ⟨rfl,HB1⟩
theorem cExtract(ks xs:List Nat)(v v2:Value)(w:World)(hV:GV w)(hin:IN w w.heap.size v ks)(hsn: ∀n c,v= .slice none n c->c=0)(hin2:IN w w.heap.size v2 xs)(hk: ∀x∈ks,x<256)(hx: ∀x∈xs,x<256)(hkl:ks.length<=1000)(hl:xs.length<=1000):
 CC 71 #[v,v2] w (.agg (U8 (mac ks xs)).toArray):=
 cExtract_core v v2 (mac ks xs) w (mac_B _ _).len (fun u hB=>cMac ks xs v v2 u (hV.below hB hV.sz) ((hin.below hB).mono hB.size) hsn ((hin2.below hB).mono hB.size) hk hx (by omega) (by omega))
theorem Xb{P:Program}{w w':World}{ops:Array Oper}{rest:List Oper}{o:Oper}{a:Act}{Q:Exit->Act->World->Prop}(hgd:o.guard=none)(s x:Operand)(t:TypeId)(ho:o.op= .call {callee:= .builtin .append,args:=#[s,x],argTypes:=#[t,t]})(vs vx v:Value)(hs:a.eval s=vs)(hx:a.eval x=vx)(hr:(Builtin.append_ #[t,t] o.type #[vs,vx]).run P w= .ok v w')(h:wpList P ops Q rest (a.put o.dst v) w'):wpList P ops Q (o::rest) a w:=by
 refine wpList_plain hgd fun K hK=>?_
 unfold Oper.wp execOp
 simp only[ho,resolve,invoke,builtin,Sem.run_bind,Sem.run_pure,Result.andThen_ok,List.map_toArray,List.map_cons,List.map_nil,hs,hx,hr]
 exact hK _ _ h
def PTX(e:Int)(xs:List Nat)(u:World)(v:Value):Prop:= ∃y,v= .tuple #[y,iI e]/\IN u u.heap.size y xs
theorem app_row{n m bo co:Nat}{xs ys:List Nat}{zs:List Value}{y:Value}{ty:TypeId}{u:World}(hc:CV u bo (U8 xs++zs))(hb:bo<u.heap.size)(hxl:xs.length=n)(hyl:ys.length=m)(hnc:n<=co)(hz:zs.length=co -n)(hl:n+m<=1000000)(hy:NW m (U8 ys) u y):
 ∃v u',(Builtin.append_ #[46,46] ty #[.slice (some ⟨bo,0,none⟩) n co,y]).run Tryz.prog u= .ok v u'/\u.grownBy u' (some bo)/\PH u.heap.size bo 1 (n+m) (U8 (xs++ys)) u' v:=by
 obtain⟨ti,hti,htm⟩:=Option.map_eq_some_iff.1 infoB
 simp only[Prod.mk.injEq] at htm
 obtain⟨hzv,hsz,hby⟩:=htm
 obtain⟨v',u',hr,hg,hp⟩:=run_app (P:=Tryz.prog) u (ty:=ty) Tryz.underlying46 hti hzv (by rw[hsz];rfl) (base:=u.heap.size) (n:=n) (cap:=co) (m:=m) (news:=U8 ys) hc hb (by rw[hsz,Z2];omega) (by rw[hsz];omega) hnc (Nat.le_refl _) hy (by rw[hsz,Z2];omega) Vn (by rw[hby];omega) (by omega)
 rw[hsz,<-Wb] at hp
 exact⟨v',u',hr,hg,hp⟩
theorem IN_of_txt(u:World)(s:ByteArray):IN (Lib.bytesWorld u 5 s) (Lib.bytesWorld u 5 s).heap.size (.slice (some ⟨u.heap.size,0,none⟩) s.size (grownCap u s.size 0 5)) (txt s)/\Bw u (Lib.bytesWorld u 5 s):=by
 have hsz:=Lib.bytesWorld_size u 5 s
 refine⟨⟨_,_,u.heap.size,0,by rw[Wc],by rw[Wc];exact grownCap_ge u s.size 0 _,.inr rfl,by omega,fun j hj=>?_⟩,⟨rfl,rfl,rfl,by omega,fun k hk=>Lib.bytesWorld_at_old u 5 s k hk⟩⟩
 rw[Wc] at hj
 rw[Nat.zero_add,Lib.bytesWorld_cell u 5 s j hj]
 have hj2:j<s.data.toList.length:=by rw[Array.length_toList];exact hj
 have e1:s.data.toList.getD j 0=s.data.toList[j]:=by rw[List.getD_eq_getElem?_getD,List.getElem?_eq_getElem hj2];rfl
 have e2:(txt s).getD j 0=(s.data.toList[j]).toNat:=by rw[List.getD_eq_getElem?_getD,txt,List.getElem?_map,List.getElem?_eq_getElem hj2];rfl
 rw[e1,e2]
theorem PZ_new(u:World):PZ u.heap.size (u.alloc (.cells #[] 5)) (.slice (some ⟨u.heap.size,0,none⟩) 0 0):=⟨_,rfl,Nat.le_refl _,by simp⟩
theorem NW_one(u:World)(x:Nat):NW 1 (U8 [x]) (u.alloc (.cells #[.int .u8 (x:Int)] 5)) (.slice (some ⟨u.heap.size,0,none⟩) 1 1):=
 ⟨_,1,rfl,.inr ⟨_,rfl,fun j v hj=>by rw[Addr.add0];exact(CV.new u (U8 [x]) 5 j v hj).1⟩⟩
theorem round_a{wr:World}{lv:Value}{tk:List Nat}(hlv:IN wr wr.heap.size lv tk)(hl:tk.length<=1000): ∃v u,(Builtin.append_ #[46,46] 46 #[.slice (some ⟨wr.heap.size,0,none⟩) 0 0,lv]).run Tryz.prog (wr.alloc (.cells #[] 5))= .ok v u/\Bw wr u/\PG wr.heap.size 1 tk.length (U8 tk) u v:=by
 have hB:Bw wr (wr.alloc (.cells #[] 5)):=Z7 (Zx wr) _
 obtain⟨v,u,h1,h2,h3⟩:=app_PZ (ty:=46) (lo:=wr.heap.size) hB.size (by omega) ((hlv.below hB).mono hB.size) (PZ_new wr)
 exact⟨v,u,h1,Yl hB h2,h3⟩
theorem round_b{wr u1:World}{v1:Value}{tk:List Nat}{s:ByteArray}(hB:Bw wr u1)(h:PG wr.heap.size 1 tk.length (U8 tk) u1 v1)(hl:tk.length<=1000)(hs:s.size<=1000): ∃v u,(Builtin.append_ #[46,46] 46 #[v1,.slice (some ⟨u1.heap.size,0,none⟩) s.size (grownCap u1 s.size 0 5)]).run Tryz.prog (Lib.bytesWorld u1 5 s)= .ok v u/\Bw wr u/\PG wr.heap.size 1 (tk++txt s).length (U8 (tk++txt s)) u v:=by
 obtain⟨h1,h2⟩:=IN_of_txt u1 s
 have hB2:=Yl hB h2
 have htl:=Wc s
 have hn:=IN_NW h1
 rw[htl] at hn
 obtain⟨v,u,b,r1,r2,r3,r4⟩:=app_PG (ty:=46) hB2.size rfl htl (by omega) hn (h.stab h2)
 refine⟨v,u,r1,hB2.grown r3 hB2.size (fun k e=>by cases e;exact r2),?_⟩
 rw[List.length_append,htl];exact r4
theorem round_c{wr u2:World}{v2:Value}{tk:List Nat}{x:Nat}(hB:Bw wr u2)(h:PG wr.heap.size 1 tk.length (U8 tk) u2 v2)(hl:tk.length<=3000): ∃v u,(Builtin.append_ #[46,46] 46 #[v2,.slice (some ⟨u2.heap.size,0,none⟩) 1 1]).run Tryz.prog (u2.alloc (.cells #[.int .u8 (x:Int)] 5))= .ok v u/\Bw wr u/\IN u u.heap.size v (tk++[x]):=by
 have h2:Bw u2 (u2.alloc (.cells #[.int .u8 (x:Int)] 5)):=Z7 (Zx u2) _
 have hB2:=Yl hB h2
 obtain⟨v,u,b,r1,r2,r3,r4⟩:=app_PG (ty:=46) (m:=1) (ys:=[x]) hB2.size rfl rfl (by omega) (NW_one u2 x) (h.stab h2)
 refine⟨v,u,r1,hB2.grown r3 hB2.size (fun k e=>by cases e;exact r2),?_⟩
 have e:(tk++[x]).length=tk.length+1:=by rw[List.length_append];rfl
 rw[<-e] at r4
 exact PG_in r4
theorem NW_full2{u:World}{b n cap:Nat}{xs:List Nat}{zs:List Value}(hl:xs.length=n)(h:CV u b (U8 xs++zs)):NW n (U8 xs) u (.slice (some ⟨b,0,none⟩) n cap):=
 ⟨_,cap,rfl,.inr ⟨_,rfl,fun j v hj=>by rw[Addr.add0];exact(h.pre2 j v hj).1⟩⟩
theorem cExpandR_core(kv:Value)(s:ByteArray)(n:Nat)(tS oS:Nat->List Nat)(w:World)(hn:n<=8160)(hs:s.size<=1000)(ht0:Hid (tS 0=[]))(htB:Hid (∀k,BB 32 (tS (k+1))))(htl:Hid (∀k,(tS k).length<=32))(ho0:Hid (oS 0=[]))(hos:Hid (∀k,oS (k+1)=oS k++tS (k+1)))(hol:Hid (∀k,(oS k).length=32*k))
 (hSu:Hid (∀(k:Nat) (u:World) (z:Value),Bw w u->IN u u.heap.size z ((tS k++txt s)++[(k+1)%256])->CC 106 #[kv,z] u (.agg (U8 (tS (k+1))).toArray))):
 Calls Tryz.prog 79 #[kv,.string s,iI (n:Int)] w fun e w'=> ∃v,e= .returned v/\(∃k,n<=32*k/\PTX 0 ((oS k).take n) w' v)/\Bw w w':=by
 have hbs:=bs0b
 have hn0: ¬(n:Int)<0:=by omega
 have hn1: ¬(8160:Int)<(n:Int):=by omega
 go_enter Tryz.func79,Tryz.ntmps79
 go_wp2_with fail
 go_loopw [10,9,8] (fun s10 s9 s8 wr=> ∃(k bo co:Nat) (zs:List Value),s10=iI ((k+1:Nat):Int)/\s8= .slice (some ⟨bo,0,none⟩) (32*k) co/\32*k<=co/\zs.length=co -32*k/\w.heap.size<=bo/\bo<wr.heap.size/\Hid (CV wr bo (U8 (oS k)++zs))/\Hid (INb wr bo s9 (tS k))/\k<=255/\Bw w wr) (fun _ _ s8 _=>n -lenV s8)
 case atStart=>
  exact⟨0,w.heap.size,0,[],rfl,rfl,by omega,rfl,Nat.le_refl _,by simp;omega,(by rw[ho0.out];exact fun j v h=>by simp[U8] at h),(by rw[ht0.out];exact⟨_,0,w.heap.size+1,0,rfl,Nat.le_refl _,.inl rfl,by simp,by omega,fun j hj=>by simp at hj⟩),by omega,Z7 (Z7 (Zx w) _) _⟩
 case round=>
  obtain⟨k,bo,co,zs,rfl,rfl,hco,hzl,hbo,hlo,Ko,hlv,hk,HBr⟩:=hrel
  by_cases hj:32*k<n
  ·have hl1:decide (((32*k:Nat):Int)<(n:Int))=true:=by simp;omega
   have hl2:(32:Int)*(k:Int)<(n:Int):=by omega
   have hS:=hSu.out k
   have hT:=htl.out k
   have hTn:=htB.out k
   have hO:=hos.out k
   have hOl:=hol.out k
   obtain⟨tk,etk⟩: ∃x,tS k=x:=⟨_,rfl⟩
   obtain⟨tn,etn⟩: ∃x,tS (k+1)=x:=⟨_,rfl⟩
   obtain⟨ol,eol⟩: ∃x,oS k=x:=⟨_,rfl⟩
   obtain⟨ib,eib⟩: ∃x,(k+1)%256=x:=⟨_,rfl⟩
   rw[etk] at hS hT hlv
   rw[etn] at hS hTn hO
   rw[eol] at hO hOl Ko
   rw[eib] at hS
   have e8:IntKind.u8.wrap ((k:Int)+1)=(ib:Int):=by
    rw[<-eib];simp[IntKind.wrap,IntKind.signed,IntKind.bits]
   have e1:IntKind.i64.wrap ((k:Int)+1+1)=(k:Int)+1+1:=by rw[IntKind.wrap_i64];omega
   have hts:=Wc s
   obtain⟨v1,u1,r1,rB1,rp1⟩:=round_a (INb.inn hlv.out) (by omega)
   have hcv:=fun(u:World)=>Lib.run_convert_string_bytes (P:=Tryz.prog) u 9 46 5 s Tryz.underlying9 Tryz.underlying46 Tryz.underlying5
   obtain⟨v2,u2,r2,rB2,rp2⟩:=round_b rB1 rp1 (by omega) hs
   obtain⟨v3,u3,r3,rB3,rp3⟩:=round_c (x:=ib) rB2 rp2 (by rw[List.length_append,hts];omega)
   have hc3:=hS u3 v3 (Yl HBr rB3) rp3
   have hst:=sc32 tn hTn.len
   have hU:(U8 tn).length=32:=by rw[Z2];exact hTn.len
   have hS:Hid _:=hS
   have hO:Hid _:=hO
   have hTn:Hid _:=hTn
   have hOl:Hid _:=hOl
   have etn:Hid _:=etn
   clear rp1 rp2 rp3 etk eol eib hT
   go_upto_region 10 with(first | (at_builtin;refine Xb rfl _ _ 46 rfl _ _ _ rfl rfl r1 ?_;clear r1) | (at_builtin;refine Xb rfl _ _ 46 rfl _ _ _ rfl rfl r2 ?_;clear r2) | (at_builtin;refine Xb rfl _ _ 46 rfl _ _ _ rfl rfl r3 ?_;clear r3) | (go_at_call 106;refine hc3.mono ?_;rintro e u4 ⟨rfl,hB4⟩;clear hc3))
   have hBA:Bw wr u4:=Yl rB3 hB4
   have K0:=bk32 tn hTn.out.len wr.heap.size u4 hBA.size
   have HB0:Bw wr ((u4.alloc (.cells #[.int .u8 0,.int .u8 0,.int .u8 0,.int .u8 0,.int .u8 0,.int .u8 0,.int .u8 0,.int .u8 0,.int .u8 0,.int .u8 0,.int .u8 0,.int .u8 0,.int .u8 0,.int .u8 0,.int .u8 0,.int .u8 0,.int .u8 0,.int .u8 0,.int .u8 0,.int .u8 0,.int .u8 0,.int .u8 0,.int .u8 0,.int .u8 0,.int .u8 0,.int .u8 0,.int .u8 0,.int .u8 0,.int .u8 0,.int .u8 0,.int .u8 0,.int .u8 0] 117)).setCells u4.heap.size 0 (U8 tn)):=Zu hBA.size (U8 tn) 0 _ (Z7 hBA _)
   generalize hC:((u4.alloc (.cells #[.int .u8 0,.int .u8 0,.int .u8 0,.int .u8 0,.int .u8 0,.int .u8 0,.int .u8 0,.int .u8 0,.int .u8 0,.int .u8 0,.int .u8 0,.int .u8 0,.int .u8 0,.int .u8 0,.int .u8 0,.int .u8 0,.int .u8 0,.int .u8 0,.int .u8 0,.int .u8 0,.int .u8 0,.int .u8 0,.int .u8 0,.int .u8 0,.int .u8 0,.int .u8 0,.int .u8 0,.int .u8 0,.int .u8 0,.int .u8 0,.int .u8 0,.int .u8 0] 117)).setCells u4.heap.size 0 (U8 tn))=v0 at *
   have hsz4:=hBA.size
   have hc0:=K0.cv 0
   have hl0:=K0.lt 0
   clear hst hcv hB4 rB3 rB2 rB1 hBA hC K0
   obtain⟨v4,u5,r4,rB4,b4,c4,z4,rfl,g1,g2,g3,g4,g5⟩:=round_a (wr:=v0) (lv:= .slice (some ⟨u4.heap.size,0,none⟩) 32 32) (tk:=tn) (CV_in hTn.out.len hc0 hl0) (by rw[hTn.out.len];omega)
   rw[hTn.out.len] at r4 g3 g4
   rw[Nat.mul_one] at g4
   have hB5:Bw wr u5:=Yl HB0 rB4
   obtain⟨v5,u6,r5,rg5,b6,c6,z6,rfl,f1,f2,f3,f4,f5⟩:=app_row (ty:=46) (Ko.out.below hB5 hlo) (Nat.lt_of_lt_of_le hlo hB5.size) hOl.out hTn.out.len hco hzl (by omega) (NW_full2 (n:=32) (cap:=c4) (zs:=z4) hTn.out.len g5)
   rw[Nat.mul_one] at f4
   rw[<-hO.out] at f5
   have f5:Hid _:=f5
   have g5:Hid _:=g5
   have h32:32*k+32=32*(k+1):=by omega
   rw[h32] at r5 f3 f4
   have hw6:32*(k+1)<=c6:=f3
   go_wp2_with (first | (at_builtin;refine Xb rfl _ _ 46 rfl _ _ _ rfl rfl r4 ?_;clear r4) | (at_builtin;refine Xb rfl _ _ 46 rfl _ _ _ rfl rfl r5 ?_;clear r5))
   have hs1:=HBr.size
   have hs2:=HB0.size
   have hs3:=hB5.size
   have hBw:Bw w u6:=(Yl HBr hB5).grown rg5 (by omega) (fun j e=>by cases e;exact hbo)
   have hb4:b4≠bo:=by omega
   have hin4:INb u6 b6 (.slice (some ⟨b4,0,none⟩) 32 c4) tn:=by
    refine⟨_,c4,b4,0,by rw[hTn.out.len],by rw[hTn.out.len];exact g3,.inr rfl,Nat.lt_of_lt_of_le g2 rg5.size,by omega,fun j hj=>?_⟩
    have hk:u6.heap[b4]?=u5.heap[b4]?:=rg5.block _ g2 (fun e=>hb4 (by cases e;rfl))
    rw[Nat.zero_add,World.cell?_of_block (a:=⟨b4,j,none⟩) hk]
    exact((CV.pre2 g5.out) j _ (Yc tn j hj)).1
   refine⟨⟨k+1,b6,c6,z6,by simp,rfl,hw6,by omega,by omega,f2,f5,(by rw[etn.out];exact hin4),by omega,hBw⟩,?_⟩
   simp[lenV];omega
  ·have hl1:decide (((32*k:Nat):Int)<(n:Int))=false:=by simp;omega
   have hl2: ¬(32:Int)*(k:Int)<(n:Int):=by omega
   have hnk:n<=32*k:=by omega
   have hnc:(n:Int)<=(co:Int):=by omega
   have hsl:=fun(u:World)=>slHB (some ⟨bo,0,none⟩) (32*k) co n hnk hco (fun e=>by cases e) u
   go_wp2
   have hOl:=hol.out k
   have hnl:((oS k).take n).length=n:=by rw[List.length_take,hOl];omega
   refine bodyPost_ret (v:= .tuple #[.slice (some ⟨bo,0,none⟩) n co,iI 0]) (by simp[results,Tryz.results79,go_sem]) rfl ⟨_,rfl,⟨k,hnk,_,rfl,_,co,bo,0,by rw[hnl],by rw[hnl];omega,.inr rfl,hlo,fun j hj=>?_⟩,HBr⟩
   rw[hnl] at hj
   rw[Nat.zero_add,List.getD_eq_getElem?_getD,List.getElem?_take_of_lt hj,<-List.getD_eq_getElem?_getD]
   exact((CV.pre2 Ko.out) j _ (Yc (oS k) j (by omega))).1
theorem cExpandR_neg(kv:Value)(s:ByteArray)(x:Int)(w:World)(hx:x<0):CC 79 #[kv,.string s,iI x] w (.tuple #[.slice none 0 0,iI 2]):=by
 go_enter Tryz.func79,Tryz.ntmps79
 go_wp2
 exact bodyPost_ret (v:= .tuple #[.slice none 0 0,iI 2]) (by simp[results,Tryz.results79,go_sem]) rfl ⟨rfl,Below.refl _ _⟩
theorem cExpandR_big(kv:Value)(s:ByteArray)(x:Int)(w:World)(hx:8160<x):CC 79 #[kv,.string s,iI x] w (.tuple #[.slice none 0 0,iI 3]):=by
 have h0: ¬x<0:=by omega
 go_enter Tryz.func79,Tryz.ntmps79
 go_wp2
 exact bodyPost_ret (v:= .tuple #[.slice none 0 0,iI 3]) (by simp[results,Tryz.results79,go_sem]) rfl ⟨rfl,Below.refl _ _⟩
theorem cExpand_neg(kv:Value)(s:ByteArray)(x:Int)(w:World)(hx:x<0):CC 72 #[kv,.string s,iI x] w (.tuple #[.slice none 0 0,iI 2]):=by
 go_enter Tryz.func72,Tryz.ntmps72
 go_wp2
 exact bodyPost_ret (v:= .tuple #[.slice none 0 0,iI 2]) (by simp[results,Tryz.results72,go_sem]) rfl ⟨rfl,Below.refl _ _⟩
theorem cExpand_big(kv:Value)(s:ByteArray)(x:Int)(w:World)(hx:8160<x):CC 72 #[kv,.string s,iI x] w (.tuple #[.slice none 0 0,iI 3]):=by
 have h0: ¬x<0:=by omega
 go_enter Tryz.func72,Tryz.ntmps72
 go_wp2
 exact bodyPost_ret (v:= .tuple #[.slice none 0 0,iI 3]) (by simp[results,Tryz.results72,go_sem]) rfl ⟨rfl,Below.refl _ _⟩
def exE(x:Int):Int:=if x<0 then 2 else if 8160<x then 3 else 0
def exY(ks tx:List Nat)(x:Int):List Nat:=if x<0 then [] else if 8160<x then [] else exN (whl ks) tx x.toNat
theorem exY_m(ks tx:List Nat)(x:Int): ∀y∈exY ks tx x,y<256:=by
 unfold exY
 split
 ·simp
 ·split
  ·simp
  ·exact exN_m _ _ _
theorem PTX_nil(u:World)(e:Int)(h:0<u.heap.size):PTX e [] u (.tuple #[.slice none 0 0,iI e]):=⟨_,rfl,IN_nil u h⟩
theorem cExpandX(ks:List Nat)(v:Value)(s:ByteArray)(x:Int)(w:World)(hV:GV w)(hin:IN w w.heap.size v ks)(hsn: ∀n c,v= .slice none n c->c=0)(hk: ∀x∈ks,x<256)(hkl:ks.length<=1000)(hs:s.size<=1000):
 Calls Tryz.prog 72 #[v,.string s,iI x] w fun e w'=> ∃v,e= .returned v/\PTX (exE x) (exY ks (txt s) x) w' v/\Bw w w':=by
 have hz:=hV.sz
 unfold exE exY
 by_cases h1:x<0
 ·rw[if_pos h1,if_pos h1]
  refine(cExpand_neg v s x w h1).mono ?_
  rintro e w' ⟨rfl,hB⟩
  exact⟨_,rfl,PTX_nil w' 2 (by have:=hB.size;omega),hB⟩
 ·rw[if_neg h1,if_neg h1]
  by_cases h2:8160<x
  ·rw[if_pos h2,if_pos h2]
   refine(cExpand_big v s x w h2).mono ?_
   rintro e w' ⟨rfl,hB⟩
   exact⟨_,rfl,PTX_nil w' 3 (by have:=hB.size;omega),hB⟩
  ·rw[if_neg h2,if_neg h2]
   obtain⟨n,rfl⟩: ∃n:Nat,x=(n:Int):=⟨x.toNat,by omega⟩
   refine(cExpand ks v s n w hV hin hsn hk (by omega) (by omega) (by omega)).mono ?_
   rintro e w' ⟨y,rfl,⟨z,rfl,hz⟩,hB⟩
   refine⟨_,rfl,⟨z,rfl,?_⟩,hB⟩
   rw[Int.toNat_natCast]
   have hl:=exN_len (whl ks) (txt s) n
   obtain⟨ys,eys⟩: ∃ys,exN (whl ks) (txt s) n=ys:=⟨_,rfl⟩
   rw[eys] at hz hl⊢
   rw[<-hl] at hz
   exact PS_in hz
theorem cExpandRX(ks:List Nat)(v:Value)(s:ByteArray)(x:Int)(w:World)(hz:0<w.heap.size)(hin:IN w w.heap.size v ks)(hk: ∀x∈ks,x<256)(hkl:ks.length<=1000)(hs:s.size<=1000):
 Calls Tryz.prog 79 #[v,.string s,iI x] w fun e w'=> ∃v,e= .returned v/\PTX (exE x) (exY ks (txt s) x) w' v/\Bw w w':=by
 unfold exE exY
 by_cases h1:x<0
 ·rw[if_pos h1,if_pos h1]
  refine(cExpandR_neg v s x w h1).mono ?_
  rintro e w' ⟨rfl,hB⟩
  exact⟨_,rfl,PTX_nil w' 2 (by have:=hB.size;omega),hB⟩
 ·rw[if_neg h1,if_neg h1]
  by_cases h2:8160<x
  ·rw[if_pos h2,if_pos h2]
   refine(cExpandR_big v s x w h2).mono ?_
   rintro e w' ⟨rfl,hB⟩
   exact⟨_,rfl,PTX_nil w' 3 (by have:=hB.size;omega),hB⟩
  ·rw[if_neg h2,if_neg h2]
   obtain⟨n,rfl⟩: ∃n:Nat,x=(n:Int):=⟨x.toNat,by omega⟩
   refine(cExpandR_core v s n (exT (whl ks) (txt s)) (exS (whl ks) (txt s)) w (by omega) hs rfl (exT_B _ _) (fun k=>(exT_m _ _ k).2) rfl (fun _=>rfl) (Wx _ _) (fun k u z hB hz=>?_)).mono ?_
   ·have hm:=(exT_m (whl ks) (txt s) k)
    have e:exT (whl ks) (txt s) (k+1)=mac ks (exT (whl ks) (txt s) k++txt s++[(k+1)%256]):=rfl
    rw[e]
    obtain⟨a,ea⟩: ∃a,exT (whl ks) (txt s) k=a:=⟨_,rfl⟩
    rw[ea] at hz hm⊢
    have htl:=Wc s
    exact cMacR ks (a++txt s++[(k+1)%256]) v z u ((hin.below hB).mono hB.size) hz hk (fun y hy=>by
     rcases List.mem_append.1 hy with hy | hy
     ·rcases List.mem_append.1 hy with hy | hy
      ·exact hm.1 y hy
      ·exact txt_m s y hy
     ·simp at hy;omega) hkl (by
     rw[List.length_append,List.length_append,htl]
     show _+1<=_
     omega)
   ·rintro e w' ⟨v,rfl,⟨k,h3,h4⟩,hB⟩
    rw[exN_of _ _ k n h3] at h4
    rw[Int.toNat_natCast]
    exact⟨v,rfl,h4,hB⟩
end
end Go.Proofs.YtdhlekdohebbbaaGreatDoor
