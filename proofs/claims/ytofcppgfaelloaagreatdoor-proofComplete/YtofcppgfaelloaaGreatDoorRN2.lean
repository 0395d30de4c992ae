import Derived.Test.YtofcppgfaelloaaGreatDoorRN1
import Derived.Test.YtofcppgfaelloaaGreatDoorOO
namespace Go.Proofs.YtofcppgfaelloaaGreatDoor
set_option linter.unusedVariables false
set_option linter.unusedSimpArgs false
set_option maxRecDepth 100000
set_option maxHeartbeats 4000000
section
open Go.RowKit
set_option maxHeartbeats 8000000 in
theorem cExtractR_z (n cap:Nat) (sl:Option Addr) (y:Value) (ds:List Nat) (w:World) (hds:ds.length=32) (hn:n=0) (hS:Hid (∀(u:World) (bz:Nat),Bw w u->CV u bz (U8 (List.replicate 32 0))->bz<u.heap.size->CC 102 #[.slice (some ⟨bz,0,none⟩) 32 32,y] u (.agg (U8 (ds)).toArray))):
 CC 84 #[.slice sl n cap,y] w (.agg (U8 (ds)).toArray):=by
 go_enter Tryz.func84,Tryz.ntmps84
 go_upto_region 1 with fail
 generalize hC:(w.alloc (.cells (Z32b:List Value).toArray 110))=v0 at *
 have HB0:Bw w v0:=by rw[<-hC];exact Z2 (Zm w) _
 have K0:Bk w.heap.size v0 [(true,w.heap.size,U8 (z32))]:=by rw[<-hC];exact(Bk.nil _ w).ad
 clear hC
 refine Rn K0 HB0 (cG 0 5 [_,_,_] []) (oc g_mv<|oc (g_ln Tryz.underlying43)<|oc (g_bn (fun uZ=>eql_it _ _ ((n:Nat):Int) 0 true uZ (by simp;omega))) on) fun u1 HB1 _ K1=>?_
 simp only[sQ] at K1⊢
 have hlt4:=(K1.lt 0)
 have hlo4:=HB1.size
 go_upto_region 2 with fail
 refine Rf K1 HB1 [] [] [] [] [] [⟨0,8,some 1,PF u1.heap.size 32 (U8 (List.replicate 32 0))⟩,⟨1,0,none,PF u1.heap.size 32 (U8 (List.replicate 32 0))⟩] [] (hst:=(.cons (fun _ _ _ h1 h2=>h2.stab h1)<| .cons (fun _ _ _ h1 h2=>h2.stab h1)<|Stab.nil)) (oc (g_ms 0 (PF u1.heap.size 32 (U8 (List.replicate 32 0))) (mkB .i64 32 (by decide)) (fun u hu=>PF.new 32 _ _ u hu))<|oc (g_sE 0 1 (PF u1.heap.size 32 (U8 (List.replicate 32 0)))) on) fun u2 v2_0 hv2_0 v2_1 hv2_1 HB2 _ K2=>?_
 simp only[sQ] at K2⊢
 obtain⟨bz,rfl,ho1,ho2,hoC⟩:=hv2_1 rfl
 have K2_1:Bk w.heap.size u2 [(true,w.heap.size,U8 (z32)),(false,bz,U8 (List.replicate 32 0))]:=⟨.o (K2.lt 0) (by omega) (K2.cv 0)<| .c ho2 hoC<|trivial,by simp;omega⟩
 go_upto_region 3 with fail
 refine Rp K2_1 HB2 [.all 3 (U8 (ds))] [] (cG 0 9 [_,y,_] []) [] [] [] (oc g_mv<|oc g_mv<|oc (g_cK Xd (fun fZ uZ kZ sZ bZ=>hS.out uZ bz bZ (kZ.cv 1) (kZ.lb sZ 1)))<|oc (g_st 0 Z3 (h1:=Yq _) (hm:=by rw[Z1,hds]) (hl:=by first | rw[Z1,Z1,hds,show z32.length=32 from rfl] | rfl)) on) fun u3 HB3 _ K3=>?_
 simp only[sQ] at K3⊢
 go_wp2
 refine bodyPost_ret (Zy Tryz.results84 rfl (K3.cv 0) Tryz.underlying110 rfl (by rw[Z1,hds];exact Z3)) rfl ⟨rfl,HB3⟩
set_option maxHeartbeats 8000000 in
theorem cExtractR_c (n cap:Nat) (sl:Option Addr) (y:Value) (ds:List Nat) (w:World) (hds:ds.length=32) (hn:0<n) (hS:Hid (∀(u:World),Bw w u->CC 102 #[(.slice sl n cap),y] u (.agg (U8 (ds)).toArray))):
 CC 84 #[.slice sl n cap,y] w (.agg (U8 (ds)).toArray):=by
 go_enter Tryz.func84,Tryz.ntmps84
 go_upto_region 1 with fail
 generalize hC:(w.alloc (.cells (Z32b:List Value).toArray 110))=v0 at *
 have HB0:Bw w v0:=by rw[<-hC];exact Z2 (Zm w) _
 have K0:Bk w.heap.size v0 [(true,w.heap.size,U8 (z32))]:=by rw[<-hC];exact(Bk.nil _ w).ad
 clear hC
 refine Rn K0 HB0 (cG 0 5 [_,_,_] []) (oc g_mv<|oc (g_ln Tryz.underlying43)<|oc (g_bn (fun uZ=>eql_it _ _ ((n:Nat):Int) 0 false uZ (by simp;omega))) on) fun u1 HB1 _ K1=>?_
 simp only[sQ] at K1⊢
 go_upto_region 3 with fail
 refine Rp K1 HB1 [.all 3 (U8 (ds))] [] (cG 0 9 [_,y,_] []) [] [] [] (oc g_mv<|oc g_mv<|oc (g_cb Xd hS.out)<|oc (g_st 0 Z3 (h1:=Yq _) (hm:=by rw[Z1,hds]) (hl:=by first | rw[Z1,Z1,hds,show z32.length=32 from rfl] | rfl)) on) fun u2 HB2 _ K2=>?_
 simp only[sQ] at K2⊢
 go_wp2
 refine bodyPost_ret (Zy Tryz.results84 rfl (K2.cv 0) Tryz.underlying110 rfl (by rw[Z1,hds];exact Z3)) rfl ⟨rfl,HB2⟩
theorem cExtractR (ks xs:List Nat) (v y:Value) (w:World) (hin:IN w w.heap.size v ks) (hin2:IN w w.heap.size y xs) (hk: ∀x∈ks,x<256) (hx: ∀x∈xs,x<256) (hkl:ks.length<=1000) (hl:xs.length<=90000):
 CC 84 #[v,y] w (.agg (U8 (mac ks xs)).toArray):=by
 have hin0:=hin
 obtain⟨sl,cap,gb,go,rfl,h1,h2,h3,h4⟩:=hin
 by_cases h0:ks.length=0
 ·have hks:ks=[]:=List.length_eq_zero_iff.1 h0
  have e:mac (List.replicate 32 0) xs=mac ks xs:=by
   rw[hks]
   have:=whl_zeros [] 32 (by decide)
   rw[List.nil_append] at this
   unfold mac;rw[this]
  refine cExtractR_z ks.length cap sl y (mac ks xs) w (mac_B _ _).len h0 (fun u bz hB hc hb=>?_)
  rw[<-e]
  exact cMacR (List.replicate 32 0) xs _ y u (CV_in (by simp) hc hb) ((hin2.below hB).mono hB.size) (fun x hx=>by rw[List.eq_of_mem_replicate hx];decide) hx (by simp) hl
 ·exact cExtractR_c ks.length cap sl y (mac ks xs) w (mac_B _ _).len (by omega) (fun u hB=>cMacR ks xs _ y u ((hin0.below hB).mono hB.size) ((hin2.below hB).mono hB.size) hk hx (by omega) (by omega))
set_option maxHeartbeats 8000000 in
theorem cExtract_core (v y:Value) (ds:List Nat) (w:World) (hds:ds.length=32) (hS:Hid (∀(u:World),Bw w u->CC 117 #[v,y] u (.agg (U8 (ds)).toArray))):
 CC 100 #[v,y] w (.agg (U8 (ds)).toArray):=by
 go_enter Tryz.func100,Tryz.ntmps100
 go_upto_region 1 with fail
 generalize hC:(w.alloc (.cells (Z32b:List Value).toArray 110))=v0 at *
 have HB0:Bw w v0:=by rw[<-hC];exact Z2 (Zm w) _
 have K0:Bk w.heap.size v0 [(true,w.heap.size,U8 (z32))]:=by rw[<-hC];exact(Bk.nil _ w).ad
 clear hC
 refine Rp K0 HB0 [.all 3 (U8 (ds))] [] (cG 0 5 [v,y,_] []) [] [] [] (oc g_mv<|oc g_mv<|oc (g_cb ent_mac_Sum hS.out)<|oc (g_st 0 Z3 (h1:=Yq _) (hm:=by rw[Z1,hds]) (hl:=by first | rw[Z1,Z1,hds,show z32.length=32 from rfl] | rfl)) on) fun u1 HB1 _ K1=>?_
 simp only[sQ] at K1⊢
 go_wp2
 refine bodyPost_ret (Zy Tryz.results100 rfl (K1.cv 0) Tryz.underlying110 rfl (by rw[Z1,hds];exact Z3)) rfl ⟨rfl,HB1⟩
theorem cExtract (ks xs:List Nat) (v v2:Value) (w:World) (hV:GV w) (hin:IN w w.heap.size v ks) (hsn: ∀n c,v= .slice none n c->c=0) (hin2:IN w w.heap.size v2 xs) (hk: ∀x∈ks,x<256) (hx: ∀x∈xs,x<256) (hkl:ks.length<=1000) (hl:xs.length<=1000):
 CC 100 #[v,v2] w (.agg (U8 (mac ks xs)).toArray):=
 cExtract_core v v2 (mac ks xs) w (mac_B _ _).len (fun u hB=>cMac ks xs v v2 u (hV.below hB hV.sz) ((hin.below hB).mono hB.size) hsn ((hin2.below hB).mono hB.size) hk hx (by omega) (by omega))
theorem Xf {P:Program} {w w':World} {ops:Array Oper} {rest:List Oper} {o:Oper} {a:Act} {Q:Exit->Act->World->Prop} (hgd:o.guard=none) (s x:Operand) (t:TypeId) (ho:o.op= .call {callee:= .builtin .append,args:=#[s,x],argTypes:=#[t,t]}) (vs vx v:Value) (hs:a.eval s=vs) (hx:a.eval x=vx) (hr:(Builtin.append_ #[t,t] o.type #[vs,vx]).run P w= .ok v w') (h:wpList P ops Q rest (a.put o.dst v) w'):wpList P ops Q (o::rest) a w:=by
 refine wpList_plain hgd fun K hK=>?_
 unfold Oper.wp execOp
 simp only[ho,resolve,invoke,builtin,Sem.run_bind,Sem.run_pure,Result.andThen_ok,List.map_toArray,List.map_cons,List.map_nil,hs,hx,hr]
 exact hK _ _ h
def PTX (e:Int) (xs:List Nat) (u:World) (v:Value):Prop:= ∃y,v= .tuple #[y,iI e]/\IN u u.heap.size y xs
theorem app_row {n m bo co:Nat} {xs ys:List Nat} {zs:List Value} {y:Value} {ty:TypeId} {u:World} (hc:CV u bo (U8 xs++zs)) (hb:bo<u.heap.size) (hxl:xs.length=n) (hyl:ys.length=m) (hnc:n<=co) (hz:zs.length=co -n) (hl:n+m<=1000000) (hy:NW m (U8 ys) u y):
 ∃v u',(Builtin.append_ #[43,43] ty #[.slice (some ⟨bo,0,none⟩) n co,y]).run Tryz.prog u= .ok v u'/\u.grownBy u' (some bo)/\PH u.heap.size bo 1 (n+m) (U8 (xs++ys)) u' v:=by
 obtain⟨ti,hti,htm⟩:=Option.map_eq_some_iff.1 Tu
 simp only[Prod.mk.injEq] at htm
 obtain⟨hzv,hsz,hby⟩:=htm
 obtain⟨v',u',hr,hg,hp⟩:=run_app (P:=Tryz.prog) u (ty:=ty) Tryz.underlying43 hti hzv (by rw[hsz];rfl) (base:=u.heap.size) (n:=n) (cap:=co) (m:=m) (news:=U8 ys) hc hb (by rw[hsz,Z1];omega) (by rw[hsz];omega) hnc (Nat.le_refl _) hy (by rw[hsz,Z1];omega) Vh (by rw[hby];omega) (by omega)
 rw[hsz,<-Xz] at hp
 exact⟨v',u',hr,hg,hp⟩
theorem IN_of_txt (u:World) (s:ByteArray):IN (Lib.bytesWorld u 5 s) (Lib.bytesWorld u 5 s).heap.size (.slice (some ⟨u.heap.size,0,none⟩) s.size (grownCap u s.size 0 5)) (txt s)/\Bw u (Lib.bytesWorld u 5 s):=by
 have hsz:=Lib.bytesWorld_size u 5 s
 refine⟨⟨_,_,u.heap.size,0,by rw[W9],by rw[W9];exact grownCap_ge u s.size 0 _,.inr rfl,by omega,fun j hj=>?_⟩,⟨rfl,rfl,rfl,by omega,fun k hk=>Lib.bytesWorld_at_old u 5 s k hk⟩⟩
 rw[W9] at hj
 rw[Nat.zero_add,Lib.bytesWorld_cell u 5 s j hj]
 have hj2:j<s.data.toList.length:=by rw[Array.length_toList];exact hj
 have e1:s.data.toList.getD j 0=s.data.toList[j]:=by rw[List.getD_eq_getElem?_getD,List.getElem?_eq_getElem hj2];rfl
 have e2:(txt s).getD j 0=(s.data.toList[j]).toNat:=by rw[List.getD_eq_getElem?_getD,txt,List.getElem?_map,List.getElem?_eq_getElem hj2];rfl
 rw[e1,e2]
theorem PZ_new (u:World):PZ u.heap.size (u.alloc (.cells #[] 5)) (.slice (some ⟨u.heap.size,0,none⟩) 0 0):=⟨_,rfl,Nat.le_refl _,by simp⟩
theorem NW_one (u:World) (x:Nat):NW 1 (U8 [x]) (u.alloc (.cells #[.int .u8 (x:Int)] 5)) (.slice (some ⟨u.heap.size,0,none⟩) 1 1):=
 ⟨_,1,rfl,.inr ⟨_,rfl,fun j v hj=>by rw[Addr.add0];exact(CV.new u (U8 [x]) 5 j v hj).1⟩⟩
theorem round_a {wr:World} {lv:Value} {tk:List Nat} (hlv:IN wr wr.heap.size lv tk) (hl:tk.length<=1000): ∃v u,(Builtin.append_ #[43,43] 43 #[.slice (some ⟨wr.heap.size,0,none⟩) 0 0,lv]).run Tryz.prog (wr.alloc (.cells #[] 5))= .ok v u/\Bw wr u/\PG wr.heap.size 1 tk.length (U8 tk) u v:=by
 have hB:Bw wr (wr.alloc (.cells #[] 5)):=Z2 (Zm wr) _
 obtain⟨v,u,h1,h2,h3⟩:=app_PZ (ty:=43) (lo:=wr.heap.size) hB.size (by omega) ((hlv.below hB).mono hB.size) (PZ_new wr)
 exact⟨v,u,h1,Yu hB h2,h3⟩
theorem round_b {wr u1:World} {v1:Value} {tk:List Nat} {s:ByteArray} (hB:Bw wr u1) (h:PG wr.heap.size 1 tk.length (U8 tk) u1 v1) (hl:tk.length<=1000) (hs:s.size<=1000): ∃v u,(Builtin.append_ #[43,43] 43 #[v1,.slice (some ⟨u1.heap.size,0,none⟩) s.size (grownCap u1 s.size 0 5)]).run Tryz.prog (Lib.bytesWorld u1 5 s)= .ok v u/\Bw wr u/\PG wr.heap.size 1 (tk++txt s).length (U8 (tk++txt s)) u v:=by
 obtain⟨h1,h2⟩:=IN_of_txt u1 s
 have hB2:=Yu hB h2
 have htl:=W9 s
 have hn:=IN_NW h1
 rw[htl] at hn
 obtain⟨v,u,b,r1,r2,r3,r4⟩:=app_PG (ty:=43) hB2.size rfl htl (by omega) hn (h.stab h2)
 refine⟨v,u,r1,hB2.grown r3 hB2.size (fun k e=>by cases e;exact r2),?_⟩
 rw[List.length_append,htl];exact r4
theorem round_c {wr u2:World} {v2:Value} {tk:List Nat} {x:Nat} (hB:Bw wr u2) (h:PG wr.heap.size 1 tk.length (U8 tk) u2 v2) (hl:tk.length<=3000): ∃v u,(Builtin.append_ #[43,43] 43 #[v2,.slice (some ⟨u2.heap.size,0,none⟩) 1 1]).run Tryz.prog (u2.alloc (.cells #[.int .u8 (x:Int)] 5))= .ok v u/\Bw wr u/\IN u u.heap.size v (tk++[x]):=by
 have h2:Bw u2 (u2.alloc (.cells #[.int .u8 (x:Int)] 5)):=Z2 (Zm u2) _
 have hB2:=Yu hB h2
 obtain⟨v,u,b,r1,r2,r3,r4⟩:=app_PG (ty:=43) (m:=1) (ys:=[x]) hB2.size rfl rfl (by omega) (NW_one u2 x) (h.stab h2)
 refine⟨v,u,r1,hB2.grown r3 hB2.size (fun k e=>by cases e;exact r2),?_⟩
 have e:(tk++[x]).length=tk.length+1:=by rw[List.length_append];rfl
 rw[<-e] at r4
 exact PG_in r4
theorem NW_full2 {u:World} {b n cap:Nat} {xs:List Nat} {zs:List Value} (hl:xs.length=n) (h:CV u b (U8 xs++zs)):NW n (U8 xs) u (.slice (some ⟨b,0,none⟩) n cap):=
 ⟨_,cap,rfl,.inr ⟨_,rfl,fun j v hj=>by rw[Addr.add0];exact(h.pre2 j v hj).1⟩⟩
theorem cExpandR_core (kv:Value) (s:ByteArray) (n:Nat) (tS oS:Nat->List Nat) (w:World) (hn:n<=8160) (hs:s.size<=1000) (ht0:Hid (tS 0=[])) (htB:Hid (∀k,BB 32 (tS (k+1)))) (htl:Hid (∀k,(tS k).length<=32)) (ho0:Hid (oS 0=[])) (hos:Hid (∀k,oS (k+1)=oS k++tS (k+1))) (hol:Hid (∀k,(oS k).length=32*k))
 (hSu:Hid (∀(k:Nat) (u:World) (z:Value),Bw w u->IN u u.heap.size z ((tS k++txt s)++[(k+1)%256])->CC 102 #[kv,z] u (.agg (U8 (tS (k+1))).toArray))):
 Calls Tryz.prog 85 #[kv,.string s,iI (n:Int)] w fun e w'=> ∃v,e= .returned v/\(∃k,n<=32*k/\PTX 0 ((oS k).take n) w' v)/\Bw w w':=by
 have hbs:=bs0b
 have hn0: ¬(n:Int)<0:=by omega
 have hn1: ¬(8160:Int)<(n:Int):=by omega
 go_enter Tryz.func85,Tryz.ntmps85
 go_wp2_with fail
 go_loopw [10,9,8] (fun s10 s9 s8 wr=> ∃(k bo co:Nat) (zs:List Value),s10=iI ((k+1:Nat):Int)/\s8= .slice (some ⟨bo,0,none⟩) (32*k) co/\32*k<=co/\zs.length=co -32*k/\w.heap.size<=bo/\bo<wr.heap.size/\Hid (CV wr bo (U8 (oS k)++zs))/\Hid (INb wr bo s9 (tS k))/\k<=255/\Bw w wr) (fun _ _ s8 _=>n -lenV s8)
 case atStart=>
  exact⟨0,w.heap.size,0,[],rfl,rfl,by omega,rfl,Nat.le_refl _,by simp;omega,(by rw[ho0.out];exact fun j v h=>by simp[U8] at h),(by rw[ht0.out];exact⟨_,0,w.heap.size+1,0,rfl,Nat.le_refl _,.inl rfl,by simp,by omega,fun j hj=>by simp at hj⟩),by omega,Z2 (Z2 (Zm w) _) _⟩
 case round=>
  obtain⟨k,bo,co,zs,rfl,rfl,hco,hzl,hbo,hlo,Ko,hlv,hk,HBr⟩:=hrel
  by_cases hj:32*k<n
  ·have hl1:decide (((32*k:Nat):Int)<(n:Int))=true:=by simp;omega
   have hl2:(32:Int)*(k:Int)<(n:Int):=by omega
   have hS:=hSu.out k
   have hT:=htl.out k
   have hTn:=htB.out k
   have hO:=hos.out k
   have hOl:=hol.out k
   obtain⟨tk,etk⟩: ∃x,tS k=x:=⟨_,rfl⟩
   obtain⟨tn,etn⟩: ∃x,tS (k+1)=x:=⟨_,rfl⟩
   obtain⟨ol,eol⟩: ∃x,oS k=x:=⟨_,rfl⟩
   obtain⟨ib,eib⟩: ∃x,(k+1)%256=x:=⟨_,rfl⟩
   rw[etk] at hS hT hlv
   rw[etn] at hS hTn hO
   rw[eol] at hO hOl Ko
   rw[eib] at hS
   have e8:IntKind.u8.wrap ((k:Int)+1)=(ib:Int):=by
    rw[<-eib];simp[IntKind.wrap,IntKind.signed,IntKind.bits]
   have e1:IntKind.i64.wrap ((k:Int)+1+1)=(k:Int)+1+1:=by rw[IntKind.wrap_i64];omega
   have hts:=W9 s
   obtain⟨v1,u1,r1,rB1,rp1⟩:=round_a (INb.inn hlv.out) (by omega)
   have hcv:=fun(u:World)=>Lib.run_convert_string_bytes (P:=Tryz.prog) u 9 43 5 s Tryz.underlying9 Tryz.underlying43 Tryz.underlying5
   obtain⟨v2,u2,r2,rB2,rp2⟩:=round_b rB1 rp1 (by omega) hs
   obtain⟨v3,u3,r3,rB3,rp3⟩:=round_c (x:=ib) rB2 rp2 (by rw[List.length_append,hts];omega)
   have hc3:=hS u3 v3 (Yu HBr rB3) rp3
   have hst:=sc32 tn hTn.len
   have hU:(U8 tn).length=32:=by rw[Z1];exact hTn.len
   have hS:Hid _:=hS
   have hO:Hid _:=hO
   have hTn:Hid _:=hTn
   have hOl:Hid _:=hOl
   have etn:Hid _:=etn
   clear rp1 rp2 rp3 etk eol eib hT
   go_upto_region 10 with(first | (at_builtin;refine Xf rfl _ _ 43 rfl _ _ _ rfl rfl r1 ?_;clear r1) | (at_builtin;refine Xf rfl _ _ 43 rfl _ _ _ rfl rfl r2 ?_;clear r2) | (at_builtin;refine Xf rfl _ _ 43 rfl _ _ _ rfl rfl r3 ?_;clear r3) | (go_at_call 102;refine hc3.mono ?_;rintro e u4 ⟨rfl,hB4⟩;clear hc3))
   have hBA:Bw wr u4:=Yu rB3 hB4
   have K0:=bk32 tn hTn.out.len wr.heap.size u4 hBA.size
   have HB0:Bw wr ((u4.alloc (.cells #[.int .u8 0,.int .u8 0,.int .u8 0,.int .u8 0,.int .u8 0,.int .u8 0,.int .u8 0,.int .u8 0,.int .u8 0,.int .u8 0,.int .u8 0,.int .u8 0,.int .u8 0,.int .u8 0,.int .u8 0,.int .u8 0,.int .u8 0,.int .u8 0,.int .u8 0,.int .u8 0,.int .u8 0,.int .u8 0,.int .u8 0,.int .u8 0,.int .u8 0,.int .u8 0,.int .u8 0,.int .u8 0,.int .u8 0,.int .u8 0,.int .u8 0,.int .u8 0] 110)).setCells u4.heap.size 0 (U8 tn)):=Zo hBA.size (U8 tn) 0 _ (Z2 hBA _)
   generalize hC:((u4.alloc (.cells #[.int .u8 0,.int .u8 0,.int .u8 0,.int .u8 0,.int .u8 0,.int .u8 0,.int .u8 0,.int .u8 0,.int .u8 0,.int .u8 0,.int .u8 0,.int .u8 0,.int .u8 0,.int .u8 0,.int .u8 0,.int .u8 0,.int .u8 0,.int .u8 0,.int .u8 0,.int .u8 0,.int .u8 0,.int .u8 0,.int .u8 0,.int .u8 0,.int .u8 0,.int .u8 0,.int .u8 0,.int .u8 0,.int .u8 0,.int .u8 0,.int .u8 0,.int .u8 0] 110)).setCells u4.heap.size 0 (U8 tn))=v0 at *
   have hsz4:=hBA.size
   have hc0:=K0.cv 0
   have hl0:=K0.lt 0
   clear hst hcv hB4 rB3 rB2 rB1 hBA hC K0
   obtain⟨v4,u5,r4,rB4,b4,c4,z4,rfl,g1,g2,g3,g4,g5⟩:=round_a (wr:=v0) (lv:= .slice (some ⟨u4.heap.size,0,none⟩) 32 32) (tk:=tn) (CV_in hTn.out.len hc0 hl0) (by rw[hTn.out.len];omega)
   rw[hTn.out.len] at r4 g3 g4
   rw[Nat.mul_one] at g4
   have hB5:Bw wr u5:=Yu HB0 rB4
   obtain⟨v5,u6,r5,rg5,b6,c6,z6,rfl,f1,f2,f3,f4,f5⟩:=app_row (ty:=43) (Ko.out.below hB5 hlo) (Nat.lt_of_lt_of_le hlo hB5.size) hOl.out hTn.out.len hco hzl (by omega) (NW_full2 (n:=32) (cap:=c4) (zs:=z4) hTn.out.len g5)
   rw[Nat.mul_one] at f4
   rw[<-hO.out] at f5
   have f5:Hid _:=f5
   have g5:Hid _:=g5
   have h32:32*k+32=32*(k+1):=by omega
   rw[h32] at r5 f3 f4
   have hw6:32*(k+1)<=c6:=f3
   go_wp2_with (first | (at_builtin;refine Xf rfl _ _ 43 rfl _ _ _ rfl rfl r4 ?_;clear r4) | (at_builtin;refine Xf rfl _ _ 43 rfl _ _ _ rfl rfl r5 ?_;clear r5))
   have hs1:=HBr.size
   have hs2:=HB0.size
   have hs3:=hB5.size
   have hBw:Bw w u6:=(Yu HBr hB5).grown rg5 (by omega) (fun j e=>by cases e;exact hbo)
   have hb4:b4≠bo:=by omega
   have hin4:INb u6 b6 (.slice (some ⟨b4,0,none⟩) 32 c4) tn:=by
    refine⟨_,c4,b4,0,by rw[hTn.out.len],by rw[hTn.out.len];exact g3,.inr rfl,Nat.lt_of_lt_of_le g2 rg5.size,by omega,fun j hj=>?_⟩
    have hk:u6.heap[b4]?=u5.heap[b4]?:=rg5.block _ g2 (fun e=>hb4 (by cases e;rfl))
    rw[Nat.zero_add,World.cell?_of_block (a:=⟨b4,j,none⟩) hk]
    exact((CV.pre2 g5.out) j _ (Y2 tn j hj)).1
   refine⟨⟨k+1,b6,c6,z6,by simp,rfl,hw6,by omega,by omega,f2,f5,(by rw[etn.out];exact hin4),by omega,hBw⟩,?_⟩
   simp[lenV];omega
  ·have hl1:decide (((32*k:Nat):Int)<(n:Int))=false:=by simp;omega
   have hl2: ¬(32:Int)*(k:Int)<(n:Int):=by omega
   have hnk:n<=32*k:=by omega
   have hnc:(n:Int)<=(co:Int):=by omega
   have hsl:=fun(u:World)=>slHB (some ⟨bo,0,none⟩) (32*k) co n hnk hco (fun e=>by cases e) u
   go_wp2
   have hOl:=hol.out k
   have hnl:((oS k).take n).length=n:=by rw[List.length_take,hOl];omega
   refine bodyPost_ret (v:= .tuple #[.slice (some ⟨bo,0,none⟩) n co,iI 0]) (by simp[results,Tryz.results85,go_sem]) rfl ⟨_,rfl,⟨k,hnk,_,rfl,_,co,bo,0,by rw[hnl],by rw[hnl];omega,.inr rfl,hlo,fun j hj=>?_⟩,HBr⟩
   rw[hnl] at hj
   rw[Nat.zero_add,List.getD_eq_getElem?_getD,List.getElem?_take_of_lt hj,<-List.getD_eq_getElem?_getD]
   exact((CV.pre2 Ko.out) j _ (Y2 (oS k) j (by omega))).1
theorem cExpandR_neg (kv:Value) (s:ByteArray) (x:Int) (w:World) (hx:x<0):CC 85 #[kv,.string s,iI x] w (.tuple #[.slice none 0 0,iI 2]):=by
 go_enter Tryz.func85,Tryz.ntmps85
 go_wp2
 exact bodyPost_ret (v:= .tuple #[.slice none 0 0,iI 2]) (by simp[results,Tryz.results85,go_sem]) rfl ⟨rfl,Below.refl _ _⟩
theorem cExpandR_big (kv:Value) (s:ByteArray) (x:Int) (w:World) (hx:8160<x):CC 85 #[kv,.string s,iI x] w (.tuple #[.slice none 0 0,iI 3]):=by
 have h0: ¬x<0:=by omega
 go_enter Tryz.func85,Tryz.ntmps85
 go_wp2
 exact bodyPost_ret (v:= .tuple #[.slice none 0 0,iI 3]) (by simp[results,Tryz.results85,go_sem]) rfl ⟨rfl,Below.refl _ _⟩
theorem cExpand_neg (kv:Value) (s:ByteArray) (x:Int) (w:World) (hx:x<0):CC 101 #[kv,.string s,iI x] w (.tuple #[.slice none 0 0,iI 2]):=by
 go_enter Tryz.func101,Tryz.ntmps101
 go_wp2
 exact bodyPost_ret (v:= .tuple #[.slice none 0 0,iI 2]) (by simp[results,Tryz.results101,go_sem]) rfl ⟨rfl,Below.refl _ _⟩
theorem cExpand_big (kv:Value) (s:ByteArray) (x:Int) (w:World) (hx:8160<x):CC 101 #[kv,.string s,iI x] w (.tuple #[.slice none 0 0,iI 3]):=by
 have h0: ¬x<0:=by omega
 go_enter Tryz.func101,Tryz.ntmps101
 go_wp2
 exact bodyPost_ret (v:= .tuple #[.slice none 0 0,iI 3]) (by simp[results,Tryz.results101,go_sem]) rfl ⟨rfl,Below.refl _ _⟩
def exE (x:Int):Int:=if x<0 then 2 else if 8160<x then 3 else 0
def exY (ks tx:List Nat) (x:Int):List Nat:=if x<0 then [] else if 8160<x then [] else exN (whl ks) tx x.toNat
theorem exY_m (ks tx:List Nat) (x:Int): ∀y∈exY ks tx x,y<256:=by
 unfold exY
 split
 ·simp
 ·split
  ·simp
  ·exact exN_m _ _ _
theorem PTX_nil (u:World) (e:Int) (h:0<u.heap.size):PTX e [] u (.tuple #[.slice none 0 0,iI e]):=⟨_,rfl,IN_nil u h⟩
theorem cExpandX (ks:List Nat) (v:Value) (s:ByteArray) (x:Int) (w:World) (hV:GV w) (hin:IN w w.heap.size v ks) (hsn: ∀n c,v= .slice none n c->c=0) (hk: ∀x∈ks,x<256) (hkl:ks.length<=1000) (hs:s.size<=1000):
 Calls Tryz.prog 101 #[v,.string s,iI x] w fun e w'=> ∃v,e= .returned v/\PTX (exE x) (exY ks (txt s) x) w' v/\Bw w w':=by
 have hz:=hV.sz
 unfold exE exY
 by_cases h1:x<0
 ·rw[if_pos h1,if_pos h1]
  refine(cExpand_neg v s x w h1).mono ?_
  rintro e w' ⟨rfl,hB⟩
  exact⟨_,rfl,PTX_nil w' 2 (by have:=hB.size;omega),hB⟩
 ·rw[if_neg h1,if_neg h1]
  by_cases h2:8160<x
  ·rw[if_pos h2,if_pos h2]
   refine(cExpand_big v s x w h2).mono ?_
   rintro e w' ⟨rfl,hB⟩
   exact⟨_,rfl,PTX_nil w' 3 (by have:=hB.size;omega),hB⟩
  ·rw[if_neg h2,if_neg h2]
   obtain⟨n,rfl⟩: ∃n:Nat,x=(n:Int):=⟨x.toNat,by omega⟩
   refine(cExpand ks v s n w hV hin hsn hk (by omega) (by omega) (by omega)).mono ?_
   rintro e w' ⟨y,rfl,⟨z,rfl,hz⟩,hB⟩
   refine⟨_,rfl,⟨z,rfl,?_⟩,hB⟩
   rw[Int.toNat_natCast]
   have hl:=exN_len (whl ks) (txt s) n
   obtain⟨ys,eys⟩: ∃ys,exN (whl ks) (txt s) n=ys:=⟨_,rfl⟩
   rw[eys] at hz hl⊢
   rw[<-hl] at hz
   exact PS_in hz
theorem cExpandRX (ks:List Nat) (v:Value) (s:ByteArray) (x:Int) (w:World) (hz:0<w.heap.size) (hin:IN w w.heap.size v ks) (hk: ∀x∈ks,x<256) (hkl:ks.length<=1000) (hs:s.size<=1000):
 Calls Tryz.prog 85 #[v,.string s,iI x] w fun e w'=> ∃v,e= .returned v/\PTX (exE x) (exY ks (txt s) x) w' v/\Bw w w':=by
 unfold exE exY
 by_cases h1:x<0
 ·rw[if_pos h1,if_pos h1]
  refine(cExpandR_neg v s x w h1).mono ?_
  rintro e w' ⟨rfl,hB⟩
  exact⟨_,rfl,PTX_nil w' 2 (by have:=hB.size;omega),hB⟩
 ·rw[if_neg h1,if_neg h1]
  by_cases h2:8160<x
  ·rw[if_pos h2,if_pos h2]
   refine(cExpandR_big v s x w h2).mono ?_
   rintro e w' ⟨rfl,hB⟩
   exact⟨_,rfl,PTX_nil w' 3 (by have:=hB.size;omega),hB⟩
  ·rw[if_neg h2,if_neg h2]
   obtain⟨n,rfl⟩: ∃n:Nat,x=(n:Int):=⟨x.toNat,by omega⟩
   refine(cExpandR_core v s n (exT (whl ks) (txt s)) (exS (whl ks) (txt s)) w (by omega) hs rfl (exT_B _ _) (fun k=>(exT_m _ _ k).2) rfl (fun _=>rfl) (Wt _ _) (fun k u z hB hz=>?_)).mono ?_
   ·have hm:=(exT_m (whl ks) (txt s) k)
    have e:exT (whl ks) (txt s) (k+1)=mac ks (exT (whl ks) (txt s) k++txt s++[(k+1)%256]):=rfl
    rw[e]
    obtain⟨a,ea⟩: ∃a,exT (whl ks) (txt s) k=a:=⟨_,rfl⟩
    rw[ea] at hz hm⊢
    have htl:=W9 s
    exact cMacR ks (a++txt s++[(k+1)%256]) v z u ((hin.below hB).mono hB.size) hz hk (fun y hy=>by
     rcases List.mem_append.1 hy with hy | hy
     ·rcases List.mem_append.1 hy with hy | hy
      ·exact hm.1 y hy
      ·exact txt_m s y hy
     ·simp at hy;omega) hkl (by
     rw[List.length_append,List.length_append,htl]
     show _+1<=_
     omega)
   ·rintro e w' ⟨v,rfl,⟨k,h3,h4⟩,hB⟩
    rw[exN_of _ _ k n h3] at h4
    rw[Int.toNat_natCast]
    exact⟨v,rfl,h4,hB⟩
end
section
theorem W3 (n m:Int) (k:Nat):(n%m)^k%m=n^k%m:=by
 induction k with
 | zero=>rw[Int.pow_zero,Int.pow_zero]
 | succ k ih=>rw[Int.pow_succ,Int.pow_succ,Int.mul_emod,ih,Int.emod_emod,<-Int.mul_emod]
theorem mul_powG (a b:Int) (k:Nat):(a*b)^k=a^k*b^k:=by
 induction k with
 | zero=>rw[Int.pow_zero,Int.pow_zero,Int.pow_zero,Int.one_mul]
 | succ k ih=>rw[Int.pow_succ,Int.pow_succ,Int.pow_succ,ih];grind
def gOk (p q:Int):Prop:=p=2*q+1/\7<=p
def Mb (p q x:Int):Prop:=0<x/\x<p/\x^q.toNat%p=1
instance (p q:Int):Decidable (gOk p q):=by unfold gOk;infer_instance
instance (p q x:Int):Decidable (Mb p q x):=by unfold Mb;infer_instance
theorem gOk.q3 {p q:Int} (h:gOk p q):3<=q:=by have:=h.1;have:=h.2;omega
theorem pow_red {x p:Int} {Q:Nat} (h1:1<p) (h:x^Q%p=1) (n:Nat):x^n%p=x^(n%Q)%p:=by
 have e:x^n=(x^Q)^(n/Q)*x^(n%Q):=by rw[<-Int.pow_mul,<-Int.pow_add,Nat.div_add_mod]
 rw[e,Int.mul_emod,<-W3,h,Int.one_pow,<-Int.mul_emod,Int.one_mul]
theorem one_mod {p:Int} (h:1<p):(1:Int)%p=1:=Int.emod_eq_of_lt (by omega) h
theorem Mb.nz {p q x:Int} (hg:gOk p q) (h:x^q.toNat%p=1):x%p≠0:=fun e=>by
 have h3:=hg.q3
 have h2:(x%p)^q.toNat%p=1:=by rw[W3];exact h
 obtain⟨k,hk⟩: ∃k,q.toNat=k+1:=⟨q.toNat -1,by omega⟩
 rw[e,hk,Int.pow_succ,Int.mul_zero,Int.zero_emod] at h2
 cases h2
theorem Mb.of {p q x:Int} (hg:gOk p q) (h:x^q.toNat%p=1):Mb p q (x%p):=by
 have h7:=hg.2
 have h1:=Int.emod_nonneg x (show p≠0 by omega)
 have h2:=Int.emod_lt_of_pos x (show 0<p by omega)
 have h3:=Mb.nz hg h
 exact⟨by omega,h2,by rw[W3];exact h⟩
theorem Mb.mul {p q x y:Int} (hg:gOk p q) (hx:Mb p q x) (hy:Mb p q y):Mb p q (x*y%p):=by
 refine Mb.of hg ?_
 rw[mul_powG,Int.mul_emod,hx.2.2,hy.2.2,Int.one_mul]
 exact one_mod (by have:=hg.2;omega)
theorem Mb.pow {p q x:Int} (hg:gOk p q) (hx:Mb p q x) (n:Nat):Mb p q (x^n%p):=by
 refine Mb.of hg ?_
 rw[<-Int.pow_mul,Nat.mul_comm,Int.pow_mul,<-W3,hx.2.2,Int.one_pow]
 exact one_mod (by have:=hg.2;omega)
theorem IsInv.gcd {a m x:Int} (h:IsInv a m x) (ha:0<=a) (hm:0<m):gI m a=1:=by
 obtain⟨c,hc⟩:=h.2.2
 have h0:=h.1
 have hd1:((Nat.gcd m.toNat a.toNat:Nat):Int)∣m:=by
  have:=Int.ofNat_dvd.2 (Nat.gcd_dvd_left m.toNat a.toNat)
  rwa [Int.toNat_of_nonneg (by omega)] at this
 have hd2:((Nat.gcd m.toNat a.toNat:Nat):Int)∣a:=by
  have:=Int.ofNat_dvd.2 (Nat.gcd_dvd_right m.toNat a.toNat)
  rwa [Int.toNat_of_nonneg ha] at this
 have hd:((Nat.gcd m.toNat a.toNat:Nat):Int)∣1:=by
  have e:(1:Int)=x*a -m*c:=by omega
  rw[e]
  exact Int.dvd_sub (Int.dvd_mul_of_dvd_right hd2) (Int.dvd_mul_of_dvd_left hd1)
 unfold gI
 have:=Int.le_of_dvd (by decide) hd
 have hp:0<Nat.gcd m.toNat a.toNat:=Nat.gcd_pos_of_pos_left _ (by omega)
 omega
theorem Mb.sum {p q x:Int} (hg:gOk p q) (hx:Mb p q x) (a b:Int) (ha:0<=a) (hb:0<=b):x^(a%q).toNat%p*(x^(b%q).toNat%p)%p=x^((a+b)%q).toNat%p:=by
 have h3:=hg.q3
 have e: ∀n:Int,0<=n->(n%q).toNat=n.toNat%q.toNat:=fun n hn=>by
  have h1:((n.toNat%q.toNat:Nat):Int)=n%q:=by rw[Int.natCast_emod,Int.toNat_of_nonneg hn,Int.toNat_of_nonneg (by omega)]
  omega
 have h1:1<p:=by have:=hg.2;omega
 rw[e a ha,e b hb,e (a+b) (by omega),<-pow_red h1 hx.2.2,<-pow_red h1 hx.2.2,<-pow_red h1 hx.2.2,<-Int.mul_emod,<-Int.pow_add,Int.toNat_add ha hb]
end
section
open Go.RowKit
theorem xaddG_lt (a b m0 m1 m2 m3 r0 r1 r2 r3 ec:Int) (w:World) (ha:In a) (hb:In b) (hR:Hid (∀u,CC 45 #[WV (a+b),A4 m0 m1 m2 m3] u (.tuple #[A4 r0 r1 r2 r3,iI ec]))) (hl:a+b<0x10000000000000000000000000000000000000000000000000000000000000000):CC 25 #[NV a,NV b,A4 m0 m1 m2 m3] w (.tuple #[A4 (r0) (r1) (r2) (r3),iI ec]):=by
 have hi:In (a+b):=⟨by have:=ha.1;have:=hb.1;omega,hl⟩
 go_enter Tryz.func25,Tryz.ntmps25
 go_upto_region 1 with fail
 obtain⟨v0,hC,HB0,K0⟩:=bx4 w (LN a) 24 (LN b) 24 ([iU (m0),iU (m1),iU (m2),iU (m3)]) 24 L0s 24
 rw[hC]
 clear hC
 refine Rp K0 HB0 [] [(6,8,L0s,some (7,LN (a+b)))] (cG 0 12 [_,_,_] [(3,11,_),(4,15,_),(5,16,_),(8,9,_)]) [(7,6)] [] [false,false] (oc (g_ld 0 uN iN)<|oc (g_ld 1 uN iN)<|oc (g_cl Z9 (fun uZ=>Wq a b uZ ha hb hl))<|oc g_mv<|oc g_ex<|oc g_ex<|oc (g_al 0 aN)<|oc (g_sn 0 iN)<|oc g_as on) fun u1 b1_6 HB1 _ K1=>?_
 simp only[sQ] at K1⊢
 go_upto_region 2 with fail
 refine Rp K1 HB1 [] [(2,10,L0w,some (3,LW (a+b)))] [(0,17,_),(1,18,_)] [(3,2)] [] [true,true,false] (oc (g_ld 2 uN iN)<|oc (g_cl Zu (fun uZ=>nrWiden (a+b) uZ hi))<|oc (g_al 0 aW)<|oc (g_sn 0 iW) on) fun u2 b2_2 HB2 _ K2=>?_
 simp only[sQ] at K2⊢
 go_upto_region 5 with fail
 refine Rp K2 HB2 [.no,.all 5 ([iU (r0),iU (r1),iU (r2),iU (r3)])] [] (cG 0 21 [_,_,_,_,_] [(6,7,_)]) [] [] [false,true,false] (oc (g_ld 2 uW iW)<|oc (g_ld 0 uN iN)<|oc (g_cl Zd hR.out)<|oc g_ex<|oc g_ex<|oc (g_st 1 iN)<|oc g_as on) fun u3 HB3 _ K3=>?_
 simp only[sQ] at K3⊢
 have c6:=(K3.cv 0).n4
 go_wp2
 refine bodyPost_ret (v:= .tuple #[A4 (r0) (r1) (r2) (r3),iI ec]) (by simp[results,Tryz.results25,go_sem,c6]) rfl ⟨rfl,HB3⟩
theorem xaddG_ge (a b m0 m1 m2 m3 r0 r1 r2 r3 ec:Int) (w:World) (ha:In a) (hb:In b) (hR:Hid (∀u,CC 45 #[WV (a+b),A4 m0 m1 m2 m3] u (.tuple #[A4 r0 r1 r2 r3,iI ec]))) (hl:0x10000000000000000000000000000000000000000000000000000000000000000<=a+b):CC 25 #[NV a,NV b,A4 m0 m1 m2 m3] w (.tuple #[A4 (r0) (r1) (r2) (r3),iI ec]):=by
 have ha2:=ha.2;have hb2:=hb.2
 obtain⟨s,hs⟩: ∃s,a+b -0x10000000000000000000000000000000000000000000000000000000000000000=s:=⟨_,rfl⟩
 have hA:WV (a+b)=A8 (D0 s) (D1 s) (D2 s) (D3 s) 1 0 0 0:=WV_of (a+b) (D0 s) (D1 s) (D2 s) (D3 s) 1 0 0 0 (W_D0 s) (W_D1 s) (W_D2 s) (W_D3 s) ⟨by omega,by omega⟩ W_0 W_0 W_0 (by rw[V_In ⟨by omega,by omega⟩];simp[V];omega)
 rw[hA] at hR
 have nA:Hid (∀u,CC 48 #[NV a,NV b] u (.tuple #[NV s,.bool true])):=fun u=>by rw[<-hs];exact nrAdd_ge a b u ha hb hl
 clear hs hA ha2 hb2
 go_enter Tryz.func25,Tryz.ntmps25
 go_upto_region 1 with fail
 obtain⟨v0,hC,HB0,K0⟩:=bx4 w (LN a) 24 (LN b) 24 ([iU (m0),iU (m1),iU (m2),iU (m3)]) 24 L0s 24
 rw[hC]
 clear hC
 refine Rp K0 HB0 [] [(6,8,L0s,some (7,LN s))] (cG 0 12 [_,_,_] [(3,11,_),(4,15,_),(5,16,_),(8,9,_)]) [(7,6)] [] [false,false] (oc (g_ld 0 uN iN)<|oc (g_ld 1 uN iN)<|oc (g_cl Z9 nA.out)<|oc g_mv<|oc g_ex<|oc g_ex<|oc (g_al 0 aN)<|oc (g_sn 0 iN)<|oc g_as on) fun u1 b1_6 HB1 _ K1=>?_
 simp only[sQ] at K1⊢
 go_upto_region 2 with fail
 refine Rp K1 HB1 [] [(2,10,L0w,some (3,[iU (D0 (s)),iU (D1 (s)),iU (D2 (s)),iU (D3 (s)),iU (0),iU (0),iU (0),iU (0)]))] [(0,17,_),(1,18,_)] [(3,2)] [] [true,true,false] (oc (g_ld 2 uN iN)<|oc (g_cl Zu (fun uZ=>rWiden_any (D0 s) (D1 s) (D2 s) (D3 s) uZ (W_D0 s) (W_D1 s) (W_D2 s) (W_D3 s)))<|oc (g_al 0 aW)<|oc (g_sn 0 iW) on) fun u2 b2_2 HB2 _ K2=>?_
 simp only[sQ] at K2⊢
 go_upto_region 4 with fail
 refine Rp K2 HB2 [.no,.no,.cs [(4,1,(Go.Value.int Go.IntKind.u64 1))]] [] [(0,20,_)] [] [] [] (oc (g_ix (jW 4))<|oc (g_sc 2 0 sU) on) fun u3 HB3 _ K3=>?_
 simp only[fX,nK,nP,Wr.f,aK,pM,List.foldl,List.set_cons_zero,List.set_cons_succ] at K3
 simp only[sQ]
 go_upto_region 5 with fail
 refine Rp K3 HB3 [.no,.all 5 ([iU (r0),iU (r1),iU (r2),iU (r3)])] [] (cG 0 21 [_,_,_,_,_] [(6,7,_)]) [] [] [false,true,false] (oc (g_ld 2 uW iW)<|oc (g_ld 0 uN iN)<|oc (g_cl Zd hR.out)<|oc g_ex<|oc g_ex<|oc (g_st 1 iN)<|oc g_as on) fun u4 HB4 _ K4=>?_
 simp only[sQ] at K4⊢
 have c6:=(K4.cv 0).n4
 go_wp2
 refine bodyPost_ret (v:= .tuple #[A4 (r0) (r1) (r2) (r3),iI ec]) (by simp[results,Tryz.results25,go_sem,c6]) rfl ⟨rfl,HB4⟩
theorem xaddG (a b m0 m1 m2 m3 r0 r1 r2 r3 ec:Int) (w:World) (ha:In a) (hb:In b) (hR:Hid (∀u,CC 45 #[WV (a+b),A4 m0 m1 m2 m3] u (.tuple #[A4 r0 r1 r2 r3,iI ec]))):CC 25 #[NV a,NV b,A4 m0 m1 m2 m3] w (.tuple #[A4 (r0) (r1) (r2) (r3),iI ec]):=by
 by_cases hl:a+b<0x10000000000000000000000000000000000000000000000000000000000000000
 ·exact xaddG_lt a b m0 m1 m2 m3 r0 r1 r2 r3 ec w ha hb hR hl
 ·exact xaddG_ge a b m0 m1 m2 m3 r0 r1 r2 r3 ec w ha hb hR (by omega)
theorem xAdd (a b m:Int) (w:World) (ha:In a) (hb:In b) (hm:In m) (h:m≠0):CC 25 #[NV a,NV b,NV m] w (.tuple #[NV ((a+b)%m),iI 0]):=
 xaddG a b _ _ _ _ _ _ _ _ 0 w ha hb (fun u=>U1 (a+b) m u ⟨by have:=ha.1;have:=hb.1;omega,by have:=ha.2;have:=hb.2;omega⟩ hm h)
def gat (op:Int->Int->Int) (x:Int) (ns:List Int):Nat->Int
 | 0=>x
 | k+1=>op (gat op x ns k) (ns.getD k 0)
theorem gat_In {op:Int->Int->Int} {x:Int} {ns:List Int} (hx:In x) (ho: ∀a b,In a->In b->In (op a b)) (hn: ∀k,k<ns.length->In (ns.getD k 0)): ∀k,k<=ns.length->In (gat op x ns k)
 | 0,_=>hx
 | k+1,h=>ho _ _ (gat_In hx ho hn k (by omega)) (hn k (by omega))
theorem mgather (N:FuncId) (op:Int->Int->Int) (x m:Int) (sl:Option Addr) (gb go cap:Nat) (ns:List Int) (w:World) (hns:ns.length<=50) (hx:In x) (hm:In m) (h:m≠0) (hN: ∀(vs:Array Value) (w:World),(callFunc N vs).run Tryz.prog w= .ok (.enter N vs) w) (hT:Hid (∀a b,In a->In b-> ∀u,Calls Tryz.prog N #[NV a,NV b,NV m] u fun e u'=>e= .returned (.tuple #[NV (op a b),iI 0])/\Bw u u')) (ho: ∀a b,In a->In b->In (op a b)) (hn:Hid (∀k,k<ns.length->In (ns.getD k 0))) (hix:Hid (∀j,j<ns.length-> ∀W,(Instr.indexAt 28 (.slice sl ns.length cap) (iI j)).run Tryz.prog W= .ok (.pointer (some ⟨gb,go+4*j,none⟩)) W)) (hg:ns.length=0\/gb<w.heap.size) (hS:Hid (SN w gb go ns)):
 CC 110 #[.func (.func N) #[] #[],NV x,NV m,.slice sl ns.length cap] w (.tuple #[NV (gat op (x%m) ns ns.length),iI 0]):=by
 have hI:Hid (∀k,k<=ns.length->In (gat op (x%m) ns k)):=gat_In (Zx hm h) ho hn.out
 go_enter Tryz.func110,Tryz.ntmps110
 go_upto_region 1 with fail
 obtain⟨v0,hC,HB0,K0⟩:=bx3 w (LN x) 24 (LN m) 24 L0s 24
 rw[hC]
 clear hC
 refine Rd K0 HB0 [] [(7,10,L0s,some (8,LN (x%m)))] (cG 0 15 [_,_,_,_] [(4,14,_),(5,19,_),(6,20,_),(9,11,_)]) [(8,7)] [] [false] (oc (g_ld 0 uN iN)<|oc (g_cl Zg (fun uZ=>Wf x uZ hx))<|oc (g_ld 1 uN iN)<|oc (g_cl Zi (fun uZ=>Xl x m uZ hx.wide hm h))<|oc g_mv<|oc g_ex<|oc g_ex<|oc (g_al 0 aN)<|oc (g_sn 0 iN)<|oc g_as on) fun u1 b1_7 HB1 _ K1=>?_
 simp only[sQ] at K1⊢
 go_upto_region 2 with fail
 refine Rn K1 HB1 [(0,21,_),(1,22,_)] (oc g_mv<|oc (g_bn (fun uZ=>Xk _ _ _ 0 0 _ uZ rfl)) on) fun u2 HB2 _ K2=>?_
 simp only[sQ] at K2⊢
 go_upto_region 4 with fail
 refine Rn K2 HB2 (cG 0 25 [_,_,_] []) (oc g_mv<|oc (g_ln Tryz.underlying28)<|oc g_mv on) fun u3 HB3 _ K3=>?_
 simp only[sQ] at K3⊢
 go_wp2_with fail
 go_loopw [27] (fun s27 wr=> ∃(k:Nat),k<=ns.length/\s27=iI (k:Int)/\Bw w wr/\CV wr (w.heap.size+1) (LN m)/\CV wr (w.heap.size+1+1) L0s/\CV wr b1_7 (LN (gat op (x%m) ns k))/\b1_7<wr.heap.size/\w.heap.size+1+1<wr.heap.size) (fun s27 _=>ns.length -(intOf s27).toNat)
 case atStart=>exact⟨0,by omega,rfl,HB3,(K3.cv 0),(K3.cv 1),(K3.cv 2),(K3.lt 2),(K3.lt 1)⟩
 case round=>
  obtain⟨k,hk,rfl,HBr,Km,Kr,Kg,lg,lr⟩:=hrel
  have hnK:=K3.n
  simp at hnK
  have hoK2:=K3.lo 2
  by_cases hj:k<ns.length
  ·have hl:decide ((k:Int)<(ns.length:Int))=true:=by simp;omega
   have ik:=hI.out k hk
   have iy:=hn.out k hj
   have hC:=hT.out (gat op (x%m) ns k) (ns.getD k 0) ik iy
   have hC:Hid _:=hC
   have hX:=hix.out k hj
   have hX:Hid _:=hX
   have hR:=hS.out.at k hj
   have hR:Hid _:=hR
   have hlen:(k:Int)<1000:=by omega
   obtain⟨y,ey⟩: ∃y,ns.getD k 0=y:=⟨_,rfl⟩
   obtain⟨z,ez⟩: ∃z,gat op (x%m) ns k=z:=⟨_,rfl⟩
   rw[ey] at iy hR
   rw[ey,ez] at hC
   rw[ez] at ik Kg
   have EY:Hid _:=ey
   have EZ:Hid _:=ez
   clear ey ez
   have K3_1:Bk w.heap.size wr [(false,w.heap.size+1,LN m),(false,w.heap.size+1+1,L0s),(true,b1_7,LN z)]:=⟨.c (by omega) Km<| .c lr Kr<| .o lg (K3.lo 2) Kg<|trivial,by simp;omega⟩
   go_upto_region 5 with fail
   refine Rn K3_1 HBr [(0,28,_)] (oc (g_bn (fun uZ=>Zc _ _ (k:Int) (ns.length:Int) _ uZ hl)) on) fun u4 HB4 sz4 K4=>?_
   simp only[sQ] at K4⊢
   go_upto_region 6 with fail
   refine Rp K4 HB4 [] [(2,13,L0s,some (3,LN y))] [(0,29,_),(1,30,_)] [(3,2)] [] [] (oc (g_ix hX.out)<|oc (g_lf hR.out (hg.resolve_left (by omega)) uN iN)<|oc (g_al 0 aN)<|oc (g_sn 0 iN) on) fun u5 b5_2 HB5 sz5 K5=>?_
   simp only[sQ] at K5⊢
   go_upto_region 7 with fail
   refine Rp K5 HB5 [.no,.no,.all 8 (LN (op z y))] [] (cG 0 32 [_,_,_,_,_] [(5,31,_),(6,37,_),(7,38,_)]) [(8,1)] [] [true,true,true,false] (oc g_mv<|oc (g_ld 2 uN iN)<|oc (g_ld 3 uN iN)<|oc (g_ld 0 uN iN)<|oc (g_cv (first:=[]) hN (fun fZ uZ kZ sZ=>hC.out uZ))<|oc g_mv<|oc g_ex<|oc g_ex<|oc (g_st 2 iN) on) fun u6 HB6 _ K6=>?_
   simp only[sQ] at K6⊢
   go_upto_region 8 with fail
   refine Rp K6 HB6 [] [] [(0,39,_),(1,27,_)] [(1,0)] [(1,27)] [] (oc (g_bn (fun uZ=>Zr _ _ (k:Int) 1 ((k+1:Nat):Int) uZ (by omega) (by omega) (by omega)))<|oc g_mv on) fun u7 HB7 _ K7=>?_
   simp only[sQ] at K7⊢
   go_wp2
   refine⟨⟨k+1,by omega,rfl,HB7,(K7.cv 0),(K7.cv 1),by rw[gat,EY.out,EZ.out];exact(K7.cv 2),(K7.lt 2),(K7.lt 1)⟩,?_⟩
   simp[intOf]<;>omega
  ·have hl:decide ((k:Int)<(ns.length:Int))=false:=by simp;omega
   have hkn:k=ns.length:=by omega
   have K3_1:Bk w.heap.size wr [(false,w.heap.size+1,LN m),(true,w.heap.size+1+1,L0s),(false,b1_7,LN (gat op (x%m) ns k))]:=⟨.c (by omega) Km<| .o lr (K3.lo 1) Kr<| .c lg Kg<|trivial,by simp;omega⟩
   go_upto_region 5 with fail
   refine Rp K3_1 HBr [] [] [(0,28,_)] [] [] [false] (oc (g_bn (fun uZ=>Zc _ _ (k:Int) (ns.length:Int) _ uZ hl)) on) fun u4 HB4 sz4 K4=>?_
   simp only[sQ] at K4⊢
   go_upto_region 9 with fail
   refine Rp K4 HB4 [.all 1 (LN (gat op (x%m) ns k))] [] [(0,40,_),(2,9,_)] [] [] [true,false] (oc (g_ld 1 uN iN)<|oc (g_st 0 iN)<|oc g_as on) fun u5 HB5 sz5 K5=>?_
   simp only[sQ] at K5⊢
   have c8:=(K5.cv 0).n4
   go_wp2
   refine bodyPost_ret (v:= .tuple #[NV (gat op (x%m) ns k),iI 0]) (by simp[results,Tryz.results110,go_sem,c8]) rfl ⟨by rw[hkn],HB5⟩
theorem ent_mod_Mul' (vs:Array Value) (w:World):(callFunc 111 vs).run Tryz.prog w= .ok (.enter 111 vs) w:=by kernel_rfl
theorem mProduct (m:Int) (sl:Option Addr) (gb go cap:Nat) (ns:List Int) (w:World) (hns:ns.length<=50) (hm:In m) (h:m≠0) (hn:Hid (∀k,k<ns.length->In (ns.getD k 0))) (hix:Hid (∀j,j<ns.length-> ∀W,(Instr.indexAt 28 (.slice sl ns.length cap) (iI j)).run Tryz.prog W= .ok (.pointer (some ⟨gb,go+4*j,none⟩)) W)) (hg:ns.length=0\/gb<w.heap.size) (hS:Hid (SN w gb go ns)):
 CC 92 #[NV m,.slice sl ns.length cap] w (.tuple #[NV (gat (fun a b=>(a*b)%m) (1%m) ns ns.length),iI 0]):=by
 go_enter Tryz.func92,Tryz.ntmps92
 go_upto_region 1 with fail
 obtain⟨v0,hC,HB0,K0⟩:=bx2 w (LN m) 24 L0s 24
 rw[hC]
 clear hC
 refine Rd K0 HB0 [.no,.all 6 (LN (gat (fun a b=>(a*b)%m) (1%m) ns ns.length))] [] (cG 0 6 [_,_,_,_,_,_] [(7,5,_)]) [] [] [false] (oc (g_cl Zk (fun uZ=>nOf 1 uZ (by omega) (by omega)))<|oc (g_ld 0 uN iN)<|oc g_mv<|oc (g_cb ent_mod_gather (fun uZ bZ=>mgather 111 (fun a b=>(a*b)%m) 1 m sl gb go cap ns uZ hns In_1 hm h ent_mod_Mul' (fun a b ha hb u=>mMul a b m u ha hb hm h) (fun a b ha hb=>Zx hm h) hn hix (hg.imp id (fun h=>Nat.lt_of_lt_of_le h bZ.size)) (hS.out.below2 bZ hg)))<|oc g_ex<|oc g_ex<|oc (g_st 1 iN)<|oc g_as on) fun u1 HB1 _ K1=>?_
 simp only[sQ] at K1⊢
 have c4:=(K1.cv 0).n4
 go_wp2
 refine bodyPost_ret (v:= .tuple #[NV (gat (fun a b=>(a*b)%m) (1%m) ns ns.length),iI 0]) (by simp[results,Tryz.results92,go_sem,c4]) rfl ⟨rfl,HB1⟩
theorem bdw0' (w:World):(Instr.build 73 [].toArray).run Tryz.prog w= .ok (WV 0) w:=by
 have e:WV 0=A8 0 0 0 0 0 0 0 0:=WV_of 0 0 0 0 0 0 0 0 0 W_0 W_0 W_0 W_0 W_0 W_0 W_0 W_0 (by simp[V])
 rw[e];exact zW w
theorem xSum (m:Int) (sl:Option Addr) (gb go cap:Nat) (ns:List Int) (w:World) (hns:ns.length<=50) (hm:In m) (h:m≠0) (hn:Hid (∀k,k<ns.length->In (ns.getD k 0))) (hix:Hid (∀j,j<ns.length-> ∀W,(Instr.indexAt 28 (.slice sl ns.length cap) (iI j)).run Tryz.prog W= .ok (.pointer (some ⟨gb,go+4*j,none⟩)) W)) (hg:ns.length=0\/gb<w.heap.size) (hS:Hid (SN w gb go ns)):
 CC 26 #[NV m,.slice sl ns.length cap] w (.tuple #[NV (gat (fun a b=>(a+b)%m) (0%m) ns ns.length),iI 0]):=by
 have hI:Hid (∀k,k<=ns.length->In (gat (fun a b=>(a+b)%m) (0%m) ns k)):=gat_In (Zx hm h) (fun a b ha hb=>Zx hm h) hn.out
 go_enter Tryz.func26,Tryz.ntmps26
 go_upto_region 1 with fail
 obtain⟨v0,hC,HB0,K0⟩:=bx2 w (LN m) 24 L0s 24
 rw[hC]
 clear hC
 refine Rp K0 HB0 [] [(6,6,L0s,some (7,LN (0%m)))] (cG 0 10 [_,_,_] [(3,9,_),(4,13,_),(5,14,_),(8,7,_)]) [(7,6)] [] [] (oc (g_bd bdw0')<|oc (g_ld 0 uN iN)<|oc (g_cl Zd (fun uZ=>U1 0 m uZ In_0.wide hm h))<|oc g_mv<|oc g_ex<|oc g_ex<|oc (g_al 0 aN)<|oc (g_sn 0 iN)<|oc g_as on) fun u1 b1_6 HB1 _ K1=>?_
 simp only[sQ] at K1⊢
 go_upto_region 2 with fail
 refine Rn K1 HB1 [(0,8,_)] (oc g_as on) fun u2 HB2 _ K2=>?_
 simp only[sQ] at K2⊢
 go_wp2_with fail
 go_loopw [7,8] (fun s7 s8 wr=> ∃(k:Nat),k<=ns.length/\s7=iI 0/\s8=iI (k:Int)/\Bw w wr/\CV wr (w.heap.size) (LN m)/\CV wr (w.heap.size+1) L0s/\CV wr b1_6 (LN (gat (fun a b=>(a+b)%m) (0%m) ns k))/\b1_6<wr.heap.size/\w.heap.size+1<wr.heap.size) (fun _ s8 _=>ns.length -(intOf s8).toNat)
 case atStart=>exact⟨0,by omega,rfl,rfl,HB2,(K2.cv 0),(K2.cv 1),(K2.cv 2),(K2.lt 2),(K2.lt 1)⟩
 case round=>
  obtain⟨k,hk,rfl,rfl,HBr,Km,Kr,Kg,lg,lr⟩:=hrel
  have hnK:=K2.n
  simp at hnK
  have hoK2:=K2.lo 2
  by_cases hj:k<ns.length
  ·have hl:decide ((k:Int)<(ns.length:Int))=true:=by simp;omega
   have ik:=hI.out k hk
   have iy:=hn.out k hj
   have hX:=hix.out k hj
   have hX:Hid _:=hX
   have hR:=hS.out.at k hj
   have hR:Hid _:=hR
   have hlen:(k:Int)<1000:=by omega
   obtain⟨y,ey⟩: ∃y,ns.getD k 0=y:=⟨_,rfl⟩
   obtain⟨z,ez⟩: ∃z,gat (fun a b=>(a+b)%m) (0%m) ns k=z:=⟨_,rfl⟩
   rw[ey] at iy hR
   rw[ez] at ik Kg
   have EY:Hid _:=ey
   have EZ:Hid _:=ez
   clear ey ez
   have K2_1:Bk w.heap.size wr [(false,w.heap.size,LN m),(false,w.heap.size+1,L0s),(true,b1_6,LN z)]:=⟨.c (by omega) Km<| .c lr Kr<| .o lg (K2.lo 2) Kg<|trivial,by simp;omega⟩
   go_upto_region 3 with fail
   refine Rn K2_1 HBr (cG 0 15 [_,_,_,_,_,_,_,_] []) (oc g_mv<|oc g_mv<|oc (g_ln Tryz.underlying28)<|oc (g_bn (fun uZ=>Zc _ _ (k:Int) (ns.length:Int) _ uZ hl))<|oc g_mv<|oc g_mv<|oc (g_bn (fun uZ=>Yo _ _ _ 0 0 _ uZ rfl))<|oc g_pk on) fun u3 HB3 sz3 K3=>?_
   simp only[sQ] at K3⊢
   go_upto_region 5 with fail
   refine Rd K3 HB3 [.no,.no,.all 10 (LN ((z+y)%m))] [] (cG 0 26 [_,_,_,_,_,_,_] [(7,25,_),(8,33,_),(9,34,_),(11,7,_)]) [(10,0)] [] [] (oc (g_ld 2 uN iN)<|oc g_mv<|oc g_mv<|oc (g_ix hX.out)<|oc (g_lf hR.out (hg.resolve_left (by omega)) uN iN)<|oc (g_ld 0 uN iN)<|oc (g_cl V5 (fun uZ=>xAdd z y m uZ ik iy hm h))<|oc g_mv<|oc g_ex<|oc g_ex<|oc (g_st 2 iN)<|oc g_as on) fun u4 HB4 sz4 K4=>?_
   simp only[sQ] at K4⊢
   go_upto_region 4 with fail
   refine Rp K4 HB4 [] [] [(0,23,_),(1,24,_),(2,8,_)] [(2,0)] [(2,8)] [] (oc g_mv<|oc (g_bn (fun uZ=>Zr _ _ (k:Int) 1 ((k+1:Nat):Int) uZ (by omega) (by omega) (by omega)))<|oc g_as on) fun u5 HB5 _ K5=>?_
   simp only[sQ] at K5⊢
   go_wp2
   refine⟨⟨k+1,by omega,rfl,rfl,HB5,(K5.cv 0),(K5.cv 1),by rw[gat,EY.out,EZ.out];exact(K5.cv 2),(K5.lt 2),(K5.lt 1)⟩,?_⟩
   simp[intOf]<;>omega
  ·have hl:decide ((k:Int)<(ns.length:Int))=false:=by simp;omega
   have hkn:k=ns.length:=by omega
   have K2_1:Bk w.heap.size wr [(false,w.heap.size,LN m),(true,w.heap.size+1,L0s),(false,b1_6,LN (gat (fun a b=>(a+b)%m) (0%m) ns k))]:=⟨.c (by omega) Km<| .o lr (K2.lo 1) Kr<| .c lg Kg<|trivial,by simp;omega⟩
   go_upto_region 3 with fail
   refine Rp K2_1 HBr [] [] (cG 0 15 [_,_,_,_,_,undef,undef,_] []) [] [] [false] (oc g_mv<|oc g_mv<|oc (g_ln Tryz.underlying28)<|oc (g_bn (fun uZ=>Zc _ _ (k:Int) (ns.length:Int) _ uZ hl))<|oc g_mv<|oc g_sk<|oc g_sk<|oc g_pk on) fun u3 HB3 sz3 K3=>?_
   simp only[sQ] at K3⊢
   go_upto_region 6 with fail
   refine Rp K3 HB3 [.all 2 (LN (gat (fun a b=>(a+b)%m) (0%m) ns k))] [] [(0,35,_),(1,36,_),(3,5,_)] [] [] [true,false] (oc (g_ld 1 uN iN)<|oc g_mv<|oc (g_st 0 iN)<|oc g_as on) fun u4 HB4 sz4 K4=>?_
   simp only[sQ] at K4⊢
   have c4:=(K4.cv 0).n4
   go_wp2
   refine bodyPost_ret (v:= .tuple #[NV (gat (fun a b=>(a+b)%m) (0%m) ns k),iI 0]) (by simp[results,Tryz.results26,go_sem,c4]) rfl ⟨by rw[hkn],HB4⟩
theorem Zn:EnT 41:=fun _ _=>by kernel_rfl
theorem Zh:EnT 44:=fun _ _=>by kernel_rfl
theorem Yy:EnT 30:=fun _ _=>by kernel_rfl
theorem Wv:EnT 31:=fun _ _=>by kernel_rfl
theorem In_7:In 7:=⟨by omega,by omega⟩
def chE (p q:Int):Int:=if gOk p q then 0 else 90
theorem xchk_o (p q g h:Int) (w:World) (hp:In p) (hq:In q) (i2:In (q+q -0x10000000000000000000000000000000000000000000000000000000000000000)) (h2:0x10000000000000000000000000000000000000000000000000000000000000000<=q+q):
 CC 41 #[GX p q g h] w (iI 90):=by
 go_enter Tryz.func41,Tryz.ntmps41
 go_upto_region 1 with fail
 obtain⟨v0,hC,HB0,K0⟩:=bx1 w (GE (p) (q) (g) (h)) 26
 rw[hC]
 clear hC
 refine Rp K0 HB0 [] [(8,3,L0s,some (9,LN (q+q -0x10000000000000000000000000000000000000000000000000000000000000000)))] (cG 0 8 [_,_,_,_,_] [(5,7,_),(6,13,_),(7,14,_),(10,4,_)]) [(9,8)] [] [false] (oc (g_fd (fdG1 _))<|oc (g_lo 0 4 uN iN)<|oc (g_fd (fdG1 _))<|oc (g_lo 0 4 uN iN)<|oc (g_cl Z9 (fun uZ=>nrAdd_ge q q uZ hq hq h2))<|oc g_mv<|oc g_ex<|oc g_ex<|oc (g_al 0 aN)<|oc (g_sn 0 iN)<|oc g_as on) fun u1 b1_8 HB1 _ K1=>?_
 simp only[sQ] at K1⊢
 go_upto_region 2 with fail
 refine Rp K1 HB1 [] [(6,5,L0s,some (7,LN (q+q -0x10000000000000000000000000000000000000000000000000000000000000000+1)))] (cG 0 16 [_,_,_] [(3,15,_),(4,19,_),(5,20,_),(8,6,_)]) [(7,6)] [] [false,false] (oc (g_ld 0 uN iN)<|oc (g_bd (fun uZ=>bdX 1 (by omega) (by omega) uZ))<|oc (g_cl Z9 (fun uZ=>nrAdd (q+q -0x10000000000000000000000000000000000000000000000000000000000000000) 1 uZ i2 In_1))<|oc g_mv<|oc g_ex<|oc g_ex<|oc (g_al 0 aN)<|oc (g_sn 0 iN)<|oc g_as on) fun u2 b2_6 HB2 _ K2=>?_
 simp only[sQ] at K2⊢
 go_upto_region 3 with fail
 refine Rn K2 HB2 (cG 0 21 [_,_,undef,_,_,undef,undef,undef,undef,_,_,undef,undef,undef,undef,undef,_,_,undef,undef,undef,undef,undef,_] []) (oc g_mv<|oc g_mv<|oc g_sk<|oc g_pk<|oc g_mv<|oc g_sk<|oc g_sk<|oc g_sk<|oc g_sk<|oc g_pk<|oc g_mv<|oc g_sk<|oc g_sk<|oc g_sk<|oc g_sk<|oc g_sk<|oc g_pk<|oc g_mv<|oc g_sk<|oc g_sk<|oc g_sk<|oc g_sk<|oc g_sk<|oc g_pk on) fun u3 HB3 _ K3=>?_
 simp only[sQ] at K3⊢
 go_upto_region 4 with fail
 refine Rn K3 HB3 [(0,2,_)] (oc g_as on) fun u4 HB4 _ K4=>?_
 simp only[sQ] at K4⊢
 go_wp2
 refine bodyPost_ret (v:=iI 90) (by simp[results,Tryz.results41,go_sem,]) rfl ⟨rfl,HB4⟩
theorem xchk_n (p q g h:Int) (w:World) (hp:In p) (hq:In q) (i2:In (q+q)) (i3:In (q+q+1)) (d0:0<=D0 p) (d1:D0 p<18446744073709551616) (h2:q+q<0x10000000000000000000000000000000000000000000000000000000000000000) (h3:q+q+1<0x10000000000000000000000000000000000000000000000000000000000000000) (h4:decide (q+q+1=p)=!true):
 CC 41 #[GX p q g h] w (iI 90):=by
 go_enter Tryz.func41,Tryz.ntmps41
 go_upto_region 1 with fail
 obtain⟨v0,hC,HB0,K0⟩:=bx1 w (GE (p) (q) (g) (h)) 26
 rw[hC]
 clear hC
 refine Rp K0 HB0 [] [(8,3,L0s,some (9,LN (q+q)))] (cG 0 8 [_,_,_,_,_] [(5,7,_),(6,13,_),(7,14,_),(10,4,_)]) [(9,8)] [] [] (oc (g_fd (fdG1 _))<|oc (g_lo 0 4 uN iN)<|oc (g_fd (fdG1 _))<|oc (g_lo 0 4 uN iN)<|oc (g_cl Z9 (fun uZ=>Wq q q uZ hq hq h2))<|oc g_mv<|oc g_ex<|oc g_ex<|oc (g_al 0 aN)<|oc (g_sn 0 iN)<|oc g_as on) fun u1 b1_8 HB1 _ K1=>?_
 simp only[sQ] at K1⊢
 go_upto_region 2 with fail
 refine Rp K1 HB1 [] [(6,5,L0s,some (7,LN (q+q+1)))] (cG 0 16 [_,_,_] [(3,15,_),(4,19,_),(5,20,_),(8,6,_)]) [(7,6)] [] [true,false] (oc (g_ld 1 uN iN)<|oc (g_bd (fun uZ=>bdX 1 (by omega) (by omega) uZ))<|oc (g_cl Z9 (fun uZ=>Wq (q+q) 1 uZ i2 In_1 h3))<|oc g_mv<|oc g_ex<|oc g_ex<|oc (g_al 0 aN)<|oc (g_sn 0 iN)<|oc g_as on) fun u2 b2_6 HB2 _ K2=>?_
 simp only[sQ] at K2⊢
 go_upto_region 3 with fail
 refine Rp K2 HB2 [] [] (cG 0 21 [_,_,_,_,_,_,_,_,_,_,_,undef,undef,undef,undef,undef,_,_,undef,undef,undef,undef,undef,_] []) [] [] [false,false] (oc g_mv<|oc g_mv<|oc g_mv<|oc g_pk<|oc g_mv<|oc (g_ld 1 uN iN)<|oc (g_fd (fdG0 _))<|oc (g_lo 0 0 uN iN)<|oc (g_bn (neq_n _ _ i3 hp _ h4))<|oc g_pk<|oc g_mv<|oc g_sk<|oc g_sk<|oc g_sk<|oc g_sk<|oc g_sk<|oc g_pk<|oc g_mv<|oc g_sk<|oc g_sk<|oc g_sk<|oc g_sk<|oc g_sk<|oc g_pk on) fun u3 HB3 _ K3=>?_
 simp only[sQ] at K3⊢
 go_upto_region 4 with fail
 refine Rn K3 HB3 [(0,2,_)] (oc g_as on) fun u4 HB4 _ K4=>?_
 simp only[sQ] at K4⊢
 go_wp2
 refine bodyPost_ret (v:=iI 90) (by simp[results,Tryz.results41,go_sem,]) rfl ⟨rfl,HB4⟩
theorem xchk_7 (p q g h:Int) (w:World) (hp:In p) (hq:In q) (i2:In (q+q)) (i3:In (q+q+1)) (d0:0<=D0 p) (d1:D0 p<18446744073709551616) (h2:q+q<0x10000000000000000000000000000000000000000000000000000000000000000) (h3:q+q+1<0x10000000000000000000000000000000000000000000000000000000000000000) (h4:decide (q+q+1=p)=!false) (h5:decide (cmpI p 7<0)=true):
 CC 41 #[GX p q g h] w (iI 90):=by
 go_enter Tryz.func41,Tryz.ntmps41
 go_upto_region 1 with fail
 obtain⟨v0,hC,HB0,K0⟩:=bx1 w (GE (p) (q) (g) (h)) 26
 rw[hC]
 clear hC
 refine Rp K0 HB0 [] [(8,3,L0s,some (9,LN (q+q)))] (cG 0 8 [_,_,_,_,_] [(5,7,_),(6,13,_),(7,14,_),(10,4,_)]) [(9,8)] [] [] (oc (g_fd (fdG1 _))<|oc (g_lo 0 4 uN iN)<|oc (g_fd (fdG1 _))<|oc (g_lo 0 4 uN iN)<|oc (g_cl Z9 (fun uZ=>Wq q q uZ hq hq h2))<|oc g_mv<|oc g_ex<|oc g_ex<|oc (g_al 0 aN)<|oc (g_sn 0 iN)<|oc g_as on) fun u1 b1_8 HB1 _ K1=>?_
 simp only[sQ] at K1⊢
 go_upto_region 2 with fail
 refine Rp K1 HB1 [] [(6,5,L0s,some (7,LN (q+q+1)))] (cG 0 16 [_,_,_] [(3,15,_),(4,19,_),(5,20,_),(8,6,_)]) [(7,6)] [] [true,false] (oc (g_ld 1 uN iN)<|oc (g_bd (fun uZ=>bdX 1 (by omega) (by omega) uZ))<|oc (g_cl Z9 (fun uZ=>Wq (q+q) 1 uZ i2 In_1 h3))<|oc g_mv<|oc g_ex<|oc g_ex<|oc (g_al 0 aN)<|oc (g_sn 0 iN)<|oc g_as on) fun u2 b2_6 HB2 _ K2=>?_
 simp only[sQ] at K2⊢
 go_upto_region 3 with fail
 refine Rp K2 HB2 [] [] (cG 0 21 [_,_,_,_,_,_,_,_,_,_,_,_,_,_,_,_,_,_,undef,undef,undef,undef,undef,_] []) [] [] [false,false] (oc g_mv<|oc g_mv<|oc g_mv<|oc g_pk<|oc g_mv<|oc (g_ld 1 uN iN)<|oc (g_fd (fdG0 _))<|oc (g_lo 0 0 uN iN)<|oc (g_bn (neq_n _ _ i3 hp _ h4))<|oc g_pk<|oc g_mv<|oc (g_fd (fdG0 _))<|oc (g_lo 0 0 uN iN)<|oc (g_bd (fun uZ=>bdX 7 (by omega) (by omega) uZ))<|oc (g_cl Ze (fun uZ=>Xi p 7 uZ hp In_7))<|oc (g_bn (fun uZ=>Zc _ _ (cmpI p 7) 0 _ uZ h5))<|oc g_pk<|oc g_mv<|oc g_sk<|oc g_sk<|oc g_sk<|oc g_sk<|oc g_sk<|oc g_pk on) fun u3 HB3 _ K3=>?_
 simp only[sQ] at K3⊢
 go_upto_region 4 with fail
 refine Rn K3 HB3 [(0,2,_)] (oc g_as on) fun u4 HB4 _ K4=>?_
 simp only[sQ] at K4⊢
 go_wp2
 refine bodyPost_ret (v:=iI 90) (by simp[results,Tryz.results41,go_sem,]) rfl ⟨rfl,HB4⟩
theorem xchk_k (p q g h:Int) (w:World) (hp:In p) (hq:In q) (i2:In (q+q)) (i3:In (q+q+1)) (d0:0<=D0 p) (d1:D0 p<18446744073709551616) (h2:q+q<0x10000000000000000000000000000000000000000000000000000000000000000) (h3:q+q+1<0x10000000000000000000000000000000000000000000000000000000000000000) (h4:decide (q+q+1=p)=!false) (h5:decide (cmpI p 7<0)=false) (h6:(D0 p%2==0)=false):
 CC 41 #[GX p q g h] w (iI 0):=by
 go_enter Tryz.func41,Tryz.ntmps41
 go_upto_region 1 with fail
 obtain⟨v0,hC,HB0,K0⟩:=bx1 w (GE (p) (q) (g) (h)) 26
 rw[hC]
 clear hC
 refine Rp K0 HB0 [] [(8,3,L0s,some (9,LN (q+q)))] (cG 0 8 [_,_,_,_,_] [(5,7,_),(6,13,_),(7,14,_),(10,4,_)]) [(9,8)] [] [] (oc (g_fd (fdG1 _))<|oc (g_lo 0 4 uN iN)<|oc (g_fd (fdG1 _))<|oc (g_lo 0 4 uN iN)<|oc (g_cl Z9 (fun uZ=>Wq q q uZ hq hq h2))<|oc g_mv<|oc g_ex<|oc g_ex<|oc (g_al 0 aN)<|oc (g_sn 0 iN)<|oc g_as on) fun u1 b1_8 HB1 _ K1=>?_
 simp only[sQ] at K1⊢
 go_upto_region 2 with fail
 refine Rp K1 HB1 [] [(6,5,L0s,some (7,LN (q+q+1)))] (cG 0 16 [_,_,_] [(3,15,_),(4,19,_),(5,20,_),(8,6,_)]) [(7,6)] [] [true,false] (oc (g_ld 1 uN iN)<|oc (g_bd (fun uZ=>bdX 1 (by omega) (by omega) uZ))<|oc (g_cl Z9 (fun uZ=>Wq (q+q) 1 uZ i2 In_1 h3))<|oc g_mv<|oc g_ex<|oc g_ex<|oc (g_al 0 aN)<|oc (g_sn 0 iN)<|oc g_as on) fun u2 b2_6 HB2 _ K2=>?_
 simp only[sQ] at K2⊢
 go_upto_region 3 with fail
 refine Rp K2 HB2 [] [] (cG 0 21 [_,_,_,_,_,_,_,_,_,_,_,_,_,_,_,_,_,_,_,_,_,_,_,_] []) [] [] [false,false] (oc g_mv<|oc g_mv<|oc g_mv<|oc g_pk<|oc g_mv<|oc (g_ld 1 uN iN)<|oc (g_fd (fdG0 _))<|oc (g_lo 0 0 uN iN)<|oc (g_bn (neq_n _ _ i3 hp _ h4))<|oc g_pk<|oc g_mv<|oc (g_fd (fdG0 _))<|oc (g_lo 0 0 uN iN)<|oc (g_bd (fun uZ=>bdX 7 (by omega) (by omega) uZ))<|oc (g_cl Ze (fun uZ=>Xi p 7 uZ hp In_7))<|oc (g_bn (fun uZ=>Zc _ _ (cmpI p 7) 0 _ uZ h5))<|oc g_pk<|oc g_mv<|oc (g_fd (fdG0 _))<|oc (g_ix (jN 0))<|oc (g_lc 0 0 lU)<|oc (g_bn (fun uZ=>rem_u _ _ (D0 p) 2 (D0 p%2) uZ d0 d1 (by omega) rfl))<|oc (g_bn (fun uZ=>eql_u _ _ _ (D0 p%2) 0 _ uZ h6))<|oc g_pk on) fun u3 HB3 _ K3=>?_
 simp only[sQ] at K3⊢
 go_upto_region 5 with fail
 refine Rn K3 HB3 [(0,2,_)] (oc g_as on) fun u4 HB4 _ K4=>?_
 simp only[sQ] at K4⊢
 go_wp2
 refine bodyPost_ret (v:=iI 0) (by simp[results,Tryz.results41,go_sem,]) rfl ⟨rfl,HB4⟩
theorem xCheckG (p q g h:Int) (w:World) (hp:In p) (hq:In q):CC 41 #[GX p q g h] w (iI (chE p q)):=by
 have hq0:=hq.1
 have hq1:=hq.2
 have hp1:=hp.2
 have e90: ¬(p=2*q+1/\7<=p)->chE p q=90:=fun h=>if_neg h
 have e0:(p=2*q+1/\7<=p)->chE p q=0:=fun h=>if_pos h
 by_cases h2:0x10000000000000000000000000000000000000000000000000000000000000000<=q+q
 ·rw[e90 (by omega)]
  exact xchk_o p q g h w hp hq ⟨by omega,by omega⟩ h2
 have hd:0<=D0 p/\D0 p<18446744073709551616:=by unfold D0;omega
 have i2:In (q+q):=⟨by omega,by omega⟩
 have i3:In (q+q+1):=⟨by omega,by omega⟩
 by_cases h4:q+q+1=p
 ·have h4':decide (q+q+1=p)=!false:=by simp[h4]
  by_cases h7:p<7
  ·rw[e90 (by omega)]
   exact xchk_7 p q g h w hp hq i2 i3 hd.1 hd.2 (by omega) (by omega) h4' (by rw[cmp_lt0];simp only[h7,decide_true])
  ·rw[e0 (by omega)]
   exact xchk_k p q g h w hp hq i2 i3 hd.1 hd.2 (by omega) (by omega) h4' (by rw[cmp_lt0];simp only[h7,decide_false]) (by rw[D0_odd];simp;omega)
 ·rw[e90 (by omega)]
  exact xchk_n p q g h w hp hq i2 i3 hd.1 hd.2 (by omega) (by omega) (by simp[h4])
theorem xis_c (p q g h x:Int) (w:World) (hp:In p) (hq:In q) (hx:In x) (hC:Hid (∀u,CC 41 #[GX p q g h] u (iI 90))):
 CC 44 #[GX p q g h,NV x] w (.bool false):=by
 go_enter Tryz.func44,Tryz.ntmps44
 go_upto_region 1 with fail
 obtain⟨v0,hC,HB0,K0⟩:=bx2 w (GE (p) (q) (g) (h)) 26 (LN x) 24
 rw[hC]
 clear hC
 refine Rp K0 HB0 [] [] (cG 0 7 [_,_,_,_,undef,undef,undef,_,_,undef,undef,undef,undef,undef,_] []) [] [] [false,false] (oc (g_ld 0 Tryz.underlying26 Z0)<|oc (g_cl Zn hC.out)<|oc (g_bn (fun uZ=>Xk _ _ _ 90 0 _ uZ rfl))<|oc g_mv<|oc g_sk<|oc g_sk<|oc g_sk<|oc g_pk<|oc g_mv<|oc g_sk<|oc g_sk<|oc g_sk<|oc g_sk<|oc g_sk<|oc g_pk on) fun u1 HB1 _ K1=>?_
 simp only[sQ] at K1⊢
 go_upto_region 2 with fail
 refine Rn K1 HB1 [(0,4,_)] (oc g_as on) fun u2 HB2 _ K2=>?_
 simp only[sQ] at K2⊢
 go_wp2
 refine bodyPost_ret (v:= .bool false) (by simp[results,Tryz.results44,go_sem,]) rfl ⟨rfl,HB2⟩
theorem xis_z (p q g h x:Int) (w:World) (hp:In p) (hq:In q) (hx:In x) (hC:Hid (∀u,CC 41 #[GX p q g h] u (iI 0)))(h1:decide (x=0)=true):
 CC 44 #[GX p q g h,NV x] w (.bool false):=by
 go_enter Tryz.func44,Tryz.ntmps44
 go_upto_region 1 with fail
 obtain⟨v0,hC,HB0,K0⟩:=bx2 w (GE (p) (q) (g) (h)) 26 (LN x) 24
 rw[hC]
 clear hC
 refine Rp K0 HB0 [] [] (cG 0 7 [_,_,_,_,_,_,_,_,_,undef,undef,undef,undef,undef,_] []) [] [] [false,false] (oc (g_ld 0 Tryz.underlying26 Z0)<|oc (g_cl Zn hC.out)<|oc (g_bn (fun uZ=>Xk _ _ _ 0 0 _ uZ rfl))<|oc g_mv<|oc (g_ld 1 uN iN)<|oc (g_bd zN)<|oc (g_bn (eql_0 _ _ hx _ h1))<|oc g_pk<|oc g_mv<|oc g_sk<|oc g_sk<|oc g_sk<|oc g_sk<|oc g_sk<|oc g_pk on) fun u1 HB1 _ K1=>?_
 simp only[sQ] at K1⊢
 go_upto_region 2 with fail
 refine Rn K1 HB1 [(0,4,_)] (oc g_as on) fun u2 HB2 _ K2=>?_
 simp only[sQ] at K2⊢
 go_wp2
 refine bodyPost_ret (v:= .bool false) (by simp[results,Tryz.results44,go_sem,]) rfl ⟨rfl,HB2⟩
theorem xis_h (p q g h x:Int) (w:World) (hp:In p) (hq:In q) (hx:In x) (hC:Hid (∀u,CC 41 #[GX p q g h] u (iI 0)))(h1:decide (x=0)=false) (h2:decide (0<=cmpI x p)=true):
 CC 44 #[GX p q g h,NV x] w (.bool false):=by
 go_enter Tryz.func44,Tryz.ntmps44
 go_upto_region 1 with fail
 obtain⟨v0,hC,HB0,K0⟩:=bx2 w (GE (p) (q) (g) (h)) 26 (LN x) 24
 rw[hC]
 clear hC
 refine Rp K0 HB0 [] [] (cG 0 7 [_,_,_,_,_,_,_,_,_,_,_,_,_,_,_] []) [] [] [false,false] (oc (g_ld 0 Tryz.underlying26 Z0)<|oc (g_cl Zn hC.out)<|oc (g_bn (fun uZ=>Xk _ _ _ 0 0 _ uZ rfl))<|oc g_mv<|oc (g_ld 1 uN iN)<|oc (g_bd zN)<|oc (g_bn (eql_0 _ _ hx _ h1))<|oc g_pk<|oc g_mv<|oc (g_ld 1 uN iN)<|oc (g_fd (fdG0 _))<|oc (g_lo 0 0 uN iN)<|oc (g_cl Ze (fun uZ=>Xi x p uZ hx hp))<|oc (g_bn (fun uZ=>Tv _ _ (cmpI x p) 0 _ uZ h2))<|oc g_pk on) fun u1 HB1 _ K1=>?_
 simp only[sQ] at K1⊢
 go_upto_region 2 with fail
 refine Rn K1 HB1 [(0,4,_)] (oc g_as on) fun u2 HB2 _ K2=>?_
 simp only[sQ] at K2⊢
 go_wp2
 refine bodyPost_ret (v:= .bool false) (by simp[results,Tryz.results44,go_sem,]) rfl ⟨rfl,HB2⟩
theorem xis_g (p q g h x:Int) (w:World) (hp:In p) (hq:In q) (hx:In x) (hC:Hid (∀u,CC 41 #[GX p q g h] u (iI 0)))(b:Bool) (h1:decide (x=0)=false) (h2:decide (0<=cmpI x p)=false) (hp0:p≠0) (h3:decide (x^q.toNat%p=1)=b):
 CC 44 #[GX p q g h,NV x] w (.bool b):=by
 go_enter Tryz.func44,Tryz.ntmps44
 go_upto_region 1 with fail
 obtain⟨v0,hC,HB0,K0⟩:=bx2 w (GE (p) (q) (g) (h)) 26 (LN x) 24
 rw[hC]
 clear hC
 refine Rn K0 HB0 (cG 0 7 [_,_,_,_,_,_,_,_,_,_,_,_,_,_,_] []) (oc (g_ld 0 Tryz.underlying26 Z0)<|oc (g_cl Zn hC.out)<|oc (g_bn (fun uZ=>Xk _ _ _ 0 0 _ uZ rfl))<|oc g_mv<|oc (g_ld 1 uN iN)<|oc (g_bd zN)<|oc (g_bn (eql_0 _ _ hx _ h1))<|oc g_pk<|oc g_mv<|oc (g_ld 1 uN iN)<|oc (g_fd (fdG0 _))<|oc (g_lo 0 0 uN iN)<|oc (g_cl Ze (fun uZ=>Xi x p uZ hx hp))<|oc (g_bn (fun uZ=>Tv _ _ (cmpI x p) 0 _ uZ h2))<|oc g_pk on) fun u1 HB1 _ K1=>?_
 simp only[sQ] at K1⊢
 go_upto_region 3 with fail
 refine Rp K1 HB1 [] [(9,5,L0s,some (10,LN (x^q.toNat%p)))] (cG 0 23 [_,_,_,_,_,_] [(6,22,_),(7,29,_),(8,30,_),(11,6,_)]) [(10,9)] [] [false,false] (oc (g_ld 1 uN iN)<|oc (g_fd (fdG1 _))<|oc (g_lo 0 4 uN iN)<|oc (g_fd (fdG0 _))<|oc (g_lo 0 0 uN iN)<|oc (g_cl Ye (fun uZ=>xExp x q p uZ hx hq hp hp0))<|oc g_mv<|oc g_ex<|oc g_ex<|oc (g_al 0 aN)<|oc (g_sn 0 iN)<|oc g_as on) fun u2 b2_9 HB2 _ K2=>?_
 simp only[sQ] at K2⊢
 go_upto_region 4 with fail
 refine Rp K2 HB2 [] [] (cG 0 31 [_,_,_] [(3,4,_)]) [] [] [false] (oc (g_ld 0 uN iN)<|oc (g_bd (fun uZ=>bdX 1 (by omega) (by omega) uZ))<|oc (g_bn (eql_n _ _ (Zx hp hp0) In_1 _ h3))<|oc g_as on) fun u3 HB3 _ K3=>?_
 simp only[sQ] at K3⊢
 go_wp2
 refine bodyPost_ret (v:= .bool b) (by simp[results,Tryz.results44,go_sem,]) rfl ⟨rfl,HB3⟩
def isB (p q x:Int):Bool:=decide (gOk p q/\Mb p q x)
theorem xIs (p q g h x:Int) (w:World) (hp:In p) (hq:In q) (hx:In x):CC 44 #[GX p q g h,NV x] w (.bool (isB p q x)):=by
 have hC:Hid (∀u,CC 41 #[GX p q g h] u (iI (chE p q))):=fun u=>xCheckG p q g h u hp hq
 have hx0:=hx.1
 by_cases hg:gOk p q
 ·rw[show chE p q=0 from if_pos hg] at hC
  by_cases h1:x=0
  ·rw[show isB p q x=false from decide_eq_false (fun h=>by have:=h.2.1;omega)]
   exact xis_z p q g h x w hp hq hx hC (by simp[h1])
  by_cases h2:p<=x
  ·rw[show isB p q x=false from decide_eq_false (fun h=>by have:=h.2.2.1;omega)]
   exact xis_h p q g h x w hp hq hx hC (by simp[h1]) (by rw[cmp_ge];simp only[h2,decide_true])
  ·have e:isB p q x=decide (x^q.toNat%p=1):=by
    unfold isB Mb
    rw[Bool.eq_iff_iff,decide_eq_true_iff,decide_eq_true_iff]
    exact⟨fun h=>h.2.2.2,fun h=>⟨hg,by omega,by omega,h⟩⟩
   rw[e]
   exact xis_g p q g h x w hp hq hx hC _ (by simp[h1]) (by rw[cmp_ge];simp only[h2,decide_false]) (by have:=hg.2;omega) rfl
 ·rw[show chE p q=90 from if_neg hg] at hC
  rw[show isB p q x=false from decide_eq_false (fun h=>hg h.1)]
  exact xis_c p q g h x w hp hq hx hC
theorem xPower (p q g h x e:Int) (w:World) (hp:In p) (hq:In q) (hx:In x) (he:In e) (hp0:p≠0) (hq0:q≠0):
 CC 30 #[GX p q g h,NV x,NV e] w (NV (x^(e%q).toNat%p)):=by
 go_enter Tryz.func30,Tryz.ntmps30
 go_upto_region 1 with fail
 obtain⟨v0,hC,HB0,K0⟩:=bx4 w (GE (p) (q) (g) (h)) 26 (LN x) 24 (LN e) 24 L0s 24
 rw[hC]
 clear hC
 refine Rd K0 HB0 [] [(8,7,L0s,some (9,LN (e%q)))] (cG 0 12 [_,_,_,_,_] [(5,11,_),(6,17,_),(7,18,_),(10,8,_)]) [(9,8)] [] [true,true,false] (oc (g_ld 2 uN iN)<|oc (g_cl Zu (fun uZ=>nrWiden e uZ he))<|oc (g_fd (fdG1 _))<|oc (g_lo 0 4 uN iN)<|oc (g_cl Zd (fun uZ=>U1 e q uZ he.wide hq hq0))<|oc g_mv<|oc g_ex<|oc g_ex<|oc (g_al 0 aN)<|oc (g_sn 0 iN)<|oc g_as on) fun u1 b1_8 HB1 _ K1=>?_
 simp only[sQ] at K1⊢
 go_upto_region 2 with fail
 refine Rp K1 HB1 [] [(8,9,L0s,some (9,LN (x^(e%q).toNat%p)))] (cG 0 20 [_,_,_,_,_] [(5,19,_),(6,25,_),(7,26,_),(10,10,_)]) [(9,8)] [] [false,false,true,false] (oc (g_ld 1 uN iN)<|oc (g_ld 3 uN iN)<|oc (g_fd (fdG0 _))<|oc (g_lo 0 0 uN iN)<|oc (g_cl Ye (fun uZ=>xExp x (e%q) p uZ hx (Zx hq hq0) hp hp0))<|oc g_mv<|oc g_ex<|oc g_ex<|oc (g_al 0 aN)<|oc (g_sn 0 iN)<|oc g_as on) fun u2 b2_8 HB2 _ K2=>?_
 simp only[sQ] at K2⊢
 go_upto_region 3 with fail
 refine Rp K2 HB2 [.all 1 (LN (x^(e%q).toNat%p))] [] [(0,27,_)] [] [] [true,false] (oc (g_ld 1 uN iN)<|oc (g_st 0 iN) on) fun u3 HB3 _ K3=>?_
 simp only[sQ] at K3⊢
 have c6:=(K3.cv 0).n4
 go_wp2
 refine bodyPost_ret (v:=NV (x^(e%q).toNat%p)) (by simp[results,Tryz.results30,go_sem,c6]) rfl ⟨rfl,HB3⟩
theorem xPair (p q g h s t:Int) (w:World) (hp:In p) (hq:In q) (hg:In g) (hh:In h) (hs:In s) (ht:In t) (hp0:p≠0) (hq0:q≠0):
 CC 31 #[GX p q g h,NV s,NV t] w (NV (g^(s%q).toNat%p*(h^(t%q).toNat%p)%p)):=by
 go_enter Tryz.func31,Tryz.ntmps31
 go_upto_region 1 with fail
 obtain⟨v0,hC,HB0,K0⟩:=bx4 w (GE (p) (q) (g) (h)) 26 (LN s) 24 (LN t) 24 L0s 24
 rw[hC]
 clear hC
 refine Rd K0 HB0 [] [(16,7,L0s,some (17,LN (g^(s%q).toNat%p*(h^(t%q).toNat%p)%p)))] (cG 0 10 [_,_,_,_,_,_,_,_,_,_,_,_,_] [(13,9,_),(14,23,_),(15,24,_),(18,8,_)]) [(17,16)] [] [false,false,false] (oc (g_ld 0 Tryz.underlying26 Z0)<|oc (g_fd (fdG2 _))<|oc (g_lo 0 8 uN iN)<|oc (g_ld 1 uN iN)<|oc (g_cl Yy (fun uZ=>xPower p q g h g s uZ hp hq hg hs hp0 hq0))<|oc (g_ld 0 Tryz.underlying26 Z0)<|oc (g_fd (fdG3 _))<|oc (g_lo 0 12 uN iN)<|oc (g_ld 2 uN iN)<|oc (g_cl Yy (fun uZ=>xPower p q g h h t uZ hp hq hh ht hp0 hq0))<|oc (g_fd (fdG0 _))<|oc (g_lo 0 0 uN iN)<|oc (g_cl Zq (fun uZ=>xMul (g^(s%q).toNat%p) (h^(t%q).toNat%p) p uZ (Zx hp hp0) (Zx hp hp0) hp hp0))<|oc g_mv<|oc g_ex<|oc g_ex<|oc (g_al 0 aN)<|oc (g_sn 0 iN)<|oc g_as on) fun u1 b1_16 HB1 _ K1=>?_
 simp only[sQ] at K1⊢
 go_upto_region 2 with fail
 refine Rp K1 HB1 [.all 1 (LN (g^(s%q).toNat%p*(h^(t%q).toNat%p)%p))] [] [(0,25,_)] [] [] [true,false] (oc (g_ld 1 uN iN)<|oc (g_st 0 iN) on) fun u2 HB2 _ K2=>?_
 simp only[sQ] at K2⊢
 have c6:=(K2.cv 0).n4
 go_wp2
 refine bodyPost_ret (v:=NV (g^(s%q).toNat%p*(h^(t%q).toNat%p)%p)) (by simp[results,Tryz.results31,go_sem,c6]) rfl ⟨rfl,HB2⟩
end
end Go.Proofs.YtofcppgfaelloaaGreatDoor
