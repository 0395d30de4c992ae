import Derived.Test.YtdhlekdohebbbaaGreatDoorME1
import Derived.Lib.ConvBytes
import Derived.Lib.AppendZerosOnto
namespace Go.Proofs.YtdhlekdohebbbaaGreatDoor
set_option linter.unusedVariables false
set_option linter.unusedSimpArgs false
set_option maxRecDepth 100000
set_option maxHeartbeats 4000000
open Go.RowKit
def txt(s:ByteArray):List Nat:=s.data.toList.map (·.toNat)
theorem Wc(s:ByteArray):(txt s).length=s.size:=by unfold txt;rw[List.length_map,Array.length_toList];rfl
theorem txt_m(s:ByteArray): ∀x∈txt s,x<256:=fun x hx=>by
 obtain⟨y,_,rfl⟩:=List.mem_map.1 hx;exact y.toNat_lt
def PIN(xs:List Nat)(u:World)(y:Value):Prop:=IN u u.heap.size y xs
theorem PIN.stab{xs:List Nat}{u v:World}{x:Value}(hB:Bw u v)(h:PIN xs u x):PIN xs v x:=(IN.below h hB).mono hB.size
theorem cvSB{o:Oper}{ev:Operand->Value}{x:Operand}{s:ByteArray}(u:World)(ho:o.op= .convert 9 46 x)(hx:ev x= .string s): ∃v u',(execOp ev o).run Tryz.prog u= .ok (.value v) u'/\Bw u u'/\PIN (txt s) u' v:=by
 have hr:=Lib.run_convert_string_bytes (P:=Tryz.prog) u 9 46 5 s Tryz.underlying9 Tryz.underlying46 Tryz.underlying5
 have hsz:=Lib.bytesWorld_size u 5 s
 refine⟨.slice (some ⟨u.heap.size,0,none⟩) s.size (grownCap u s.size 0 5),Lib.bytesWorld u 5 s,?_,?_,?_⟩
 ·unfold execOp;rw[ho];simp only[hx,Sem.run_bind,hr,Result.andThen_ok,Sem.run_pure]
 ·exact⟨rfl,rfl,rfl,by omega,fun k hk=>Lib.bytesWorld_at_old u 5 s k hk⟩
 ·refine⟨_,_,u.heap.size,0,by rw[Wc],by rw[Wc];exact grownCap_ge u s.size 0 _,.inr rfl,by omega,fun j hj=>?_⟩
  rw[Wc] at hj
  rw[Nat.zero_add,Lib.bytesWorld_cell u 5 s j hj]
  have hj2:j<s.data.toList.length:=by rw[Array.length_toList];exact hj
  have e1:s.data.toList.getD j 0=s.data.toList[j]:=by rw[List.getD_eq_getElem?_getD,List.getElem?_eq_getElem hj2];rfl
  have e2:(txt s).getD j 0=(s.data.toList[j]).toNat:=by rw[List.getD_eq_getElem?_getD,txt,List.getElem?_map,List.getElem?_eq_getElem hj2];rfl
  rw[e1,e2]
theorem PQ_LV{lo:Nat}{ps:List (List Nat)}{u:World}{y:Value}(h:PQ lo ps u y):LV u y ps:=by
 obtain⟨b,cap,rfl,_,h2,h3⟩:=h
 exact⟨_,cap,b,0,rfl,.inr rfl,h2,h3⟩
theorem exT_m(k tx:List Nat): ∀i,(∀x∈exT k tx i,x<256)/\(exT k tx i).length<=32
 | 0=>by simp[exT]
 | i+1=>⟨(exT_B k tx i).mem,by rw[(exT_B k tx i).len];omega⟩
theorem cExpanded(ks tx:List Nat)(tv:Value)(n:Nat)(w:World)(hV:GV w)(hk:BB 64 ks)(hn:n<=8160)(htv:IN w w.heap.size tv tx)(hx: ∀x∈tx,x<256)(hl:tx.length<=10000):
 Calls Tryz.prog 102 #[.agg (U8 ks).toArray,tv,iI (n:Int)] w fun e w'=> ∃v,e= .returned v/\PS w.heap.size n (U8 (exN ks tx n)) w' v/\Bw w w':=by
 refine(cExpanded_core ks tx tv n (exT ks tx) (exS ks tx) w hk.len hn htv rfl (fun k=>(exT_B ks tx k).len) (Wx ks tx) (fun k h=>ex_step ks tx k n h) (fun k u y hB hy=>?_)).mono ?_
 ·obtain⟨m1,m2⟩:=exT_m ks tx k
  have e:exT ks tx (k+1)=hm ks ([exT ks tx k,tx,[(k+1)%256]]:List (List Nat)).flatten:=by
   rw[exT];congr 1;simp
  rw[e]
  obtain⟨a,ea⟩: ∃a,exT ks tx k=a:=⟨_,rfl⟩
  rw[ea] at hy m1 m2⊢
  exact cHmac ks [a,tx,[(k+1)%256]] y u (hV.below hB hV.sz) hk (PQ_LV hy) (by show 3<=100000;omega) (fun p hp=>by
   simp at hp
   rcases hp with rfl | rfl | rfl
   ·exact m1
   ·exact hx
   ·intro x hx;simp at hx;omega) (fun p hp=>by
   simp at hp
   rcases hp with rfl | rfl | rfl
   ·omega
   ·exact hl
   ·show 1<=10000;omega) (by
   rw[List.flatten_cons,List.flatten_cons,List.flatten_cons,List.flatten_nil,List.append_nil,List.length_append,List.length_append]
   show _+(_+1)<=_
   omega)
 ·rintro e w' ⟨v,e1,⟨k,h1,h2⟩,h3⟩
  rw[exN_of ks tx k n h1] at h2
  exact⟨v,e1,h2,h3⟩
theorem cExpand_core(kv:Value)(s:ByteArray)(n:Nat)(wk ex:List Nat)(w:World)(hn:n<=8160)(hWh:Hid (∀(u:World),Bw w u->CC 103 #[kv] u (.agg (U8 wk).toArray)))(hEx:Hid (∀(u:World) (y:Value),Bw w u->PIN (txt s) u y->Calls Tryz.prog 102 #[.agg (U8 wk).toArray,y,iI ((n:Nat):Int)] u fun e u'=> ∃v,e= .returned v/\PS w.heap.size n (U8 ex) u' v/\Bw u u')):
 Calls Tryz.prog 72 #[kv,.string s,iI ((n:Nat):Int)] w fun e w'=> ∃v,e= .returned v/\PT 0 w.heap.size n (U8 ex) w' v/\Bw w w':=by
 go_enter Tryz.func72,Tryz.ntmps72
 have HB0:Bw w w:=Below.refl _ _
 have hl1:decide ((n:Int)<0)=false:=by simp;try omega
 have hl2:decide ((8160:Int)<(n:Int))=false:=by simp;omega
 have K0_1:=Bk.nil (w.heap.size) w
 go_upto_region 1 with fail
 refine Rn K0_1 HB0 [(0,9,_),(1,10,_),(2,8,_)] (oc g_mv<|oc (g_bn (fun uZ=>Zg _ _ (n:Int) 0 _ uZ hl1))<|oc g_as on) fun u1 HB1 _ K1=>?_
 simp only[sQ] at K1⊢
 go_upto_region 3 with fail
 refine Rn K1 HB1 [(0,12,_),(1,13,_),(2,11,_)] (oc g_mv<|oc (g_bn (fun uZ=>Ww _ _ (n:Int) 8160 _ uZ hl2))<|oc g_as on) fun u2 HB2 _ K2=>?_
 simp only[sQ] at K2⊢
 go_upto_region 5 with fail
 refine Rf K2 HB2 [] [] (cG 0 14 [_,_,_] [(4,18,_),(7,7,_)]) [] [] [⟨3,17,some 5,PIN (txt s)⟩,⟨5,19,some 6,PS w.heap.size n (U8 ex)⟩,⟨6,6,none,PS w.heap.size n (U8 ex)⟩] [] (oc g_mv<|oc (g_cb Uj hWh.out)<|oc g_mv<|oc (g_vE 0 (PIN (txt s)) (fun ev u he bZ hs=>cvSB u rfl (he _ _ rfl)))<|oc g_mv<|oc (g_cZ 0 1 (PIN (txt s)) (PS w.heap.size n (U8 ex)) (fun y=>[.agg (U8 wk).toArray,y,iI ((n:Nat):Int)]) Tp (fun u y bZ hs hy=>hEx.out u y bZ hy))<|oc (g_sE 1 2 (PS w.heap.size n (U8 ex)))<|oc g_as on) fun u3 v3_3 hv3_3 v3_5 hv3_5 v3_6 hv3_6 HB3 _ K3=>?_
 simp only[sQ] at K3⊢
 have hz:=hv3_6 rfl
 go_wp2
 refine bodyPost_ret (v:= .tuple #[v3_6,iI 0]) (by simp[results,Tryz.results72,go_sem]) rfl ⟨_,rfl,⟨_,rfl,hz⟩,HB3⟩
theorem cExpand(ks:List Nat)(v:Value)(s:ByteArray)(n:Nat)(w:World)(hV:GV w)(hin:IN w w.heap.size v ks)(hsn: ∀n c,v= .slice none n c->c=0)(hk: ∀x∈ks,x<256)(hkl:ks.length<=10000)(hs:s.size<=10000)(hn:n<=8160):
 Calls Tryz.prog 72 #[v,.string s,iI ((n:Nat):Int)] w fun e w'=> ∃v,e= .returned v/\PT 0 w.heap.size n (U8 (exN (whl ks) (txt s) n)) w' v/\Bw w w':=
 cExpand_core v s n (whl ks) _ w hn (fun u hB=>cWhole ks v u (hV.below hB hV.sz) ((hin.below hB).mono hB.size) hsn hk hkl) (fun u y hB hy=>
  (cExpanded (whl ks) (txt s) y n u (hV.below hB hV.sz) (whl_B hk) hn hy (txt_m s) (by rw[Wc];exact hs)).mono fun e u' ⟨v,e1,h1,h2⟩=>⟨v,e1,h1.mono hB.size,h2⟩)
def INb(u:World)(b:Nat)(v:Value)(p:List Nat):Prop:= ∃(sl:Option Addr) (cap gb go:Nat),v= .slice sl p.length cap/\p.length<=cap/\(p.length=0\/sl=some ⟨gb,go,none⟩)/\gb<u.heap.size/\gb≠b/\SB u gb go p
theorem INb.inn{u:World}{b:Nat}{v:Value}{p:List Nat}(h:INb u b v p):IN u u.heap.size v p:=by
 obtain⟨sl,cap,gb,go,e,h1,h2,h3,_,h5⟩:=h
 exact⟨sl,cap,gb,go,e,h1,h2,h3,h5⟩
theorem INb.below{u u':World}{b:Nat}{v:Value}{p:List Nat}(h:INb u b v p)(hB:Bw u u'):INb u' b v p:=by
 obtain⟨sl,cap,gb,go,e,h1,h2,h3,h4,h5⟩:=h
 exact⟨sl,cap,gb,go,e,h1,h2,Nat.lt_of_lt_of_le h3 hB.size,h4,h5.below hB h3⟩
theorem IN.nb{u:World}{m b:Nat}{v:Value}{p:List Nat}(h:IN u m v p)(hm:m<=b)(hs:m<=u.heap.size):INb u b v p:=by
 obtain⟨sl,cap,gb,go,e,h1,h2,h3,h5⟩:=h
 exact⟨sl,cap,gb,go,e,h1,h2,by omega,by omega,h5⟩
theorem INb.put{u:World}{b:Nat}{v:Value}{p:List Nat}(h:INb u b v p)(o:Nat)(ws:List Value):INb (u.setCells b o ws) b v p:=by
 obtain⟨sl,cap,gb,go,e,h1,h2,h3,h4,h5⟩:=h
 refine⟨sl,cap,gb,go,e,h1,h2,by rw[Zp];exact h3,h4,fun j hj=>?_⟩
 have hk:=World.heap_setCells_other u b o ws h3 h4
 rw[World.cell?_of_block (a:=⟨gb,go+j,none⟩) hk];exact h5 j hj
theorem CV.oth{u:World}{b b' o:Nat}{l ws:List Value}(h:CV u b l)(hne:b≠b')(hb:b<u.heap.size):CV (u.setCells b' o ws) b l:=fun j v hj=>by
 have hk:=World.heap_setCells_other u b' o ws hb hne
 rw[World.cell?_of_block (a:=⟨b,j,none⟩) hk,World.frozen?_of_block (a:=⟨b,j,none⟩) hk]
 exact h j v hj
theorem CV.all{u:World}{b:Nat}{ys ds:List Value}(h:CV u b ys)(hl:ys.length=ds.length):CV (u.setCells b 0 ds) b ds:=by
 have h2:CV u b ([]++ys++[]):=by simpa using h
 have:=h2.mid (o:=0) (news:=ds) rfl hl
 simpa using this
theorem c8:Tryz.prog.cellsOf 5=1:=by kernel_rfl
section
section
variable {R:Rg} {P:Program} {ops:Array Oper} {Q:Exit->Act->World->Prop} {f:Nat->Bool} {t:Nat->Value} {u:World} {a:Act} {i:Nat} {o:Oper}
end
theorem whl_zeros(ks:List Nat)(z:Nat)(h:ks.length+z<=64):whl (ks++List.replicate z 0)=whl ks:=by
 have e1:whk (ks++List.replicate z 0)=ks++List.replicate z 0:=by unfold whk;rw[if_neg (by rw[List.length_append,List.length_replicate];omega)]
 have e2:whk ks=ks:=by unfold whk;rw[if_neg (by omega)]
 unfold whl
 rw[e1,e2,List.length_append,List.length_replicate,List.append_assoc,List.replicate_append_replicate]
 congr 2
 omega
end
end Go.Proofs.YtdhlekdohebbbaaGreatDoor
