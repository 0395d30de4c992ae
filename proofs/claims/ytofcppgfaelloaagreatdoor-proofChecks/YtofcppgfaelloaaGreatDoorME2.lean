import Derived.Test.YtofcppgfaelloaaGreatDoorME1
import Derived.Lib.ConvBytes
namespace Go.Proofs.YtofcppgfaelloaaGreatDoor
set_option linter.unusedVariables false
set_option linter.unusedSimpArgs false
set_option maxRecDepth 100000
set_option maxHeartbeats 4000000
section
open Go.RowKit
def txt (s:ByteArray):List Nat:=s.data.toList.map (·.toNat)
theorem W3 (s:ByteArray):(txt s).length=s.size:=by unfold txt;rw[List.length_map,Array.length_toList];rfl
theorem txt_m (s:ByteArray): ∀x∈txt s,x<256:=fun x hx=>by
 obtain⟨y,_,rfl⟩:=List.mem_map.1 hx;exact y.toNat_lt
def PIN (xs:List Nat) (u:World) (y:Value):Prop:=IN u u.heap.size y xs
theorem PIN.stab {xs:List Nat} {u v:World} {x:Value} (hB:Bw u v) (h:PIN xs u x):PIN xs v x:=(IN.below h hB).mono hB.size
theorem cvSB {o:Oper} {ev:Operand->Value} {x:Operand} {s:ByteArray} (u:World) (ho:o.op= .convert 9 43 x) (hx:ev x= .string s): ∃v u',(execOp ev o).run Tryz.prog u= .ok (.value v) u'/\Bw u u'/\PIN (txt s) u' v:=by
 have hr:=Lib.run_convert_string_bytes (P:=Tryz.prog) u 9 43 5 s Tryz.underlying9 Tryz.underlying43 Tryz.underlying5
 have hsz:=Lib.bytesWorld_size u 5 s
 refine⟨.slice (some ⟨u.heap.size,0,none⟩) s.size (grownCap u s.size 0 5),Lib.bytesWorld u 5 s,?_,?_,?_⟩
 ·unfold execOp;rw[ho];simp only[hx,Sem.run_bind,hr,Result.andThen_ok,Sem.run_pure]
 ·exact⟨rfl,rfl,rfl,by omega,fun k hk=>Lib.bytesWorld_at_old u 5 s k hk⟩
 ·refine⟨_,_,u.heap.size,0,by rw[W3],by rw[W3];exact grownCap_ge u s.size 0 _,.inr rfl,by omega,fun j hj=>?_⟩
  rw[W3] at hj
  rw[Nat.zero_add,Lib.bytesWorld_cell u 5 s j hj]
  have hj2:j<s.data.toList.length:=by rw[Array.length_toList];exact hj
  have e1:s.data.toList.getD j 0=s.data.toList[j]:=by rw[List.getD_eq_getElem?_getD,List.getElem?_eq_getElem hj2];rfl
  have e2:(txt s).getD j 0=(s.data.toList[j]).toNat:=by rw[List.getD_eq_getElem?_getD,txt,List.getElem?_map,List.getElem?_eq_getElem hj2];rfl
  rw[e1,e2]
theorem PQ_LV {lo:Nat} {ps:List (List Nat)} {u:World} {y:Value} (h:PQ lo ps u y):LV u y ps:=by
 obtain⟨b,cap,rfl,_,h2,h3⟩:=h
 exact⟨_,cap,b,0,rfl,.inr rfl,h2,h3⟩
theorem exT_m (k tx:List Nat): ∀i,(∀x∈exT k tx i,x<256)/\(exT k tx i).length<=32
 | 0=>by simp[exT]
 | i+1=>⟨(exT_B k tx i).mem,by rw[(exT_B k tx i).len];omega⟩
theorem cExpanded (ks tx:List Nat) (tv:Value) (n:Nat) (w:World) (hV:GV w) (hk:BB 64 ks) (hn:n<=8160) (htv:IN w w.heap.size tv tx) (hx: ∀x∈tx,x<256) (hl:tx.length<=10000):
 Calls Tryz.prog 118 #[.agg (U8 (ks)).toArray,tv,iI (n:Int)] w fun e w'=> ∃v,e= .returned v/\PS w.heap.size n (U8 (exN ks tx n)) w' v/\Bw w w':=by
 refine(cExpanded_core ks tx tv n (exT ks tx) (exS ks tx) w hk.len hn htv rfl (fun k=>(exT_B ks tx k).len) (Wm ks tx) (fun k h=>ex_step ks tx k n h) (fun k u y hB hy=>?_)).mono ?_
 ·obtain⟨m1,m2⟩:=exT_m ks tx k
  have e:exT ks tx (k+1)=hm ks ([exT ks tx k,tx,[(k+1)%256]]:List (List Nat)).flatten:=by
   rw[exT];congr 1;simp
  rw[e]
  obtain⟨a,ea⟩: ∃a,exT ks tx k=a:=⟨_,rfl⟩
  rw[ea] at hy m1 m2⊢
  exact cHmac ks [a,tx,[(k+1)%256]] y u (hV.below hB hV.sz) hk (PQ_LV hy) (by show 3<=100000;omega) (fun p hp=>by
   simp at hp
   rcases hp with rfl | rfl | rfl
   ·exact m1
   ·exact hx
   ·intro x hx;simp at hx;omega) (fun p hp=>by
   simp at hp
   rcases hp with rfl | rfl | rfl
   ·omega
   ·exact hl
   ·show 1<=10000;omega) (by
   rw[List.flatten_cons,List.flatten_cons,List.flatten_cons,List.flatten_nil,List.append_nil,List.length_append,List.length_append]
   show _+(_+1)<=_
   omega)
 ·rintro e w' ⟨v,e1,⟨k,h1,h2⟩,h3⟩
  rw[exN_of ks tx k n h1] at h2
  exact⟨v,e1,h2,h3⟩
theorem cExpand_core (kv:Value) (s:ByteArray) (n:Nat) (wk ex:List Nat) (w:World) (hn:n<=8160) (hWh:Hid (∀(u:World),Bw w u->CC 119 #[kv] u (.agg (U8 (wk)).toArray))) (hEx:Hid (∀(u:World) (y:Value),Bw w u->PIN (txt s) u y->Calls Tryz.prog 118 #[.agg (U8 (wk)).toArray,y,iI ((n:Nat):Int)] u fun e u'=> ∃v,e= .returned v/\PS w.heap.size n (U8 (ex)) u' v/\Bw u u')):
 Calls Tryz.prog 101 #[kv,.string s,iI ((n:Nat):Int)] w fun e w'=> ∃v,e= .returned v/\PT 0 w.heap.size n (U8 (ex)) w' v/\Bw w w':=by
 go_enter Tryz.func101,Tryz.ntmps101
 have HB0:Bw w w:=Below.refl _ _
 have hl1:decide ((n:Int)<0)=false:=by simp;try omega
 have hl2:decide ((8160:Int)<(n:Int))=false:=by simp;omega
 have K0_1:=Bk.nil (w.heap.size) w
 go_upto_region 1 with fail
 refine Rn K0_1 HB0 [(0,9,_),(1,10,_),(2,8,_)] (oc g_mv<|oc (g_bn (fun uZ=>Zc _ _ (n:Int) 0 _ uZ hl1))<|oc g_as on) fun u1 HB1 _ K1=>?_
 simp only[sQ] at K1⊢
 go_upto_region 3 with fail
 refine Rn K1 HB1 [(0,12,_),(1,13,_),(2,11,_)] (oc g_mv<|oc (g_bn (fun uZ=>gtr_i _ _ (n:Int) 8160 _ uZ hl2))<|oc g_as on) fun u2 HB2 _ K2=>?_
 simp only[sQ] at K2⊢
 go_upto_region 5 with fail
 refine Rf K2 HB2 [] [] (cG 0 14 [_,_,_] [(4,18,_),(7,7,_)]) [] [] [⟨3,17,some 5,PIN (txt s)⟩,⟨5,19,some 6,PS w.heap.size n (U8 (ex))⟩,⟨6,6,none,PS w.heap.size n (U8 (ex))⟩] [] (oc g_mv<|oc (g_cb Ug hWh.out)<|oc g_mv<|oc (g_vE 0 (PIN (txt s)) (fun ev u he bZ hs=>cvSB u rfl (he _ _ rfl)))<|oc g_mv<|oc (g_cZ 0 1 (PIN (txt s)) (PS w.heap.size n (U8 (ex))) (fun y=>[.agg (U8 (wk)).toArray,y,iI ((n:Nat):Int)]) Tl (fun u y bZ hs hy=>hEx.out u y bZ hy))<|oc (g_sE 1 2 (PS w.heap.size n (U8 (ex))))<|oc g_as on) fun u3 v3_3 hv3_3 v3_5 hv3_5 v3_6 hv3_6 HB3 _ K3=>?_
 simp only[sQ] at K3⊢
 have hz:=hv3_6 rfl
 go_wp2
 refine bodyPost_ret (v:= .tuple #[v3_6,iI 0]) (by simp[results,Tryz.results101,go_sem]) rfl ⟨_,rfl,⟨_,rfl,hz⟩,HB3⟩
theorem cExpand (ks:List Nat) (v:Value) (s:ByteArray) (n:Nat) (w:World) (hV:GV w) (hin:IN w w.heap.size v ks) (hsn: ∀n c,v= .slice none n c->c=0) (hk: ∀x∈ks,x<256) (hkl:ks.length<=10000) (hs:s.size<=10000) (hn:n<=8160):
 Calls Tryz.prog 101 #[v,.string s,iI ((n:Nat):Int)] w fun e w'=> ∃v,e= .returned v/\PT 0 w.heap.size n (U8 (exN (whl ks) (txt s) n)) w' v/\Bw w w':=
 cExpand_core v s n (whl ks) _ w hn (fun u hB=>cWhole ks v u (hV.below hB hV.sz) ((hin.below hB).mono hB.size) hsn hk hkl) (fun u y hB hy=>
  (cExpanded (whl ks) (txt s) y n u (hV.below hB hV.sz) (whl_B hk) hn hy (txt_m s) (by rw[W3];exact hs)).mono fun e u' ⟨v,e1,h1,h2⟩=>⟨v,e1,h1.mono hB.size,h2⟩)
section
section
variable {R:Rg} {P:Program} {ops:Array Oper} {Q:Exit->Act->World->Prop} {f:Nat->Bool} {t:Nat->Value} {u:World} {a:Act} {i:Nat} {o:Oper}
end
theorem eql_i (T:TypeId) (p q:Operand) (x y:Int) (b:Bool) (w:World) (h:(x==y)=b):(do eqGuard .eql T p q (iI x) (iI y);binOp .eql T (iI x) (iI y):Sem Value).run Tryz.prog w= .ok (.bool b) w:=by
 subst h;go_simp
end
def CL (w:World) (n:Nat) (l:List Int):Prop:= ∀j x,l[j]?=some x->w.cell? ⟨n,j,none⟩=some (iU x)/\w.frozen? ⟨n,j,none⟩=false
theorem CL.below {w w':World} {m n:Nat} {l:List Int} (h:CL w n l) (hb:Below m w w') (hn:n<m):CL w' n l:=fun j x hj=>by
 rw[hb.cell (p:=⟨n,j,none⟩) hn,hb.frozen (p:=⟨n,j,none⟩) hn];exact h j x hj
theorem CL.drew {w:World} {n:Nat} {l:List Int} (h:CL w n l):CL w.drew n l:=h
theorem CL.alloc {w:World} {n:Nat} {l:List Int} (h:CL w n l) (hn:n<w.heap.size) (o:Obj):CL (w.alloc o) n l:=
 h.below (m:=w.heap.size) ((Below.refl _ _).alloc (Nat.le_refl _) o) hn
theorem CL.other {w:World} {n:Nat} {l:List Int} (h:CL w n l) (a:Addr) (ha:n≠a.block) (v:Value):CL (w.setCell a v) n l:=fun j x hj=>by
 have hb:(w.setCell a v).heap[n]?=w.heap[n]?:=Below.heap_setCell w a v n ha
 have c:(w.setCell a v).cell? ⟨n,j,none⟩=w.cell? ⟨n,j,none⟩:=World.cell?_of_block (w:=w) hb
 have f:(w.setCell a v).frozen? ⟨n,j,none⟩=w.frozen? ⟨n,j,none⟩:=World.frozen?_of_block (w:=w) hb
 rw[c,f];exact h j x hj
theorem CL.set {w:World} {n:Nat} {l:List Int} (h:CL w n l) (k:Nat) (hk:k<l.length) (v:Int):CL (w.setCell ⟨n,k,none⟩ (iU v)) n (l.set k v):=fun j x hj=>by
 rw[World.frozen?_setCell]
 obtain⟨hc,hf⟩:=h k l[k] (List.getElem?_eq_getElem hk)
 by_cases e:j=k
 ·subst e
  rw[List.getElem?_set_self (by omega)] at hj
  cases hj
  refine⟨?_,hf⟩
  simp[go_sem,hc]
 ·rw[List.getElem?_set_ne (by omega)] at hj
  obtain⟨hc',hf'⟩:=h j x hj
  refine⟨?_,hf'⟩
  rw[World.cell?_setCell_other _ _ _ _ (by simp<;>omega)]
  exact hc'
theorem CL.new (w:World) (l:List Int) (t:TypeId):CL (w.alloc (.cells (l.map (Value.int .u64)).toArray t)) w.heap.size l:=fun j x hj=>by
 have hf:(w.alloc (.cells (l.map (Value.int .u64)).toArray t)).frozen? ⟨w.heap.size,j,none⟩=false:=by simp[go_sem]
 refine⟨?_,hf⟩
 rw[cell_of_row _ w.heap.size j _ t (0,0) (heap_alloc_new _ _)]
 simp[hj]
theorem CL.newAt (w:World) (l:List Int) (t:TypeId) (n:Nat) (hn:n=w.heap.size):CL (w.alloc (.cells (l.map (Value.int .u64)).toArray t)) n l:=by
 subst hn;exact CL.new w l t
end
section
def W64 (x:Int):Prop:=0<=x/\x<18446744073709551616
def V (a b c d:Int):Int:=a+b*18446744073709551616+c*0x100000000000000000000000000000000+d*0x1000000000000000000000000000000000000000000000000
def D0 (n:Int):Int:=n%18446744073709551616
def D1 (n:Int):Int:=n/18446744073709551616%18446744073709551616
def D2 (n:Int):Int:=n/0x100000000000000000000000000000000%18446744073709551616
def D3 (n:Int):Int:=n/0x1000000000000000000000000000000000000000000000000%18446744073709551616
def D4 (n:Int):Int:=n/0x10000000000000000000000000000000000000000000000000000000000000000
theorem D_of (n a b c d k:Int) (ha:W64 a) (hb:W64 b) (hc:W64 c) (hd:W64 d) (h:n=V a b c d+k*0x10000000000000000000000000000000000000000000000000000000000000000):
 D0 n=a/\D1 n=b/\D2 n=c/\D3 n=d/\D4 n=k:=by
 obtain⟨a1,a2⟩:=ha;obtain⟨b1,b2⟩:=hb;obtain⟨c1,c2⟩:=hc;obtain⟨d1,d2⟩:=hd
 unfold V at h;unfold D0 D1 D2 D3 D4
 refine⟨?_,?_,?_,?_,?_⟩<;>omega
theorem W_D0 (n:Int):W64 (D0 n):=by unfold W64 D0;omega
theorem W_D1 (n:Int):W64 (D1 n):=by unfold W64 D1;omega
theorem W_D2 (n:Int):W64 (D2 n):=by unfold W64 D2;omega
theorem W_D3 (n:Int):W64 (D3 n):=by unfold W64 D3;omega
theorem V_D (n:Int):V (D0 n) (D1 n) (D2 n) (D3 n)=n%0x10000000000000000000000000000000000000000000000000000000000000000:=by
 unfold V D0 D1 D2 D3;omega
theorem V_bd (a b c d:Int) (ha:W64 a) (hb:W64 b) (hc:W64 c) (hd:W64 d):0<=V a b c d/\V a b c d<0x10000000000000000000000000000000000000000000000000000000000000000:=by
 obtain⟨a1,a2⟩:=ha;obtain⟨b1,b2⟩:=hb;obtain⟨c1,c2⟩:=hc;obtain⟨d1,d2⟩:=hd
 unfold V;omega
theorem V_inj (a b c d x y z t:Int) (ha:W64 a) (hb:W64 b) (hc:W64 c) (hd:W64 d) (hx:W64 x) (hy:W64 y) (hz:W64 z) (ht:W64 t)
 (h:V a b c d=V x y z t):a=x/\b=y/\c=z/\d=t:=by
 obtain⟨e0,e1,e2,e3,_⟩:=D_of (V a b c d) a b c d 0 ha hb hc hd (by omega)
 obtain⟨f0,f1,f2,f3,_⟩:=D_of (V a b c d) x y z t 0 hx hy hz ht (by omega)
 exact⟨by omega,by omega,by omega,by omega⟩
theorem sum0 (a b c d x y z t:Int):
 D0 (V a b c d+V x y z t)=(a+x)%18446744073709551616/\D1 (V a b c d+V x y z t)=(b+y+(a+x)/18446744073709551616)%18446744073709551616/\D2 (V a b c d+V x y z t)=(c+z+(b+y+(a+x)/18446744073709551616)/18446744073709551616)%18446744073709551616/\D3 (V a b c d+V x y z t)=(d+t+(c+z+(b+y+(a+x)/18446744073709551616)/18446744073709551616)/18446744073709551616)%18446744073709551616/\D4 (V a b c d+V x y z t)=(d+t+(c+z+(b+y+(a+x)/18446744073709551616)/18446744073709551616)/18446744073709551616)/18446744073709551616:=by
 unfold V D0 D1 D2 D3 D4;refine⟨?_,?_,?_,?_,?_⟩<;>omega
theorem sum1 (a b c d y z t:Int) (ha:W64 a):
 D0 (V a b c d+V 0 y z t)=a/\D1 (V a b c d+V 0 y z t)=(b+y)%18446744073709551616/\D2 (V a b c d+V 0 y z t)=(c+z+(b+y)/18446744073709551616)%18446744073709551616/\D3 (V a b c d+V 0 y z t)=(d+t+(c+z+(b+y)/18446744073709551616)/18446744073709551616)%18446744073709551616/\D4 (V a b c d+V 0 y z t)=(d+t+(c+z+(b+y)/18446744073709551616)/18446744073709551616)/18446744073709551616:=by
 obtain⟨a1,a2⟩:=ha
 unfold V D0 D1 D2 D3 D4;refine⟨?_,?_,?_,?_,?_⟩<;>omega
theorem sum2 (a b c d z t:Int) (ha:W64 a) (hb:W64 b):
 D0 (V a b c d+V 0 0 z t)=a/\D1 (V a b c d+V 0 0 z t)=b/\D2 (V a b c d+V 0 0 z t)=(c+z)%18446744073709551616/\D3 (V a b c d+V 0 0 z t)=(d+t+(c+z)/18446744073709551616)%18446744073709551616/\D4 (V a b c d+V 0 0 z t)=(d+t+(c+z)/18446744073709551616)/18446744073709551616:=by
 obtain⟨a1,a2⟩:=ha
 obtain⟨b1,b2⟩:=hb
 unfold V D0 D1 D2 D3 D4;refine⟨?_,?_,?_,?_,?_⟩<;>omega
theorem sum3 (a b c d t:Int) (ha:W64 a) (hb:W64 b) (hc:W64 c):
 D0 (V a b c d+V 0 0 0 t)=a/\D1 (V a b c d+V 0 0 0 t)=b/\D2 (V a b c d+V 0 0 0 t)=c/\D3 (V a b c d+V 0 0 0 t)=(d+t)%18446744073709551616/\D4 (V a b c d+V 0 0 0 t)=(d+t)/18446744073709551616:=by
 obtain⟨a1,a2⟩:=ha
 obtain⟨b1,b2⟩:=hb
 obtain⟨c1,c2⟩:=hc
 unfold V D0 D1 D2 D3 D4;refine⟨?_,?_,?_,?_,?_⟩<;>omega
theorem sum4 (a b c d:Int) (ha:W64 a) (hb:W64 b) (hc:W64 c) (hd:W64 d):
 D0 (V a b c d+V 0 0 0 0)=a/\D1 (V a b c d+V 0 0 0 0)=b/\D2 (V a b c d+V 0 0 0 0)=c/\D3 (V a b c d+V 0 0 0 0)=d/\D4 (V a b c d+V 0 0 0 0)=0:=by
 obtain⟨a1,a2⟩:=ha
 obtain⟨b1,b2⟩:=hb
 obtain⟨c1,c2⟩:=hc
 obtain⟨d1,d2⟩:=hd
 unfold V D0 D1 D2 D3 D4;refine⟨?_,?_,?_,?_,?_⟩<;>omega
theorem dif0 (a b c d x y z t:Int):
 D0 (V a b c d -V x y z t)=(a -x)%18446744073709551616/\D1 (V a b c d -V x y z t)=(b -y+(a -x)/18446744073709551616)%18446744073709551616/\D2 (V a b c d -V x y z t)=(c -z+(b -y+(a -x)/18446744073709551616)/18446744073709551616)%18446744073709551616/\D3 (V a b c d -V x y z t)=(d -t+(c -z+(b -y+(a -x)/18446744073709551616)/18446744073709551616)/18446744073709551616)%18446744073709551616/\ -D4 (V a b c d -V x y z t)= -((d -t+(c -z+(b -y+(a -x)/18446744073709551616)/18446744073709551616)/18446744073709551616)/18446744073709551616):=by
 unfold V D0 D1 D2 D3 D4;refine⟨?_,?_,?_,?_,?_⟩<;>omega
theorem dif1 (a b c d y z t:Int) (ha:W64 a):
 D0 (V a b c d -V 0 y z t)=a/\D1 (V a b c d -V 0 y z t)=(b -y)%18446744073709551616/\D2 (V a b c d -V 0 y z t)=(c -z+(b -y)/18446744073709551616)%18446744073709551616/\D3 (V a b c d -V 0 y z t)=(d -t+(c -z+(b -y)/18446744073709551616)/18446744073709551616)%18446744073709551616/\ -D4 (V a b c d -V 0 y z t)= -((d -t+(c -z+(b -y)/18446744073709551616)/18446744073709551616)/18446744073709551616):=by
 obtain⟨a1,a2⟩:=ha
 unfold V D0 D1 D2 D3 D4;refine⟨?_,?_,?_,?_,?_⟩<;>omega
theorem dif2 (a b c d z t:Int) (ha:W64 a) (hb:W64 b):
 D0 (V a b c d -V 0 0 z t)=a/\D1 (V a b c d -V 0 0 z t)=b/\D2 (V a b c d -V 0 0 z t)=(c -z)%18446744073709551616/\D3 (V a b c d -V 0 0 z t)=(d -t+(c -z)/18446744073709551616)%18446744073709551616/\ -D4 (V a b c d -V 0 0 z t)= -((d -t+(c -z)/18446744073709551616)/18446744073709551616):=by
 obtain⟨a1,a2⟩:=ha
 obtain⟨b1,b2⟩:=hb
 unfold V D0 D1 D2 D3 D4;refine⟨?_,?_,?_,?_,?_⟩<;>omega
theorem dif3 (a b c d t:Int) (ha:W64 a) (hb:W64 b) (hc:W64 c):
 D0 (V a b c d -V 0 0 0 t)=a/\D1 (V a b c d -V 0 0 0 t)=b/\D2 (V a b c d -V 0 0 0 t)=c/\D3 (V a b c d -V 0 0 0 t)=(d -t)%18446744073709551616/\ -D4 (V a b c d -V 0 0 0 t)= -((d -t)/18446744073709551616):=by
 obtain⟨a1,a2⟩:=ha
 obtain⟨b1,b2⟩:=hb
 obtain⟨c1,c2⟩:=hc
 unfold V D0 D1 D2 D3 D4;refine⟨?_,?_,?_,?_,?_⟩<;>omega
theorem dif4 (a b c d:Int) (ha:W64 a) (hb:W64 b) (hc:W64 c) (hd:W64 d):
 D0 (V a b c d -V 0 0 0 0)=a/\D1 (V a b c d -V 0 0 0 0)=b/\D2 (V a b c d -V 0 0 0 0)=c/\D3 (V a b c d -V 0 0 0 0)=d/\ -D4 (V a b c d -V 0 0 0 0)=0:=by
 obtain⟨a1,a2⟩:=ha
 obtain⟨b1,b2⟩:=hb
 obtain⟨c1,c2⟩:=hc
 obtain⟨d1,d2⟩:=hd
 unfold V D0 D1 D2 D3 D4;refine⟨?_,?_,?_,?_,?_⟩<;>omega
end
section
open Go.RowKit
abbrev A4 (a b c d:Int):Value:= .agg #[iU a,iU b,iU c,iU d]
abbrev A8 (a b c d e f g h:Int):Value:= .agg #[iU a,iU b,iU c,iU d,iU e,iU f,iU g,iU h]
def eq4 (a b c d x y z t:Int):Bool:=a==x&&b==y&&c==z&&d==t
def eq8 (a b c d e f g h a' b' c' d' e' f' g' h':Int):Bool:=a==a'&&b==b'&&c==c'&&d==d'&&e==e'&&f==f'&&g==g'&&h==h'
@[go_sem] theorem eq4_same (a b c d:Int):eq4 a b c d a b c d=true:=by simp[eq4]
@[go_sem] theorem eq8_same (a b c d e f g h:Int):eq8 a b c d e f g h a b c d e f g h=true:=by simp[eq8]
theorem eq4_iff (a b c d x y z t:Int):eq4 a b c d x y z t=true↔a=x/\b=y/\c=z/\d=t:=by simp[eq4,and_assoc]
theorem eq4_V (a b c d x y z t:Int) (ha:W64 a) (hb:W64 b) (hc:W64 c) (hd:W64 d) (hx:W64 x) (hy:W64 y) (hz:W64 z) (ht:W64 t):eq4 a b c d x y z t=true↔V a b c d=V x y z t:=by
 rw[eq4_iff]
 constructor
 ·rintro⟨rfl,rfl,rfl,rfl⟩;rfl
 ·exact V_inj a b c d x y z t ha hb hc hd hx hy hz ht
@[go_sem] theorem eqn24 (a b c d x y z t:Int) (w:World):(Op.equalIn 10000 24 (A4 a b c d) (A4 x y z t)).run Tryz.prog w= .ok (eq4 a b c d x y z t) w:=by
 have u3:=Tryz.underlying22
 have a3:=Tryz.isAgg22
 have z3:=Tryz.sizeOf22
 unfold eq4
 rw[show (10000:Nat)=9999+1 from rfl,Op.equalIn]
 simp only[Sem.run_bind,run_underlying Tryz.underlying24,Result.andThen_ok]
 simp only[Std.Legacy.Range.forIn_eq_forIn_range',Std.Legacy.Range.size,Nat.sub_zero,Nat.add_sub_cancel,Nat.div_one,List.range'_succ,List.range'_zero,List.forIn_cons,List.forIn_nil]
 go_simp
 by_cases h1:a=x<;>by_cases h2:b=y<;>by_cases h3:c=z<;>by_cases h4:d=t<;>simp[h1,h2,h3,h4]
@[go_sem] theorem eqn29 (a b c d e f g h a' b' c' d' e' f' g' h':Int) (w:World):(Op.equalIn 10000 73 (A8 a b c d e f g h) (A8 a' b' c' d' e' f' g' h')).run Tryz.prog w= .ok (eq8 a b c d e f g h a' b' c' d' e' f' g' h') w:=by
 have u3:=Tryz.underlying22
 have a3:=Tryz.isAgg22
 have z3:=Tryz.sizeOf22
 unfold eq8
 rw[show (10000:Nat)=9999+1 from rfl,Op.equalIn]
 simp only[Sem.run_bind,run_underlying Tryz.underlying73,Result.andThen_ok]
 simp only[Std.Legacy.Range.forIn_eq_forIn_range',Std.Legacy.Range.size,Nat.sub_zero,Nat.add_sub_cancel,Nat.div_one,List.range'_succ,List.range'_zero,List.forIn_cons,List.forIn_nil]
 go_simp
 by_cases h1:a=a'
 all_goals by_cases h2:b=b'
 all_goals by_cases h3:c=c'
 all_goals by_cases h4:d=d'
 all_goals by_cases h5:e=e'
 all_goals by_cases h6:f=f'
 all_goals by_cases h7:g=g'
 all_goals by_cases h8:h=h'
 all_goals simp[h1,h2,h3,h4,h5,h6,h7,h8]
end
end Go.Proofs.YtofcppgfaelloaaGreatDoor
