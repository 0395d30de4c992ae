import Derived.Test.YtdhlekdohebbbaaGreatDoorRN2
import Derived.Test.YtdhlekdohebbbaaGreatDoorCTG
import Derived.Stop.Asserts
namespace Go.Proofs.YtdhlekdohebbbaaGreatDoor
set_option linter.unusedVariables false
set_option linter.unusedSimpArgs false
set_option maxRecDepth 100000
set_option maxHeartbeats 4000000
section
theorem odd_sum(t s:Int): ∀k:Nat,(t+s)∣t^(2*k+1)+s^(2*k+1)
 | 0=>⟨1,by rw[Int.mul_one,show 2*0+1=0+1 from rfl,Int.pow_succ,Int.pow_succ,Int.pow_zero,Int.pow_zero,Int.one_mul,Int.one_mul]⟩
 | k+1=>by
  obtain⟨c,hc⟩:=odd_sum t s k
  generalize t^(2*k+1)=x at hc
  have e1:t^(2*(k+1)+1)=t^(2*k+1)*(t*t):=by rw[show 2*(k+1)+1=(2*k+1)+1+1 by omega,Int.pow_succ,Int.pow_succ,Int.mul_assoc]
  have e2:s^(2*(k+1)+1)=s^(2*k+1)*(s*s):=by rw[show 2*(k+1)+1=(2*k+1)+1+1 by omega,Int.pow_succ,Int.pow_succ,Int.mul_assoc]
  obtain⟨c',hc'⟩:=odd_sum t s k
  rw[e1,e2]
  clear e1 e2 hc c
  generalize t^(2*k+1)=x at *
  generalize s^(2*k+1)=y at *
  exact⟨t*t*c' -y*(t -s),by grind⟩
theorem sq_pow{p q a:Int}(hp:Pr p.toNat)(h2:p=2*q+1)(hq:0<=q)(ha:2<=a)(hs:a*a<p -1):(a*a)^q.toNat%p=1:=by
 have hlt:a<p:=by
  have:a*2<=a*a:=Int.mul_le_mul_of_nonneg_left ha (by omega)
  omega
 have hb: ¬p.toNat∣a.toNat:=fun h=>by have:=Nat.le_of_dvd (by omega) h;omega
 have hf:=hp.fermat hb
 have e1:p.toNat -1=2*q.toNat:=by omega
 rw[e1,Nat.pow_mul] at hf
 have e2:((a.toNat^2:Nat):Int)=a*a:=by
  rw[Int.natCast_pow,Int.toNat_of_nonneg (by omega),Int.pow_succ,Int.pow_succ,Int.pow_zero,Int.one_mul]
 have hf2:(((a.toNat^2)^q.toNat%p.toNat:Nat):Int)=1:=by rw[hf];rfl
 rw[Int.natCast_emod,Int.natCast_pow,e2,Int.toNat_of_nonneg (by omega)] at hf2
 exact hf2
theorem gn_neg{p q a:Int}(hp:Pr p.toNat)(h2:p=2*q+1)(hq:0<=q)(ho:q%2=1)(ha:2<=a)(hs:a*a<p -1):gnB (p -a*a) p q=false:=by
 have h1:=sq_pow hp h2 hq ha hs
 unfold gnB
 refine decide_eq_false fun h=>?_
 have h3:=h.2.2
 have hk:q.toNat=2*(q.toNat/2)+1:=by omega
 have hd:=odd_sum (p -a*a) (a*a) (q.toNat/2)
 rw[<-hk,Int.sub_add_cancel] at hd
 have hz:=Int.emod_eq_zero_of_dvd hd
 rw[Int.add_emod,h1,h3] at hz
 have:(1+1:Int)%p=2:=Int.emod_eq_of_lt (by omega) (by
  have:a*2<=a*a:=Int.mul_le_mul_of_nonneg_left ha (by omega)
  omega)
 omega
end
section
open Go.RowKit
def xt(x:Nat):Nat:=if 256<=2*x then (2*x)^^^283 else 2*x
def tmL:Nat->Nat->Nat->Nat->Nat
 | 0,o,_,_=>o
 | n+1,o,x,y=>tmL n (if y%2=1 then o^^^x else o) (xt x) (y/2)
def tm(a b:Nat):Nat:=tmL 8 0 a b
def sbT:List Nat:=[99,124,119,123,242,107,111,197,48,1,103,43,254,215,171,118,202,130,201,125,250,89,71,240,173,212,162,175,156,164,114,192,183,253,147,38,54,63,247,204,52,165,229,241,113,216,49,21,4,199,35,195,24,150,5,154,7,18,128,226,235,39,178,117,9,131,44,26,27,110,90,160,82,59,214,179,41,227,47,132,83,209,0,237,32,252,177,91,106,203,190,57,74,76,88,207,208,239,170,251,67,77,51,133,69,249,2,127,80,60,159,168,81,163,64,143,146,157,56,245,188,182,218,33,16,255,243,210,205,12,19,236,95,151,68,23,196,167,126,61,100,93,25,115,96,129,79,220,34,42,144,136,70,238,184,20,222,94,11,219,224,50,58,10,73,6,36,92,194,211,172,98,145,149,228,121,231,200,55,109,141,213,78,169,108,86,244,234,101,122,174,8,186,120,37,46,28,166,180,198,232,221,116,31,75,189,139,138,112,62,181,102,72,3,246,14,97,53,87,185,134,193,29,158,225,248,152,17,105,217,142,148,155,30,135,233,206,85,40,223,140,161,137,13,191,230,66,104,65,153,45,15,176,84,187,22]
structure BY(n:Nat)(l:List Nat):Prop where
 len:l.length=n
 lt: ∀j,l.getD j 0<256
theorem gset(l:List Nat)(i j x:Nat):(l.set i x).getD j 0=if i=j/\j<l.length then x else l.getD j 0:=by
 rw[List.getD_eq_getElem?_getD,List.getD_eq_getElem?_getD,List.getElem?_set]
 by_cases h:i=j
 ·subst h
  by_cases h2:i<l.length
  ·simp[h2]
  ·simp[h2]
 ·simp[h]
theorem BY.set{n:Nat}{l:List Nat}(h:BY n l)(i x:Nat)(hx:x<256):BY n (l.set i x) where
 len:=by rw[List.length_set];exact h.len
 lt j:=by
  rw[gset];split
  ·exact hx
  ·exact h.lt j
def rcn:Nat->Nat
 | 0=>1
 | i+1=>tm (rcn i) 2
def lsK(w:List Nat)(n p k:Nat):Nat:=
 if n%4=0 then sbT.getD (w.getD (4*n+12+(k+1)%4) 0) 0^^^(if k=0 then p else 0) else w.getD (4*n+12+k) 0
def kw(key:List Nat):Nat->List Nat
 | 0=>key
 | n+1=>kw key n++[(kw key n).getD (4*n) 0^^^lsK (kw key n) n (rcn ((n+3)/4)) 0,(kw key n).getD (4*n+1) 0^^^lsK (kw key n) n (rcn ((n+3)/4)) 1,
  (kw key n).getD (4*n+2) 0^^^lsK (kw key n) n (rcn ((n+3)/4)) 2,(kw key n).getD (4*n+3) 0^^^lsK (kw key n) n (rcn ((n+3)/4)) 3]
theorem gapp1{a b:List Nat}{j:Nat}(h:j<a.length):(a++b).getD j 0=a.getD j 0:=by
 rw[List.getD_eq_getElem?_getD,List.getD_eq_getElem?_getD,List.getElem?_append_left h]
theorem gapp2{a b:List Nat}{j:Nat}(h:a.length<=j):(a++b).getD j 0=b.getD (j -a.length) 0:=by
 rw[List.getD_eq_getElem?_getD,List.getD_eq_getElem?_getD,List.getElem?_append_right h]
theorem BY.app{n m:Nat}{a b:List Nat}(ha:BY n a)(hb:BY m b):BY (n+m) (a++b):=⟨by rw[List.length_append,ha.len,hb.len],fun j=>by
 by_cases h:j<a.length
 ·rw[gapp1 h];exact ha.lt j
 ·rw[gapp2 (by omega)];exact hb.lt _⟩
theorem gtake(l:List Nat)(n:Nat){j:Nat}(h:j<n):(l.take n).getD j 0=l.getD j 0:=by
 rw[List.getD_eq_getElem?_getD,List.getD_eq_getElem?_getD,List.getElem?_take_of_lt h]
theorem gdrop(l:List Nat)(n j:Nat):(l.drop n).getD j 0=l.getD (n+j) 0:=by
 rw[List.getD_eq_getElem?_getD,List.getD_eq_getElem?_getD,List.getElem?_drop]
theorem gout{l:List Nat}{j:Nat}(h:l.length<=j):l.getD j 0=0:=by
 rw[List.getD_eq_getElem?_getD,List.getElem?_eq_none h];rfl
theorem BY.take{m:Nat}{l:List Nat}(h:BY m l)(n:Nat)(hn:n<=m):BY n (l.take n):=⟨by rw[List.length_take,h.len];omega,fun j=>by
 by_cases hj:j<n
 ·rw[gtake l n hj];exact h.lt j
 ·rw[gout (by rw[List.length_take];omega)];decide⟩
theorem BY.drop{m:Nat}{l:List Nat}(h:BY m l)(n:Nat):BY (m -n) (l.drop n):=⟨by rw[List.length_drop,h.len],fun j=>by rw[gdrop];exact h.lt _⟩
abbrev Fld:=Nat×List Nat
def putF:List Fld->List Nat
 | []=>[]
 | (t,b)::l=>t::b.length/256::b.length%256::(b++putF l)
theorem two(n:Nat):256*(n/256)+n%256=n:=by omega
def num8:List Nat->Nat:=List.foldl (fun n b=>256*n+b) 0
end
section
theorem pow_modG(n m:Int)(k:Nat):(n%m)^k%m=n^k%m:=by
 induction k with
 | zero=>rw[Int.pow_zero,Int.pow_zero]
 | succ k ih=>rw[Int.pow_succ,Int.pow_succ,Int.mul_emod,ih,Int.emod_emod,<-Int.mul_emod]
theorem mul_powG(a b:Int)(k:Nat):(a*b)^k=a^k*b^k:=by
 induction k with
 | zero=>rw[Int.pow_zero,Int.pow_zero,Int.pow_zero,Int.one_mul]
 | succ k ih=>rw[Int.pow_succ,Int.pow_succ,Int.pow_succ,ih];grind
def gOk(p q:Int):Prop:=p=2*q+1/\7<=p
def Mb(p q x:Int):Prop:=0<x/\x<p/\x^q.toNat%p=1
instance (p q:Int):Decidable (gOk p q):=by unfold gOk;infer_instance
instance (p q x:Int):Decidable (Mb p q x):=by unfold Mb;infer_instance
theorem gOk.q3{p q:Int}(h:gOk p q):3<=q:=by have:=h.1;have:=h.2;omega
theorem one_mod{p:Int}(h:1<p):(1:Int)%p=1:=Int.emod_eq_of_lt (by omega) h
theorem Mb.nz{p q x:Int}(hg:gOk p q)(h:x^q.toNat%p=1):x%p≠0:=fun e=>by
 have h3:=hg.q3
 have h2:(x%p)^q.toNat%p=1:=by rw[pow_modG];exact h
 obtain⟨k,hk⟩: ∃k,q.toNat=k+1:=⟨q.toNat -1,by omega⟩
 rw[e,hk,Int.pow_succ,Int.mul_zero,Int.zero_emod] at h2
 cases h2
theorem Mb.of{p q x:Int}(hg:gOk p q)(h:x^q.toNat%p=1):Mb p q (x%p):=by
 have h7:=hg.2
 have h1:=Int.emod_nonneg x (show p≠0 by omega)
 have h2:=Int.emod_lt_of_pos x (show 0<p by omega)
 have h3:=Mb.nz hg h
 exact⟨by omega,h2,by rw[pow_modG];exact h⟩
theorem Mb.mul{p q x y:Int}(hg:gOk p q)(hx:Mb p q x)(hy:Mb p q y):Mb p q (x*y%p):=by
 refine Mb.of hg ?_
 rw[mul_powG,Int.mul_emod,hx.2.2,hy.2.2,Int.one_mul]
 exact one_mod (by have:=hg.2;omega)
theorem IsInv.gcd{a m x:Int}(h:IsInv a m x)(ha:0<=a)(hm:0<m):gI m a=1:=by
 obtain⟨c,hc⟩:=h.2.2
 have h0:=h.1
 have hd1:((Nat.gcd m.toNat a.toNat:Nat):Int)∣m:=by
  have:=Int.ofNat_dvd.2 (Nat.gcd_dvd_left m.toNat a.toNat)
  rwa [Int.toNat_of_nonneg (by omega)] at this
 have hd2:((Nat.gcd m.toNat a.toNat:Nat):Int)∣a:=by
  have:=Int.ofNat_dvd.2 (Nat.gcd_dvd_right m.toNat a.toNat)
  rwa [Int.toNat_of_nonneg ha] at this
 have hd:((Nat.gcd m.toNat a.toNat:Nat):Int)∣1:=by
  have e:(1:Int)=x*a -m*c:=by omega
  rw[e]
  exact Int.dvd_sub (Int.dvd_mul_of_dvd_right hd2) (Int.dvd_mul_of_dvd_left hd1)
 unfold gI
 have:=Int.le_of_dvd (by decide) hd
 have hp:0<Nat.gcd m.toNat a.toNat:=Nat.gcd_pos_of_pos_left _ (by omega)
 omega
end
section
open Go.RowKit
theorem cDerive_core(kv sv:Value)(s:ByteArray)(x er:Int)(ds ys:List Nat)(w:World)(hds:ds.length=32)(hEx:Hid (∀(u:World),Bw w u->CC 71 #[sv,kv] u (.agg (U8 ds).toArray)))
 (hEp:Hid (∀(u:World) (b:Nat),Bw w u->CV u b (U8 ds)->b<u.heap.size->Calls Tryz.prog 72 #[.slice (some ⟨b,0,none⟩) 32 32,.string s,iI x] u fun e u'=> ∃v,e= .returned v/\PTX er ys u' v/\Bw u u')):
 Calls Tryz.prog 45 #[kv,sv,.string s,iI x] w fun e w'=> ∃v,e= .returned v/\PTX er ys w' v/\Bw w w':=by
 have hst:=sc32 ds hds
 have hU:(U8 ds).length=32:=by rw[Z2];exact hds
 go_enter Tryz.func45,Tryz.ntmps45
 go_upto_region 2 with(go_at_call 71;refine(hEx.out _ (Below.refl _ _)).mono ?_;rintro e u1 ⟨rfl,hB1⟩)
 have hBA:Bw w u1:=hB1
 have K0:=bk32 ds hds w.heap.size u1 hBA.size
 have HB0:Bw w ((u1.alloc (.cells #[.int .u8 0,.int .u8 0,.int .u8 0,.int .u8 0,.int .u8 0,.int .u8 0,.int .u8 0,.int .u8 0,.int .u8 0,.int .u8 0,.int .u8 0,.int .u8 0,.int .u8 0,.int .u8 0,.int .u8 0,.int .u8 0,.int .u8 0,.int .u8 0,.int .u8 0,.int .u8 0,.int .u8 0,.int .u8 0,.int .u8 0,.int .u8 0,.int .u8 0,.int .u8 0,.int .u8 0,.int .u8 0,.int .u8 0,.int .u8 0,.int .u8 0,.int .u8 0] 117)).setCells u1.heap.size 0 (U8 ds)):=Zu hBA.size (U8 ds) 0 _ (Z7 hBA _)
 generalize hC:((u1.alloc (.cells #[.int .u8 0,.int .u8 0,.int .u8 0,.int .u8 0,.int .u8 0,.int .u8 0,.int .u8 0,.int .u8 0,.int .u8 0,.int .u8 0,.int .u8 0,.int .u8 0,.int .u8 0,.int .u8 0,.int .u8 0,.int .u8 0,.int .u8 0,.int .u8 0,.int .u8 0,.int .u8 0,.int .u8 0,.int .u8 0,.int .u8 0,.int .u8 0,.int .u8 0,.int .u8 0,.int .u8 0,.int .u8 0,.int .u8 0,.int .u8 0,.int .u8 0,.int .u8 0] 117)).setCells u1.heap.size 0 (U8 ds))=v0 at *
 have hc0:=K0.cv 0
 have hl0:=K0.lt 0
 clear hst hU hC K0
 go_wp2_with (go_at_call 72;refine(hEp.out _ u1.heap.size HB0 hc0 hl0).mono ?_;rintro e u2 ⟨v,rfl,⟨y,rfl,hy⟩,hB2⟩)
 exact bodyPost_ret (v:= .tuple #[y,iI er]) (by simp[results,Tryz.results45,go_sem]) rfl ⟨_,rfl,⟨y,rfl,hy⟩,Yl HB0 hB2⟩
theorem cDeriveR_core(kv sv:Value)(s:ByteArray)(x er:Int)(ds ys:List Nat)(w:World)(hds:ds.length=32)(hEx:Hid (∀(u:World),Bw w u->CC 78 #[sv,kv] u (.agg (U8 ds).toArray)))
 (hEp:Hid (∀(u:World) (b:Nat),Bw w u->CV u b (U8 ds)->b<u.heap.size->Calls Tryz.prog 79 #[.slice (some ⟨b,0,none⟩) 32 32,.string s,iI x] u fun e u'=> ∃v,e= .returned v/\PTX er ys u' v/\Bw u u')):
 Calls Tryz.prog 53 #[kv,sv,.string s,iI x] w fun e w'=> ∃v,e= .returned v/\PTX er ys w' v/\Bw w w':=by
 have hst:=sc32 ds hds
 have hU:(U8 ds).length=32:=by rw[Z2];exact hds
 go_enter Tryz.func53,Tryz.ntmps53
 go_upto_region 2 with(go_at_call 78;refine(hEx.out _ (Below.refl _ _)).mono ?_;rintro e u1 ⟨rfl,hB1⟩)
 have hBA:Bw w u1:=hB1
 have K0:=bk32 ds hds w.heap.size u1 hBA.size
 have HB0:Bw w ((u1.alloc (.cells #[.int .u8 0,.int .u8 0,.int .u8 0,.int .u8 0,.int .u8 0,.int .u8 0,.int .u8 0,.int .u8 0,.int .u8 0,.int .u8 0,.int .u8 0,.int .u8 0,.int .u8 0,.int .u8 0,.int .u8 0,.int .u8 0,.int .u8 0,.int .u8 0,.int .u8 0,.int .u8 0,.int .u8 0,.int .u8 0,.int .u8 0,.int .u8 0,.int .u8 0,.int .u8 0,.int .u8 0,.int .u8 0,.int .u8 0,.int .u8 0,.int .u8 0,.int .u8 0] 117)).setCells u1.heap.size 0 (U8 ds)):=Zu hBA.size (U8 ds) 0 _ (Z7 hBA _)
 generalize hC:((u1.alloc (.cells #[.int .u8 0,.int .u8 0,.int .u8 0,.int .u8 0,.int .u8 0,.int .u8 0,.int .u8 0,.int .u8 0,.int .u8 0,.int .u8 0,.int .u8 0,.int .u8 0,.int .u8 0,.int .u8 0,.int .u8 0,.int .u8 0,.int .u8 0,.int .u8 0,.int .u8 0,.int .u8 0,.int .u8 0,.int .u8 0,.int .u8 0,.int .u8 0,.int .u8 0,.int .u8 0,.int .u8 0,.int .u8 0,.int .u8 0,.int .u8 0,.int .u8 0,.int .u8 0] 117)).setCells u1.heap.size 0 (U8 ds))=v0 at *
 have hc0:=K0.cv 0
 have hl0:=K0.lt 0
 clear hst hU hC K0
 go_wp2_with (go_at_call 79;refine(hEp.out _ u1.heap.size HB0 hc0 hl0).mono ?_;rintro e u2 ⟨v,rfl,⟨y,rfl,hy⟩,hB2⟩)
 exact bodyPost_ret (v:= .tuple #[y,iI er]) (by simp[results,Tryz.results53,go_sem]) rfl ⟨_,rfl,⟨y,rfl,hy⟩,Yl HB0 hB2⟩
theorem cDerive(ks ss:List Nat)(v sv:Value)(s:ByteArray)(x:Int)(w:World)(hV:GV w)(hin:IN w w.heap.size v ks)(hin2:IN w w.heap.size sv ss)(hsn: ∀n c,sv= .slice none n c->c=0)(hk: ∀x∈ks,x<256)(hss: ∀x∈ss,x<256)(hkl:ks.length<=1000)(hsl:ss.length<=1000)(hs:s.size<=1000):
 Calls Tryz.prog 45 #[v,sv,.string s,iI x] w fun e w'=> ∃v,e= .returned v/\PTX (exE x) (exY (mac ss ks) (txt s) x) w' v/\Bw w w':=by
 have hm:=mac_B ss ks
 have hE: ∀u,Bw w u->_:=fun u hB=>cExtract ss ks sv v u (hV.below hB hV.sz) ((hin2.below hB).mono hB.size) hsn ((hin.below hB).mono hB.size) hss hk hsl hkl
 obtain⟨ds,eds⟩: ∃ds,mac ss ks=ds:=⟨_,rfl⟩
 rw[eds] at hm hE⊢
 exact cDerive_core v sv s x (exE x) ds (exY ds (txt s) x) w hm.len hE (fun u b hB hc hb=>cExpandX ds _ s x u (hV.below hB hV.sz) (CV_in hm.len hc hb) (fun n c e=>by cases e) hm.mem (by rw[hm.len];omega) hs)
theorem cDeriveR(ks ss:List Nat)(v sv:Value)(s:ByteArray)(x:Int)(w:World)(hz:0<w.heap.size)(hin:IN w w.heap.size v ks)(hin2:IN w w.heap.size sv ss)(hk: ∀x∈ks,x<256)(hss: ∀x∈ss,x<256)(hkl:ks.length<=1000)(hsl:ss.length<=1000)(hs:s.size<=1000):
 Calls Tryz.prog 53 #[v,sv,.string s,iI x] w fun e w'=> ∃v,e= .returned v/\PTX (exE x) (exY (mac ss ks) (txt s) x) w' v/\Bw w w':=by
 have hm:=mac_B ss ks
 have hE: ∀u,Bw w u->_:=fun u hB=>cExtractR ss ks sv v u ((hin2.below hB).mono hB.size) ((hin.below hB).mono hB.size) hss hk hsl (by omega)
 obtain⟨ds,eds⟩: ∃ds,mac ss ks=ds:=⟨_,rfl⟩
 rw[eds] at hm hE⊢
 exact cDeriveR_core v sv s x (exE x) ds (exY ds (txt s) x) w hm.len hE (fun u b hB hc hb=>cExpandRX ds _ s x u (by have:=hB.size;omega) (CV_in hm.len hc hb) hm.mem (by rw[hm.len];omega) hs)
theorem nu_from: ∀(b:List Nat) (n:Nat),b.foldl (fun n b=>256*n+b) n=n*256^b.length+num8 b
 | [],n=>by simp[num8]
 | x::b,n=>by
  have e1:num8 (x::b)=(256*0+x)*256^b.length+num8 b:=nu_from b (256*0+x)
  rw[List.foldl_cons,nu_from b,e1,List.length_cons,Nat.pow_succ];grind
theorem nu_app(a b:List Nat):num8 (a++b)=num8 a*256^b.length+num8 b:=by
 have h:=nu_from b (num8 a)
 unfold num8 at h⊢
 rw[List.foldl_append];exact h
theorem nu_step{bs:List Nat}{i:Nat}(h:i<bs.length):num8 (bs.take (i+1))=256*num8 (bs.take i)+bs.getD i 0:=by
 have e:bs.getD i 0=bs[i]:=by rw[List.getD_eq_getElem?_getD,List.getElem?_eq_getElem h];rfl
 rw[List.take_succ_eq_append_getElem h,nu_app,e]
 simp[num8];omega
theorem nu_lt{bs:List Nat}(hx: ∀i,bs.getD i 0<256): ∀i,num8 (bs.take i)<256^i
 | 0=>by simp[num8]
 | i+1=>by
  have h1:=nu_lt hx i
  have h2:=hx i
  have h3:256^(i+1)=256*256^i:=by rw[Nat.pow_succ,Nat.mul_comm]
  by_cases h:i<bs.length
  ·rw[nu_step h];omega
  ·rw[List.take_of_length_le (by omega)] at h1⊢;omega
def cntL(i c:Nat):Nat:=min 8 (i -8*(7 -c))
def lmb(d:List Nat)(i c:Nat):Nat:=num8 ((d.drop (8*(7 -c))).take (cntL i c))*256^(8 -cntL i c)
def lmbs(d:List Nat)(i:Nat):List Nat:=(List.range 8).map (lmb d i)
theorem Ue(d:List Nat)(i:Nat):(lmbs d i).length=8:=by simp[lmbs]
theorem lmbs_get(d:List Nat)(i c:Nat)(h:c<8):(lmbs d i).getD c 0=lmb d i c:=by
 unfold lmbs
 rw[List.getD_eq_getElem?_getD,List.getElem?_map,List.getElem?_range h];rfl
theorem cnt_here{i:Nat}(h:i<64):cntL i (7 -i/8)=i%8/\cntL (i+1) (7 -i/8)=i%8+1:=by unfold cntL;omega
theorem cnt_else{i c:Nat}(h:i<64)(hc:c<8)(hn:c≠7 -i/8):cntL (i+1) c=cntL i c:=by unfold cntL;omega
theorem dr_getD(d:List Nat)(a j:Nat):(d.drop a).getD j 0=d.getD (a+j) 0:=by simp[List.getD_eq_getElem?_getD,List.getElem?_drop]
theorem lmb_here{d:List Nat}{i:Nat}(hd:d.length=64)(h:i<64):lmb d (i+1) (7 -i/8)=lmb d i (7 -i/8)+d.getD i 0*256^((63 -i)%8):=by
 obtain⟨e1,e2⟩:=cnt_here h
 unfold lmb
 rw[e1,e2]
 have hl:i%8<(d.drop (8*(7 -(7 -i/8)))).length:=by rw[List.length_drop];omega
 rw[nu_step hl,dr_getD,show 8*(7 -(7 -i/8))+i%8=i by omega,show 8 -i%8=(8 -(i%8+1))+1 by omega,show (63 -i)%8=8 -(i%8+1) by omega,Nat.pow_succ]
 grind
theorem lmbs_step{d:List Nat}{i:Nat}(hd:d.length=64)(h:i<64):lmbs d (i+1)=(lmbs d i).set (7 -i/8) (lmb d i (7 -i/8)+d.getD i 0*256^((63 -i)%8)):=by
 refine List.ext_getElem (by rw[List.length_set,Ue,Ue]) fun c h1 h2=>?_
 rw[Ue] at h1
 rw[List.getElem_set]
 have g: ∀k (hk:c<(lmbs d k).length),(lmbs d k)[c]=lmb d k c:=fun k hk=>by
  have:=lmbs_get d k c h1
  rwa [List.getD_eq_getElem?_getD,List.getElem?_eq_getElem hk] at this
 rw[g]
 split
 ·rename_i e;rw[<-e];exact lmb_here hd h
 ·rename_i e
  rw[g];unfold lmb;rw[cnt_else h h1 (fun x=>e x.symm)]
theorem lmb_lt{d:List Nat}(hx: ∀i,d.getD i 0<256)(i c:Nat):lmb d i c<18446744073709551616:=by
 unfold lmb
 have h:=nu_lt (bs:=d.drop (8*(7 -c))) (fun j=>by rw[dr_getD];exact hx _) (cntL i c)
 have hc:cntL i c<=8:=by unfold cntL;omega
 have e:256^cntL i c*256^(8 -cntL i c)=18446744073709551616:=by rw[<-Nat.pow_add,show cntL i c+(8 -cntL i c)=8 by omega]
 have:=Nat.mul_lt_mul_of_pos_right h (show 0<256^(8 -cntL i c) from Nat.pow_pos (by decide))
 omega
theorem lmb_0(d:List Nat)(c:Nat):lmb d 0 c=0:=by
 have e:cntL 0 c=0:=by unfold cntL;omega
 unfold lmb;rw[e,List.take_zero,show num8 []=0 from rfl,Nat.zero_mul]
theorem lmbs_0(d:List Nat):lmbs d 0=[0,0,0,0,0,0,0,0]:=by
 have e:lmb d 0=fun _=>0:=funext (lmb_0 d)
 unfold lmbs;rw[e];rfl
theorem Tf(d:List Nat)(c:Nat)(h:c<8):lmb d 64 c=num8 ((d.drop (8*(7 -c))).take 8):=by
 have e:cntL 64 c=8:=by unfold cntL;omega
 unfold lmb;rw[e];simp
theorem Te{d:List Nat}{a:Nat}(h:8+a<=d.length):num8 (d.drop a)=num8 ((d.drop a).take 8)*256^(d.length -a -8)+num8 (d.drop (a+8)):=by
 have:=nu_app ((d.drop a).take 8) ((d.drop a).drop 8)
 rw[List.take_append_drop,List.drop_drop,List.length_drop] at this
 rw[this];try congr 3
theorem lmb_sum{d:List Nat}(hd:d.length=64):(num8 d:Int)=V (lmb d 64 0) (lmb d 64 1) (lmb d 64 2) (lmb d 64 3)+V (lmb d 64 4) (lmb d 64 5) (lmb d 64 6) (lmb d 64 7)*0x10000000000000000000000000000000000000000000000000000000000000000:=by
 have h0:=Te (d:=d) (a:=0) (by omega)
 have h1:=Te (d:=d) (a:=8) (by omega)
 have h2:=Te (d:=d) (a:=16) (by omega)
 have h3:=Te (d:=d) (a:=24) (by omega)
 have h4:=Te (d:=d) (a:=32) (by omega)
 have h5:=Te (d:=d) (a:=40) (by omega)
 have h6:=Te (d:=d) (a:=48) (by omega)
 have h7:=Te (d:=d) (a:=56) (by omega)
 rw[hd] at h0 h1 h2 h3 h4 h5 h6 h7
 rw[show d.drop (56+8)=[] from List.drop_eq_nil_of_le (by omega)] at h7
 simp only[List.drop_zero] at h0
 rw[Tf d 0 (by omega),Tf d 1 (by omega),Tf d 2 (by omega),Tf d 3 (by omega),Tf d 4 (by omega),Tf d 5 (by omega),Tf d 6 (by omega),Tf d 7 (by omega)]
 simp only[Nat.reduceSub,Nat.reduceMul,Nat.reducePow,Nat.reduceAdd,List.drop_zero] at *
 have e0:num8 []=0:=rfl
 unfold V
 omega
theorem byp_k(k j:Nat)(hk:k<64)(hj:j<8):byp (k:Int) 0 0 0 (31 -(24+j))=(([0,0,0,0,0,0,0,k].getD j 0:Nat):Int):=by
 match j,hj with
 | 7,_=>show ((k:Int)/1)%256=_;simp;omega
 | 6,_=>show ((k:Int)/2^(1*8))%256=0;omega
 | 5,_=>show ((k:Int)/2^(2*8))%256=0;omega
 | 4,_=>show ((k:Int)/2^(3*8))%256=0;omega
 | 3,_=>show ((k:Int)/2^(4*8))%256=0;omega
 | 2,_=>show ((k:Int)/2^(5*8))%256=0;omega
 | 1,_=>show ((k:Int)/2^(6*8))%256=0;omega
 | 0,_=>show ((k:Int)/2^(7*8))%256=0;omega
theorem cCounted(k:Nat)(bs:List Nat)(v:Value)(w:World)(hk:k<64)(hin:IN w w.heap.size v bs)(hl:bs.length<=900):
 Calls Tryz.prog 28 #[iU (k:Int),v] w fun e u=> ∃y,e= .returned y/\IN u u.heap.size y ([0,0,0,0,0,0,0,k]++bs)/\Bw w u:=by
 have hO:=of_any (k:Int) w
 have w0:W64 0:=by unfold W64;omega
 have hY:Hid (∀u,_):=fun u=>Bytes_any (k:Int) 0 0 0 u (by unfold W64;omega) w0 w0 w0
 have hin2:Hid (∀u,Bw w u->IN u u.heap.size v bs):=fun u hB=>(IN.below hin hB).mono hB.size
 obtain⟨sl,cap,gb,go,rfl,_⟩:=hin
 obtain⟨n,en⟩: ∃n,bs.length=n:=⟨_,rfl⟩
 rw[en] at hin2
 rw[en]
 have en:Hid _:=en
 have hfin:Hid (∀(u:World) (g:Nat),CB u g 32 (k:Int) 0 0 0->g<u.heap.size->Bw w u->Calls Tryz.prog 50 #[.slice (some ⟨u.heap.size,0,none⟩) 2 2] (u.alloc (.cells #[.slice (some ⟨g,24,none⟩) 8 8,.slice sl n cap] 46)) fun e u'=> ∃y,e= .returned y/\PG u.heap.size 1 (8+n) (U8 ([0,0,0,0,0,0,0,k]++bs)) u' y/\Bw u u'):=fun u g hcb hg hB=>by
  have hBa:Bw u (u.alloc (.cells #[.slice (some ⟨g,24,none⟩) 8 8,.slice sl n cap] 46)):=Z7 (Zx u) _
  obtain⟨ua,eu⟩: ∃x,u.alloc (.cells #[.slice (some ⟨g,24,none⟩) 8 8,.slice sl n cap] 46)=x:=⟨_,rfl⟩
  have c1:ua.cell? ⟨u.heap.size,0,none⟩=some (.slice (some ⟨g,24,none⟩) 8 8):=by rw[<-eu];simp
  have c2:ua.cell? ⟨u.heap.size,1,none⟩=some (.slice sl n cap):=by rw[<-eu];simp
  have hs:ua.heap.size=u.heap.size+1:=by rw[<-eu];simp
  rw[eu] at hBa⊢
  clear eu
  refine(cConcat2 u.heap.size 8 n 8 cap _ sl [0,0,0,0,0,0,0,k] bs ua c1 c2 (by omega) ⟨_,8,g,24,rfl,by simp,.inr rfl,by omega,fun j hj=>?_⟩ (hin2.out ua (Yl hB hBa)) rfl en.out (by omega) (by omega)).mono ?_
  ·have hj:j<8:=by simpa using hj
   have:=(hcb (24+j) (by omega)).1
   rw[if_pos (by omega),byp_k k j hk hj] at this
   exact(hBa.cell (p:=⟨g,24+j,none⟩) hg).trans this
  ·rintro e u' ⟨y,rfl,h1,h2⟩
   exact⟨y,rfl,h1.mono (by omega),Yl hBa h2⟩
 go_enter Tryz.func28,Tryz.ntmps28
 go_wp2_with (first
  | (go_at_call 12;refine hO.mono ?_;clear hO;rintro e ua ⟨rfl,hBa⟩;replace hY:=hY.out ua)
  | (go_at_call 49;refine hY.mono ?_;clear hY;rintro e ub ⟨g,rfl,hcb,hg1,hg2,hBb⟩;replace hfin:=hfin.out ub g hcb hg2 (Yl hBa hBb);clear hcb)
  | (go_at_call 50;refine hfin.mono ?_;clear hfin;rintro e uc ⟨y,rfl,hpg,hBc⟩))
 have hp0:=hpg
 obtain⟨b,c,z,rfl,-⟩:=hp0
 have hn:8+n=([0,0,0,0,0,0,0,k]++bs).length:=by rw[List.length_append,en.out];rfl
 refine bodyPost_ret (v:= .slice (some ⟨b,0,none⟩) (8+n) c) (by simp[results,Tryz.results28,go_sem]) rfl ⟨_,rfl,?_,Yl (Yl hBa hBb) hBc⟩
 rw[hn] at hpg⊢
 exact PG_in hpg
def LI(d:List Nat):List Int:=d.map fun(x:Nat)=>(x:Int)
theorem LI_len(d:List Nat):(LI d).length=d.length:=List.length_map _
theorem LI_get(d:List Nat)(j:Nat):(LI d).getD j 0=((d.getD j 0:Nat):Int):=by
 unfold LI
 rw[List.getD_eq_getElem?_getD,List.getD_eq_getElem?_getD,List.getElem?_map]
 cases d[j]?<;>rfl
theorem SB_L{u:World}{g o:Nat}{d:List Nat}(h:SB u g o d):SBL u g o (LI d):=fun j hj=>by
 rw[LI_len] at hj
 rw[h j hj,LI_get]
theorem B8_L{d:List Nat}(h: ∀x∈d,x<256):Yf (LI d):=fun x hx=>by
 obtain⟨y,hy,rfl⟩:=List.mem_map.1 hx
 have:=h y hy
 omega
theorem nRead(d:List Nat)(g o c:Nat)(w:World)(hd:d.length=32)(hb: ∀x∈d,x<256)(hg:g<w.heap.size)(hS:SB w g o d):
 CC 46 #[.slice (some ⟨g,o,none⟩) 32 c] w (.tuple #[NV (V (Tk (LI d) 0 32) (Tk (LI d) 1 32) (Tk (LI d) 2 32) (Tk (LI d) 3 32)),iI 0]):=by
 have hl:(LI d).length=32:=by rw[LI_len,hd]
 have hx:=B8_L hb
 have:=Read_any g o c (LI d) w (by omega) hx hg (SB_L hS)
 rw[hl] at this
 rw[NV_V (Tk_W _ hx _ _) (Tk_W _ hx _ _) (Tk_W _ hx _ _) (Tk_W _ hx _ _)]
 exact this
theorem Tk_num(d:List Nat)(hd:d.length=32): ∀k,k<=32->V (Tk (LI d) 0 k) (Tk (LI d) 1 k) (Tk (LI d) 2 k) (Tk (LI d) 3 k)=((num8 (d.drop (32 -k)):Nat):Int)
 | 0,_=>by rw[List.drop_of_length_le (by omega)];rfl
 | k+1,h=>by
  have ih:=Tk_num d hd k (by omega)
  have hb:bv (LI d) k=((d.getD (31 -k) 0:Nat):Int):=by unfold bv;rw[LI_len,hd,LI_get]
  have e1:d.drop (32 -(k+1))=[d.getD (31 -k) 0]++d.drop (32 -k):=by
   rw[show 32 -(k+1)=31 -k by omega,List.drop_eq_getElem_cons (by omega),List.getD_eq_getElem?_getD,List.getElem?_eq_getElem (by omega),show 31 -k+1=32 -k by omega];rfl
  rw[e1,nu_app,List.length_drop,hd,show 32 -(32 -k)=k by omega]
  have e2:num8 [d.getD (31 -k) 0]=d.getD (31 -k) 0:=by simp[num8]
  rw[e2]
  generalize d.getD (31 -k) 0=y at hb
  generalize num8 (d.drop (32 -k))=n at ih
  have e3:(((y*256^k+n:Nat)):Int)=(y:Int)*256^k+(n:Int):=by rw[Int.natCast_add,Int.natCast_mul,Int.natCast_pow];rfl
  rw[e3,<-ih]
  have hk:k<32:=by omega
  have s: ∀q,Tk (LI d) q (k+1)=Tk (LI d) q k+if k/8=q then (y:Int)*2^(k%8*8) else 0:=fun q=>by rw[Tk,hb]
  rw[s,s,s,s]
  clear s hb e3 ih e1 e2 h
  generalize Tk (LI d) 0 k=t0
  generalize Tk (LI d) 1 k=t1
  generalize Tk (LI d) 2 k=t2
  generalize Tk (LI d) 3 k=t3
  have hc: ∃q r,q<4/\r<8/\k=8*q+r:=⟨k/8,k%8,by omega,by omega,by omega⟩
  obtain⟨q,r,hq,hr,rfl⟩:=hc
  rw[show (8*q+r)/8=q by omega,show (8*q+r)%8=r by omega]
  unfold V
  clear hk
  match q,hq,r,hr with
  | 0,_,0,_ | 0,_,1,_ | 0,_,2,_ | 0,_,3,_ | 0,_,4,_ | 0,_,5,_ | 0,_,6,_ | 0,_,7,_=>simp<;>omega
  | 1,_,0,_ | 1,_,1,_ | 1,_,2,_ | 1,_,3,_ | 1,_,4,_ | 1,_,5,_ | 1,_,6,_ | 1,_,7,_=>simp<;>omega
  | 2,_,0,_ | 2,_,1,_ | 2,_,2,_ | 2,_,3,_ | 2,_,4,_ | 2,_,5,_ | 2,_,6,_ | 2,_,7,_=>simp<;>omega
  | 3,_,0,_ | 3,_,1,_ | 3,_,2,_ | 3,_,3,_ | 3,_,4,_ | 3,_,5,_ | 3,_,6,_ | 3,_,7,_=>simp<;>omega
theorem cReadN(d:List Nat)(g o c:Nat)(w:World)(hd:d.length=32)(hb: ∀x∈d,x<256)(hg:g<w.heap.size)(hS:SB w g o d):
 CC 46 #[.slice (some ⟨g,o,none⟩) 32 c] w (.tuple #[NV (num8 d:Nat),iI 0]):=by
 have:=nRead d g o c w hd hb hg hS
 rw[Tk_num d hd 32 (by omega),Nat.sub_self,List.drop_zero] at this
 exact this
theorem num_lt(d:List Nat)(hd:d.length=32)(hb: ∀x∈d,x<256):In (num8 d:Nat):=by
 have hx:=B8_L hb
 have:=Tk_num d hd 32 (by omega)
 rw[Nat.sub_self,List.drop_zero] at this
 rw[<-this]
 exact In_V (Tk_W _ hx _ _) (Tk_W _ hx _ _) (Tk_W _ hx _ _) (Tk_W _ hx _ _)
theorem WV_cat(lo hi:Int)(hl:In lo)(hh:In hi):WV (lo+hi*0x10000000000000000000000000000000000000000000000000000000000000000)=A8 (D0 lo) (D1 lo) (D2 lo) (D3 lo) (D0 hi) (D1 hi) (D2 hi) (D3 hi):=by
 have h0:=hl.1
 have h1:=hl.2
 have e4:D4 (lo+hi*0x10000000000000000000000000000000000000000000000000000000000000000)=hi:=by unfold D4;omega
 have e0:D0 (lo+hi*0x10000000000000000000000000000000000000000000000000000000000000000)=D0 lo:=by unfold D0;omega
 have e1:D1 (lo+hi*0x10000000000000000000000000000000000000000000000000000000000000000)=D1 lo:=by unfold D1;omega
 have e2:D2 (lo+hi*0x10000000000000000000000000000000000000000000000000000000000000000)=D2 lo:=by unfold D2;omega
 have e3:D3 (lo+hi*0x10000000000000000000000000000000000000000000000000000000000000000)=D3 lo:=by unfold D3;omega
 rw[WV,e4,e0,e1,e2,e3]
theorem U64_setG(l:List Nat)(c z:Nat):U64 (l.set c z)=(U64 l).set c (iU (z:Int)):=by unfold U64;rw[List.map_set]
theorem xDigest_core(vb:Value)(s:ByteArray)(d:List Nat)(m r:Int)(L:Nat->List Nat)(x:Nat->Nat)(w:World)(hm:In m)(hd:d.length=64)(hdx:Hid (∀i,d.getD i 0<256))
 (hL0:Hid (L 0=[0,0,0,0,0,0,0,0]))(hLl:Hid (∀i,(L i).length=8))(hLs:Hid (∀i,i<64->L (i+1)=(L i).set (7 -i/8) ((L i).getD (7 -i/8) 0+d.getD i 0*256^((63 -i)%8))))(hLt:Hid (∀i c,(L i).getD c 0<18446744073709551616))
 (hD:Hid (∀u,Bw w u->Calls Tryz.prog 53 #[vb,.slice none 0 0,.string s,iI 64] u fun e u'=> ∃v,e= .returned v/\PTX 0 d u' v/\Bw u u'))
 (hR:Hid (∀u,CC 54 #[A8 (((L 64).getD 0 0:Nat):Int) (((L 64).getD 1 0:Nat):Int) (((L 64).getD 2 0:Nat):Int) (((L 64).getD 3 0:Nat):Int) (((L 64).getD 4 0:Nat):Int) (((L 64).getD 5 0:Nat):Int) (((L 64).getD 6 0:Nat):Int) (((L 64).getD 7 0:Nat):Int),NV m] u (.tuple #[NV r,iI 0]))):
 CC 32 #[vb,.string s,NV m] w (NV r):=by
 obtain⟨w0,ew0⟩: ∃x,(w.alloc (.cells (LN m).toArray 24)).alloc (.cells #[iU 0,iU 0,iU 0,iU 0] 24)=x:=⟨_,rfl⟩
 have hB0:Bw w w0:=by rw[<-ew0];exact Z7 (Z7 (Zx w) _) _
 have hDw:=hD.out w0 hB0
 go_enter Tryz.func32,Tryz.ntmps32
 go_wp2_with (first | (go_at_call 53;refine hDw.mono ?_;clear hDw;rintro e ua ⟨y,rfl,⟨yd,rfl,hyd⟩,hBa⟩;obtain⟨sd,cd,gb,go,rfl,q1,q2,q3,q4⟩:=hyd) | fail)
 have hBwa:Bw w ua:=Yl hB0 hBa
 have hsa:=hBa.size
 have hs0:w0.heap.size=w.heap.size+2:=by rw[<-ew0];simp
 have hm0:ua.cell? ⟨w.heap.size,0,none⟩=some (iU (D0 m)):=(hBa.cell (p:=⟨w.heap.size,0,none⟩) (by simp[hs0])).trans (by rw[<-ew0];simp)
 have hm1:ua.cell? ⟨w.heap.size,1,none⟩=some (iU (D1 m)):=(hBa.cell (p:=⟨w.heap.size,1,none⟩) (by simp[hs0])).trans (by rw[<-ew0];simp)
 have hm2:ua.cell? ⟨w.heap.size,2,none⟩=some (iU (D2 m)):=(hBa.cell (p:=⟨w.heap.size,2,none⟩) (by simp[hs0])).trans (by rw[<-ew0];simp)
 have hm3:ua.cell? ⟨w.heap.size,3,none⟩=some (iU (D3 m)):=(hBa.cell (p:=⟨w.heap.size,3,none⟩) (by simp[hs0])).trans (by rw[<-ew0];simp)
 have hbr:CV ua (w.heap.size+1) [iU 0,iU 0,iU 0,iU 0]:=by
  have h1:CV w0 (w.heap.size+1) [iU 0,iU 0,iU 0,iU 0]:=by
   rw[<-ew0]
   have:=CV.new (w.alloc (.cells (LN m).toArray 24)) [iU 0,iU 0,iU 0,iU 0] 24
   simpa using this
  exact h1.below hBa (by omega)
 replace hm0:Hid _:=hm0
 replace hm1:Hid _:=hm1
 replace hm2:Hid _:=hm2
 replace hm3:Hid _:=hm3
 replace hbr:Hid (CV ua (w.heap.size+1) [iU 0,iU 0,iU 0,iU 0]):=hbr
 replace q4:Hid (SB ua gb go d):=q4
 replace hs0:Hid _:=hs0
 clear hB0 ew0 hBa
 obtain rfl:sd=some ⟨gb,go,none⟩:=q2.resolve_left (by omega)
 try rw[hd]
 go_loopw [10] (fun s10 wr=> ∃i:Nat,i<=64/\s10=iI (i:Int)/\Hid (CV wr ua.heap.size (U64 (L i)))/\ua.heap.size<wr.heap.size/\Bw ua wr) (fun s10 _=>64 -(intOf s10).toNat)
 case atStart=>exact⟨0,by omega,rfl,(by rw[hL0.out];exact CV.new _ _ _),by simp,Z7 (Zx ua) _⟩
 case round=>
  obtain⟨i,hi,rfl,Kv,hlt,HBr⟩:=hrel
  by_cases hj:i<64
  ·have hl2:(i:Int)<64:=by omega
   have hc0:wr.cell? ⟨gb,go+i,none⟩=some (.int .u8 ((d.getD i 0:Nat):Int)):=(HBr.cell (p:=⟨gb,go+i,none⟩) q3).trans (q4.out i (by omega))
   have hy:=hdx.out i
   have hs:=hLs.out i hj
   have hlen:=hLl.out i
   obtain⟨pl,epl⟩: ∃x,63 -i=x:=⟨_,rfl⟩
   obtain⟨c,ec⟩: ∃x,7 -i/8=x:=⟨_,rfl⟩
   have hcp:c=pl/8:=by omega
   have hc8:c<8:=by omega
   have hb1:=hLt.out (i+1) c
   rw[epl,ec] at hs
   rw[hs] at hb1
   have hb2:((L i).set c ((L i).getD c 0+d.getD i 0*256^(pl%8))).getD c 0=(L i).getD c 0+d.getD i 0*256^(pl%8):=by
    rw[List.getD_eq_getElem?_getD,List.getElem?_set_self (by omega)];rfl
   rw[hb2] at hb1
   have hcel:=(Kv.out c _ (Y1 (L i) c (by omega))).1
   have hfr:=(Kv.out c _ (Y1 (L i) c (by omega))).2
   obtain⟨y,ey⟩: ∃x,d.getD i 0=x:=⟨_,rfl⟩
   obtain⟨a,ea⟩: ∃x,(L i).getD c 0=x:=⟨_,rfl⟩
   rw[ey] at hc0 hy hs hb1
   rw[ea] at hs hb1 hcel
   obtain⟨rm,erm⟩: ∃x,pl%8=x:=⟨_,rfl⟩
   rw[erm] at hs hb1
   have hrm:rm<=7:=by omega
   obtain⟨z,ez⟩: ∃x,y*256^rm=x:=⟨_,rfl⟩
   rw[ez] at hs hb1
   have hK2:Hid (CV (wr.setCell ⟨ua.heap.size,c,none⟩ (iU ((a+z:Nat):Int))) ua.heap.size (U64 (L (i+1)))):=by
    rw[hs,U64_setG];exact Kv.out.setC c (by rw[Ye];omega) _
   have w1:IntKind.i64.wrap (63 -(i:Int))=(pl:Int):=by rw[IntKind.wrap_i64];omega
   have w2:IntKind.u64.wrap (y:Int)=(y:Int):=by rw[IntKind.wrap_u64];omega
   have w3:IntKind.u64.wrap ((a:Int)+(z:Int))=((a+z:Nat):Int):=by rw[IntKind.wrap_u64];omega
   have w4:IntKind.i64.wrap ((i:Int)+1)=((i+1:Nat):Int):=by rw[IntKind.wrap_i64];omega
   have r1:Int.tmod (pl:Int) 8=(rm:Int):=by rw[<-erm];rfl
   have r2:Int.tdiv (pl:Int) 8=(c:Int):=by rw[hcp];rfl
   have w5:IntKind.i64.wrap (rm:Int)=(rm:Int):=by rw[IntKind.wrap_i64];omega
   have w6:IntKind.i64.wrap (c:Int)=(c:Int):=by rw[IntKind.wrap_i64];omega
   have hcz:(c:Int)<8:=by omega
   clear ec epl ey ea erm hs hb2 hcp
   go_wp2_with fail
   obtain⟨wo,rfl⟩: ∃x,x=wr:=⟨_,rfl⟩
   go_loopw [13,12] (fun s13 s12 wx=> ∃k:Nat,k<=rm/\s13=iI (k:Int)/\s12=iU ((y*256^k:Nat):Int)/\wx=wo) (fun s13 _ _=>rm -(intOf s13).toNat)
   case atStart=>exact⟨0,by omega,rfl,by simp,rfl⟩
   case round=>
    obtain⟨k,hk,rfl,rfl,hw⟩:=hrel
    have hw:=hw.symm
    subst hw
    by_cases hj2:k<rm
    ·have hl3:(k:Int)<(rm:Int):=by omega
     have hp:256^(k+1)<=256^7:=Nat.pow_le_pow_right (by decide) (by omega)
     have hb3:y*256^(k+1)<18446744073709551616:=by
      have:y*256^(k+1)<=255*256^7:=Nat.mul_le_mul (by omega) hp
      omega
     have e4:y*256^(k+1)=y*256^k*256:=by rw[Nat.pow_succ,Nat.mul_assoc]
     obtain⟨g,eg⟩: ∃x,y*256^k=x:=⟨_,rfl⟩
     rw[eg] at e4
     rw[eg]
     have w7:IntKind.u64.wrap ((g:Int)*256)=((y*256^(k+1):Nat):Int):=by rw[IntKind.wrap_u64,e4];omega
     have w8:IntKind.i64.wrap ((k:Int)+1)=((k+1:Nat):Int):=by rw[IntKind.wrap_i64];omega
     obtain⟨g2,eg2⟩: ∃x,y*256^(k+1)=x:=⟨_,rfl⟩
     rw[eg2] at w7
     clear e4 hb3 eg
     go_wp2
     refine⟨⟨k+1,by omega,by simp,by rw[eg2],by first | rfl | trivial⟩,?_⟩
     simp[intOf];omega
    ·have hl3: ¬(k:Int)<(rm:Int):=by omega
     obtain rfl:k=rm:=by omega
     rw[ez]
     go_wp2
     refine⟨⟨i+1,by omega,by simp,hK2,by simpa using hlt,HBr.setCell (Nat.le_refl _) _⟩,?_⟩
     simp[intOf];omega
  ·obtain rfl:i=64:=by omega
   have hl2: ¬(64:Int)<(64:Int):=by omega
   have hlen:=hLl.out 64
   have c0:=(Kv.out 0 _ (Y1 (L 64) 0 (by omega))).1
   have c1:=(Kv.out 1 _ (Y1 (L 64) 1 (by omega))).1
   have c2:=(Kv.out 2 _ (Y1 (L 64) 2 (by omega))).1
   have c3:=(Kv.out 3 _ (Y1 (L 64) 3 (by omega))).1
   have c4:=(Kv.out 4 _ (Y1 (L 64) 4 (by omega))).1
   have c5:=(Kv.out 5 _ (Y1 (L 64) 5 (by omega))).1
   have c6:=(Kv.out 6 _ (Y1 (L 64) 6 (by omega))).1
   have c7:=(Kv.out 7 _ (Y1 (L 64) 7 (by omega))).1
   have hs0':=hs0.out
   have m0:wr.cell? ⟨w.heap.size,0,none⟩=some (iU (D0 m)):=(HBr.cell (p:=⟨w.heap.size,0,none⟩) (by show w.heap.size<ua.heap.size;omega)).trans hm0.out
   have m1:wr.cell? ⟨w.heap.size,1,none⟩=some (iU (D1 m)):=(HBr.cell (p:=⟨w.heap.size,1,none⟩) (by show w.heap.size<ua.heap.size;omega)).trans hm1.out
   have m2:wr.cell? ⟨w.heap.size,2,none⟩=some (iU (D2 m)):=(HBr.cell (p:=⟨w.heap.size,2,none⟩) (by show w.heap.size<ua.heap.size;omega)).trans hm2.out
   have m3:wr.cell? ⟨w.heap.size,3,none⟩=some (iU (D3 m)):=(HBr.cell (p:=⟨w.heap.size,3,none⟩) (by show w.heap.size<ua.heap.size;omega)).trans hm3.out
   have hRw:=hR.out wr
   obtain⟨a0,ea0⟩: ∃x,(L 64).getD 0 0=x:=⟨_,rfl⟩
   obtain⟨a1,ea1⟩: ∃x,(L 64).getD 1 0=x:=⟨_,rfl⟩
   obtain⟨a2,ea2⟩: ∃x,(L 64).getD 2 0=x:=⟨_,rfl⟩
   obtain⟨a3,ea3⟩: ∃x,(L 64).getD 3 0=x:=⟨_,rfl⟩
   obtain⟨a4,ea4⟩: ∃x,(L 64).getD 4 0=x:=⟨_,rfl⟩
   obtain⟨a5,ea5⟩: ∃x,(L 64).getD 5 0=x:=⟨_,rfl⟩
   obtain⟨a6,ea6⟩: ∃x,(L 64).getD 6 0=x:=⟨_,rfl⟩
   obtain⟨a7,ea7⟩: ∃x,(L 64).getD 7 0=x:=⟨_,rfl⟩
   rw[ea0,ea1,ea2,ea3,ea4,ea5,ea6,ea7] at hRw
   rw[ea0] at c0
   rw[ea1] at c1
   rw[ea2] at c2
   rw[ea3] at c3
   rw[ea4] at c4
   rw[ea5] at c5
   rw[ea6] at c6
   rw[ea7] at c7
   clear ea0 ea1 ea2 ea3 ea4 ea5 ea6 ea7
   have hBwr:Bw w wr:=Yl hBwa HBr
   have hbw:Hid (CV wr (w.heap.size+1) [iU 0,iU 0,iU 0,iU 0]):=hbr.out.below HBr (by omega)
   have hsr:=HBr.size
   replace hs0':Hid _:=hs0'
   go_wp2_with (first
    | (go_at_call 54;refine hRw.mono ?_;clear hRw;rintro e ub ⟨rfl,hBb⟩;have hbz:=hbw.out.below hBb (by have:=hs0'.out;omega);have k0:=hbz 0 _ rfl;have k1:=hbz 1 _ rfl;have k2:=hbz 2 _ rfl;have k3:=hbz 3 _ rfl;obtain⟨k0,f0⟩:=k0;obtain⟨k1,f1⟩:=k1;obtain⟨k2,f2⟩:=k2;obtain⟨k3,f3⟩:=k3;replace hbz:Hid _:=hbz;have hlz:w.heap.size+1<ub.heap.size:=(by have:=hs0'.out;have:=hBb.size;omega);have hne:w.heap.size+1≠ub.heap.size:=(by omega))
    | fail)
   have hBf:Bw w ub:=Yl hBwr hBb
   exact bodyPost_ret (v:=NV r) (by simp[results,Tryz.results32,go_sem,k0,k1,k2,k3,hlz,hne]) rfl ⟨rfl,Z7 ((((hBf.setCell (Nat.le_succ _) _).setCell (Nat.le_succ _) _).setCell (Nat.le_succ _) _).setCell (Nat.le_succ _) _) _⟩
def dgN(bs:List Nat)(s:ByteArray)(m:Int):Int:=(num8 (exY (mac [] bs) (txt s) 64):Int)%m
theorem exY64(k tx:List Nat):(exY k tx 64).length=64:=by
 unfold exY
 rw[if_neg (by decide),if_neg (by decide)]
 unfold exN
 rw[List.length_take,Wx];decide
theorem xDigest(bs:List Nat)(v:Value)(s:ByteArray)(m:Int)(w:World)(hm:In m)(hm0:m≠0)(h:IN w w.heap.size v bs)(hb: ∀x∈bs,x<256)(hl:bs.length<=1000)(hs:s.size<=1000):
 CC 32 #[v,.string s,NV m] w (NV (dgN bs s m)):=by
 have hd:(exY (mac [] bs) (txt s) 64).length=64:=exY64 _ _
 have hx: ∀i,(exY (mac [] bs) (txt s) 64).getD i 0<256:=fun i=>by
  by_cases hi:i<(exY (mac [] bs) (txt s) 64).length
  ·rw[List.getD_eq_getElem?_getD,List.getElem?_eq_getElem hi];exact exY_m _ _ _ _ (List.getElem_mem hi)
  ·rw[List.getD_eq_getElem?_getD,List.getElem?_eq_none (by omega)];decide
 have hpos:0<w.heap.size:=by obtain⟨_,_,gb,_,_,_,_,h4,_⟩:=h;omega
 obtain⟨d,ed⟩: ∃x,exY (mac [] bs) (txt s) 64=x:=⟨_,rfl⟩
 unfold dgN
 have hD:=fun(u:World) (hB:Bw w u)=>cDeriveR bs [] v (.slice none 0 0) s 64 u (by have:=hB.size;omega) ((h.below hB).mono hB.size) (IN_nil u (by have:=hB.size;omega)) hb (by simp) hl (by simp) hs
 rw[ed] at hd hx⊢
 simp only[ed] at hD
 have g: ∀c,c<8->(lmbs d 64).getD c 0=lmb d 64 c:=fun c hc=>lmbs_get d 64 c hc
 have W: ∀i c,W64 (lmb d i c:Int):=fun i c=>⟨Int.natCast_nonneg _,by have:=lmb_lt hx i c;omega⟩
 refine xDigest_core v s d m _ (lmbs d) (fun _=>0) w hm hd hx (lmbs_0 d) (Ue d) (fun i hi=>?_) (fun i c=>?_) hD (fun u=>?_)
 ·rw[lmbs_step hd hi,lmbs_get d i _ (by omega)]
 ·by_cases hc:c<8
  ·rw[lmbs_get d i c hc];exact lmb_lt hx i c
  ·rw[List.getD_eq_getElem?_getD,List.getElem?_eq_none (by rw[Ue];omega)];decide
 ·rw[g 0 (by omega),g 1 (by omega),g 2 (by omega),g 3 (by omega),g 4 (by omega),g 5 (by omega),g 6 (by omega),g 7 (by omega),<-WV_of (num8 d:Int) _ _ _ _ _ _ _ _ (W 64 0) (W 64 1) (W 64 2) (W 64 3) (W 64 4) (W 64 5) (W 64 6) (W 64 7) (lmb_sum hd)]
  refine Ur (num8 d:Int) m u ⟨Int.natCast_nonneg _,?_⟩ hm hm0
  have h1:=nu_lt hx 64
  rw[List.take_of_length_le (by omega)] at h1
  have h2:(256:Nat)^64=0x10000000000000000000000000000000000000000000000000000000000000000*0x10000000000000000000000000000000000000000000000000000000000000000:=by decide+kernel
  omega
end
section
open Go.RowKit Go.Extern.Stop Go.Stop Go.Extern Go.Extern.Rtype
inductive EW (n:Int):Value->Prop
 | leaf:EW n (.iface 27 (iI n))
 | wrap (s:ByteArray) (k:Value):EW n k->EW n (.iface 43 (.agg #[.string s,k]))
theorem EW.some{n:Int}{v:Value}(h:EW n v): ∃T x,v= .iface T x:=by
 cases h with
 | leaf=>exact⟨_,_,rfl⟩
 | wrap s k _=>exact⟨_,_,rfl⟩
theorem cUnFG(s:ByteArray)(k:Value)(w:World)(hk: ∃T x,k= .iface T x):CC 168 #[.agg #[.string s,k]] w k:=by
 obtain⟨T,x,rfl⟩:=hk
 go_enter Tryz.func168,Tryz.ntmps168
 go_wp2
 exact bodyPost_ret (v:= .iface T x) (by simp[results,Tryz.results168,go_sem]) rfl ⟨rfl,Z7 (Zx w) _⟩
theorem Tryz.noIsEG(v:Value)(xT:TypeId)(w:World):(Instr.typeAssert (.iface 27 v) xT 104 true).run Tryz.prog w= .ok (.tuple #[.nilIface,.bool false]) w:=run_typeAssert_lacksB Tryz.underlying104 (by kernel_rfl) (by kernel_rfl) v xT w
theorem Tryz.noIsFG(v:Value)(xT:TypeId)(w:World):(Instr.typeAssert (.iface 43 v) xT 104 true).run Tryz.prog w= .ok (.tuple #[.nilIface,.bool false]) w:=run_typeAssert_lacksB Tryz.underlying104 (by kernel_rfl) (by kernel_rfl) v xT w
theorem Tryz.noUnEG(v:Value)(xT:TypeId)(w:World):(Instr.typeAssert (.iface 27 v) xT 107 true).run Tryz.prog w= .ok (.tuple #[.nilIface,.bool false]) w:=run_typeAssert_lacksB Tryz.underlying107 (by kernel_rfl) (by kernel_rfl) v xT w
theorem Tryz.noUsEG(v:Value)(xT:TypeId)(w:World):(Instr.typeAssert (.iface 27 v) xT 109 true).run Tryz.prog w= .ok (.tuple #[.nilIface,.bool false]) w:=run_typeAssert_lacksB Tryz.underlying109 (by kernel_rfl) (by kernel_rfl) v xT w
theorem Tryz.unFG(v:Value)(xT:TypeId)(w:World):(Instr.typeAssert (.iface 43 v) xT 107 true).run Tryz.prog w= .ok (.tuple #[.iface 43 v,.bool true]) w:=run_typeAssert_hasB Tryz.underlying107 (by kernel_rfl) v xT w
theorem infoEG:(Tryz.prog.info? 27).map (·.comparable)=some true:=by kernel_rfl
theorem eqlEG(a b:Int)(w:World):(binOp .eql 41 (.iface 27 (iI a)) (.iface 27 (iI b))).run Tryz.prog w= .ok (.bool (a==b)) w:=by
 obtain⟨i,hi,hc⟩:=Option.map_eq_some_iff.1 infoEG
 have h1:=run_underlying (w:=w) Tryz.underlying41
 have h2:=run_underlying (w:=w) Tryz.underlying27
 have h3: ∀d,(Op.equalIn (d+2) 41 (.iface 27 (iI a)) (.iface 27 (iI b))).run Tryz.prog w= .ok (a==b) w:=fun d=>by
  simp[Op.equalIn,h1,h2,typeInfo,hi,hc]
 simp only[binOp]
 simp[Op.equal,Op.maxDepth,h3 9998]
theorem cIs0G(t n:Int)(w:World)(v:Value)(h:EW n v)(r:Bool)(er:(n==t)=r):
 CC 43 #[v,.iface 27 (iI t),.bool true] w (.bool r):=by
 have nE:=Tryz.noIsEG
 have nF:=Tryz.noIsFG
 have uE:=Tryz.noUnEG
 have sE:=Tryz.noUsEG
 have uF:=Tryz.unFG
 have qE:=fun(a:Int) (u:World)=>eqlEG a t u
 have qF:=fun(x:Value) (u:World)=>run_eql_iface_types (P:=Tryz.prog) 43 27 x (iI t) Tryz.underlying41 (by decide) u
 go_enter Tryz.func43,Tryz.ntmps43
 go_wp2_with fail
 go_loopw [0] (fun s0 wr=>EW n s0/\Bw w wr) (fun s0 _=>SizeOf.sizeOf s0)
 case atStart=>exact⟨h,Below.refl _ _⟩
 case round=>
  obtain⟨hv,HBr⟩:=hrel
  cases hv with
  | leaf=>
   cases r with
   | true=>
    go_wp2
    exact bodyPost_ret (v:= .bool true) (by simp[results,Tryz.results43,go_sem]) rfl ⟨rfl,HBr⟩
   | false=>
    go_wp2
    exact bodyPost_ret (v:= .bool false) (by simp[results,Tryz.results43,go_sem]) rfl ⟨rfl,HBr⟩
  | wrap s k hk=>
   obtain⟨T,x,rfl⟩:=hk.some
   have hU:=cUnFG s (.iface T x) wr ⟨_,_,rfl⟩
   have hk:Hid _:=hk
   go_wp2_with (go_at_call 168;refine hU.mono ?_;clear hU;rintro e ua ⟨rfl,hBa⟩)
   refine⟨⟨hk.out,Yl HBr hBa⟩,?_⟩
   simp;omega
theorem Tryz.isTypeOfG(v:Value)(w:World):(Extern.ReflectliteType.typeOf #[.iface 27 v]).run Tryz.prog w= .ok (.iface 102 (.agg #[.pointer (some ⟨8,27,none⟩)])) w:=by kernel_rfl
def cmpXG:Array Value->Sem Value:=Extern.ReflectliteType.method fun t=>do noPackHeld "Comparable" t;pure (.bool (<-typeInfo t).comparable)
theorem Tryz.isComparableG(w:World):(cmpXG #[.agg #[.pointer (some ⟨8,27,none⟩)]]).run Tryz.prog w= .ok (.bool true) w:=by kernel_rfl
theorem cIsN(t:Int)(w:World):CC 25 #[.nilIface,.iface 27 (iI t)] w (.bool false):=by
 have hn:=run_eql_iface_nil_left (P:=Tryz.prog) w 27 (iI t) Tryz.underlying41
 go_enter Tryz.func25,Tryz.ntmps25
 go_wp2
 exact bodyPost_ret (v:= .bool false) (by simp[results,Tryz.results25,go_sem]) rfl ⟨rfl,Below.refl _ _⟩
theorem cIsGq(t n:Int)(w:World)(v:Value)(h:EW n v)(r:Bool)(er:(n==t)=r):CC 25 #[v,.iface 27 (iI t)] w (.bool r):=by
 have h8:= @run_callFunc_extern Tryz.prog 42 _ Extern.ReflectliteType.typeOf Tryz.func42 (by kernel_rfl) (by kernel_rfl) (by kernel_rfl) (by kernel_rfl)
 have h32:= @run_callFunc_extern Tryz.prog 172 _ cmpXG Tryz.func172 (by kernel_rfl) (by kernel_rfl) (by kernel_rfl) (by kernel_rfl)
 have tT:=Tryz.isTypeOfG
 have cT:=Tryz.isComparableG
 have hI:=cIs0G t n w v h r er
 obtain⟨T,x,rfl⟩:=h.some
 go_enter Tryz.func25,Tryz.ntmps25
 go_wp2_with (go_at_call 43;refine hI.mono ?_;clear hI;rintro e ub ⟨rfl,hBb⟩)
 exact bodyPost_ret (v:= .bool r) (by simp[results,Tryz.results25,go_sem]) rfl ⟨rfl,hBb⟩
theorem ixE0(u:World):(Instr.index 63 (.agg #[iI 2,iI 90]) (iI 0)).run Tryz.prog u= .ok (iI 2) u:=by kernel_rfl
theorem ixE1(u:World):(Instr.index 63 (.agg #[iI 2,iI 90]) (iI 1)).run Tryz.prog u= .ok (iI 90) u:=by kernel_rfl
theorem Ux(v:Value)(f2 f9:Bool)(m:Int)(w:World)(hv:v= .nilIface\/ ∃T x,v= .iface T x)(hm:m=if f2 then 2 else if f9 then 90 else 0)
 (hI:Hid (∀u,CC 25 #[v,.iface 27 (iI 2)] u (.bool f2)))
 (hJ:Hid (∀u,CC 25 #[v,.iface 27 (iI 90)] u (.bool f9))):
 CC 10 #[v] w (iI m):=by
 have hm:Hid _:=hm
 have u3:=Tryz.underlying27
 have a3:=Tryz.isAgg27
 have z3:=Tryz.sizeOf27
 have x0:=fun u:World=>ixE0 u
 have x1:=fun u:World=>ixE1 u
 rcases hv with rfl | ⟨T,x,rfl⟩
 all_goals
  go_enter Tryz.func10,Tryz.ntmps10
  go_wp2_with fail
  go_loopw [6] (fun s6 wr=>(s6=iI 0\/(s6=iI 1/\f2=false)\/(s6=iI 2/\f2=false/\f9=false))/\Bw w wr) (fun s6 _=>2 -(intOf s6).toNat)
  case atStart=>exact⟨.inl rfl,Below.refl _ _⟩
  case round=>
   obtain⟨h,HBr⟩:=hrel
   rcases h with rfl | ⟨rfl,hf⟩ | ⟨rfl,hf,hg⟩
   ·have hI:=hI.out wr
    cases f2 with
    | true=>
     go_wp2_with (go_at_call 25;refine hI.mono ?_;clear hI;rintro e ua ⟨rfl,hBa⟩)
     have hm2:=hm.out
     simp at hm2
     subst hm2
     exact bodyPost_ret (v:=iI 2) (by simp[results,Tryz.results10,go_sem]) rfl ⟨rfl,Yl HBr hBa⟩
    | false=>
     go_wp2_with (go_at_call 25;refine hI.mono ?_;clear hI;rintro e ua ⟨rfl,hBa⟩)
     exact⟨⟨.inr (.inl ⟨by simp,by simp⟩),Yl HBr hBa⟩,by simp[intOf]⟩
   ·subst hf
    have hJ:=hJ.out wr
    cases f9 with
    | true=>
     go_wp2_with (go_at_call 25;refine hJ.mono ?_;clear hJ;rintro e ua ⟨rfl,hBa⟩)
     have hm2:=hm.out
     simp at hm2
     subst hm2
     exact bodyPost_ret (v:=iI 90) (by simp[results,Tryz.results10,go_sem]) rfl ⟨rfl,Yl HBr hBa⟩
    | false=>
     go_wp2_with (go_at_call 25;refine hJ.mono ?_;clear hJ;rintro e ua ⟨rfl,hBa⟩)
     exact⟨⟨.inr (.inr ⟨by simp,by simp,by simp⟩),Yl HBr hBa⟩,by simp[intOf]⟩
   ·subst hf hg
    go_wp2
    have hm2:=hm.out
    simp at hm2
    subst hm2
    exact bodyPost_ret (v:=iI 0) (by simp[results,Tryz.results10,go_sem]) rfl ⟨rfl,HBr⟩
theorem gToldN(w:World):CC 10 #[.nilIface] w (iI 0):=
 Ux _ false false 0 w (.inl rfl) rfl (fun u=>cIsN 2 u) (fun u=>cIsN 90 u)
theorem gTold2(v:Value)(w:World)(h:EW 2 v):CC 10 #[v] w (iI 2):=
 Ux _ true false 2 w (.inr h.some) rfl (fun u=>cIsGq 2 2 u v h _ rfl) (fun u=>cIsGq 90 2 u v h _ rfl)
theorem gTold9(v:Value)(w:World)(h:EW 90 v):CC 10 #[v] w (iI 90):=
 Ux _ false true 90 w (.inr h.some) rfl (fun u=>cIsGq 2 90 u v h _ rfl) (fun u=>cIsGq 90 90 u v h _ rfl)
end
end Go.Proofs.YtdhlekdohebbbaaGreatDoor
