import Derived.Test.YtoffgfhilkpdpaaGreatDoorCTA
namespace Go.Proofs.YtoffgfhilkpdpaaGreatDoor
set_option linter.unusedVariables false
set_option linter.unusedSimpArgs false
set_option maxRecDepth 100000
set_option maxHeartbeats 4000000
section
open Go.RowKit
def xt(x:Nat):Nat:=if 256<=2*x then (2*x)^^^283 else 2*x
def tmL:Nat->Nat->Nat->Nat->Nat
 | 0,o,_,_=>o
 | n+1,o,x,y=>tmL n (if y%2=1 then o^^^x else o) (xt x) (y/2)
def tm(a b:Nat):Nat:=tmL 8 0 a b
def sbT:List Nat:=[99,124,119,123,242,107,111,197,48,1,103,43,254,215,171,118,202,130,201,125,250,89,71,240,173,212,162,175,156,164,114,192,183,253,147,38,54,63,247,204,52,165,229,241,113,216,49,21,4,199,35,195,24,150,5,154,7,18,128,226,235,39,178,117,9,131,44,26,27,110,90,160,82,59,214,179,41,227,47,132,83,209,0,237,32,252,177,91,106,203,190,57,74,76,88,207,208,239,170,251,67,77,51,133,69,249,2,127,80,60,159,168,81,163,64,143,146,157,56,245,188,182,218,33,16,255,243,210,205,12,19,236,95,151,68,23,196,167,126,61,100,93,25,115,96,129,79,220,34,42,144,136,70,238,184,20,222,94,11,219,224,50,58,10,73,6,36,92,194,211,172,98,145,149,228,121,231,200,55,109,141,213,78,169,108,86,244,234,101,122,174,8,186,120,37,46,28,166,180,198,232,221,116,31,75,189,139,138,112,62,181,102,72,3,246,14,97,53,87,185,134,193,29,158,225,248,152,17,105,217,142,148,155,30,135,233,206,85,40,223,140,161,137,13,191,230,66,104,65,153,45,15,176,84,187,22]
structure BY(n:Nat)(l:List Nat):Prop where
 len:l.length=n
 lt: ∀j,l.getD j 0<256
theorem gset(l:List Nat)(i j x:Nat):(l.set i x).getD j 0=if i=j/\j<l.length then x else l.getD j 0:=by
 rw[List.getD_eq_getElem?_getD,List.getD_eq_getElem?_getD,List.getElem?_set]
 by_cases h:i=j
 ·subst h
  by_cases h2:i<l.length
  ·simp[h2]
  ·simp[h2]
 ·simp[h]
theorem BY.set{n:Nat}{l:List Nat}(h:BY n l)(i x:Nat)(hx:x<256):BY n (l.set i x) where
 len:=by rw[List.length_set];exact h.len
 lt j:=by
  rw[gset];split
  ·exact hx
  ·exact h.lt j
def rcn:Nat->Nat
 | 0=>1
 | i+1=>tm (rcn i) 2
def lsK(w:List Nat)(n p k:Nat):Nat:=
 if n%4=0 then sbT.getD (w.getD (4*n+12+(k+1)%4) 0) 0^^^(if k=0 then p else 0) else w.getD (4*n+12+k) 0
def kw(key:List Nat):Nat->List Nat
 | 0=>key
 | n+1=>kw key n++[(kw key n).getD (4*n) 0^^^lsK (kw key n) n (rcn ((n+3)/4)) 0,(kw key n).getD (4*n+1) 0^^^lsK (kw key n) n (rcn ((n+3)/4)) 1,
  (kw key n).getD (4*n+2) 0^^^lsK (kw key n) n (rcn ((n+3)/4)) 2,(kw key n).getD (4*n+3) 0^^^lsK (kw key n) n (rcn ((n+3)/4)) 3]
theorem gapp1{a b:List Nat}{j:Nat}(h:j<a.length):(a++b).getD j 0=a.getD j 0:=by
 rw[List.getD_eq_getElem?_getD,List.getD_eq_getElem?_getD,List.getElem?_append_left h]
theorem gapp2{a b:List Nat}{j:Nat}(h:a.length<=j):(a++b).getD j 0=b.getD (j -a.length) 0:=by
 rw[List.getD_eq_getElem?_getD,List.getD_eq_getElem?_getD,List.getElem?_append_right h]
theorem BY.app{n m:Nat}{a b:List Nat}(ha:BY n a)(hb:BY m b):BY (n+m) (a++b):=⟨by rw[List.length_append,ha.len,hb.len],fun j=>by
 by_cases h:j<a.length
 ·rw[gapp1 h];exact ha.lt j
 ·rw[gapp2 Z1];exact hb.lt _⟩
theorem gtake(l:List Nat)(n:Nat){j:Nat}(h:j<n):(l.take n).getD j 0=l.getD j 0:=by
 rw[List.getD_eq_getElem?_getD,List.getD_eq_getElem?_getD,List.getElem?_take_of_lt h]
theorem gdrop(l:List Nat)(n j:Nat):(l.drop n).getD j 0=l.getD (n+j) 0:=by
 rw[List.getD_eq_getElem?_getD,List.getD_eq_getElem?_getD,List.getElem?_drop]
theorem gout{l:List Nat}{j:Nat}(h:l.length<=j):l.getD j 0=0:=by
 rw[List.getD_eq_getElem?_getD,List.getElem?_eq_none h];rfl
theorem BY.take{m:Nat}{l:List Nat}(h:BY m l)(n:Nat)(hn:n<=m):BY n (l.take n):=⟨by rw[List.length_take,h.len];omega,fun j=>by
 by_cases hj:j<n
 ·rw[gtake l n hj];exact h.lt j
 ·rw[gout (by rw[List.length_take];omega)];decide⟩
theorem BY.drop{m:Nat}{l:List Nat}(h:BY m l)(n:Nat):BY (m -n) (l.drop n):=⟨by rw[List.length_drop,h.len],fun j=>by rw[gdrop];exact h.lt _⟩
abbrev Fld:=Nat×List Nat
def putF:List Fld->List Nat
 | []=>[]
 | (t,b)::l=>t::b.length/256::b.length%256::(b++putF l)
theorem two(n:Nat):256*(n/256)+n%256=n:=Z1
def num8:List Nat->Nat:=List.foldl (fun n b=>256*n+b) 0
theorem NW_full2{u:World}{b n cap:Nat}{xs:List Nat}{zs:List Value}(hl:xs.length=n)(h:CV u b (U8 xs++zs)):NW n (U8 xs) u (.slice (some ⟨b,0,none⟩) n cap):=
 ⟨_,cap,rfl,.inr ⟨_,rfl,fun j v hj=>by rw[Addr.add0];exact(h.pre2 j v hj).1⟩⟩
theorem cExpandR_core(kv:Value)(s:ByteArray)(n:Nat)(tS oS:Nat->List Nat)(w:World)(hn:n<=8160)(hs:s.size<=1000)(ht0:Hid (tS 0=[]))(htB:Hid (∀k,BB 32 (tS (k+1))))(htl:Hid (∀k,(tS k).length<=32))(ho0:Hid (oS 0=[]))(hos:Hid (∀k,oS (k+1)=oS k++tS (k+1)))(hol:Hid (∀k,(oS k).length=32*k))
 (hSu:Hid (∀(k:Nat) (u:World) (z:Value),Bw w u->IN u u.heap.size z ((tS k++txt s)++[(k+1)%256])->CC 162 #[kv,z] u (.agg (U8 (tS (k+1))).toArray))):
 Calls Tryz.prog 149 #[kv,.string s,iI (n:Int)] w fun e w'=> ∃v,e= .returned v/\(∃k,n<=32*k/\PTX 0 ((oS k).take n) w' v)/\Bw w w':=by
 have hbs:=bs0b
 have hn0: ¬(n:Int)<0:=Z1
 have hn1: ¬(8160:Int)<(n:Int):=Z1
 go_enter Tryz.func149,Tryz.ntmps149
 go_wp2_with fail
 go_loopw [10,9,8] (fun s10 s9 s8 wr=> ∃(k bo co:Nat) (zs:List Value),s10=iI ((k+1:Nat):Int)/\s8= .slice (some ⟨bo,0,none⟩) (32*k) co/\32*k<=co/\zs.length=co -32*k/\w.heap.size<=bo/\bo<wr.heap.size/\Hid (CV wr bo (U8 (oS k)++zs))/\Hid (INb wr bo s9 (tS k))/\k<=255/\Bw w wr) (fun _ _ s8 _=>n -lenV s8)
 case atStart=>
  exact⟨0,w.heap.size,0,[],rfl,rfl,Z1,rfl,Nat.le_refl _,by simp;omega,(by rw[ho0.out];exact fun j v h=>by simp[U8] at h),(by rw[ht0.out];exact⟨_,0,w.heap.size+1,0,rfl,Nat.le_refl _,.inl rfl,by simp,Z1,fun j hj=>by simp at hj⟩),Z1,Z5 (Z5 (Zf w) _) _⟩
 case round=>
  obtain⟨k,bo,co,zs,rfl,rfl,hco,hzl,hbo,hlo,Ko,hlv,hk,HBr⟩:=hrel
  by_cases hj:32*k<n
  ·have hl1:decide (((32*k:Nat):Int)<(n:Int))=true:=by simp;omega
   have hl2:(32:Int)*(k:Int)<(n:Int):=Z1
   have hS:=hSu.out k
   have hT:=htl.out k
   have hTn:=htB.out k
   have hO:=hos.out k
   have hOl:=hol.out k
   obtain⟨tk,etk⟩:=Z3 (tS k)
   obtain⟨tn,etn⟩:=Z3 (tS (k+1))
   obtain⟨ol,eol⟩:=Z3 (oS k)
   obtain⟨ib,eib⟩:=Z3 ((k+1)%256)
   rw[etk] at hS hT hlv
   rw[etn] at hS hTn hO
   rw[eol] at hO hOl Ko
   rw[eib] at hS
   have e8:IntKind.u8.wrap ((k:Int)+1)=(ib:Int):=by
    rw[<-eib];simp[IntKind.wrap,IntKind.signed,IntKind.bits]
   have e1:IntKind.i64.wrap ((k:Int)+1+1)=(k:Int)+1+1:=by rw[IntKind.wrap_i64];omega
   have hts:=Un s
   obtain⟨v1,u1,r1,rB1,rp1⟩:=round_a (INb.inn hlv.out) Z1
   have hcv:=fun(u:World)=>Lib.run_convert_string_bytes (P:=Tryz.prog) u 9 133 5 s Tryz.underlying9 Tryz.underlying133 Tryz.underlying5
   obtain⟨v2,u2,r2,rB2,rp2⟩:=round_b rB1 rp1 Z1 hs
   obtain⟨v3,u3,r3,rB3,rp3⟩:=round_c (x:=ib) rB2 rp2 (by rw[List.length_append,hts];omega)
   have hc3:=hS u3 v3 (Z7 HBr rB3) rp3
   have hst:=sc32 tn hTn.len
   have hU:(U8 tn).length=32:=by rw[Zk];exact hTn.len
   have hS:Hid _:=hS
   have hO:Hid _:=hO
   have hTn:Hid _:=hTn
   have hOl:Hid _:=hOl
   have etn:Hid _:=etn
   clear rp1 rp2 rp3 etk eol eib hT
   go_upto_region 10 with(first | (at_builtin;refine Y2 rfl _ _ 133 rfl _ _ _ rfl rfl r1 ?_;clear r1) | (at_builtin;refine Y2 rfl _ _ 133 rfl _ _ _ rfl rfl r2 ?_;clear r2) | (at_builtin;refine Y2 rfl _ _ 133 rfl _ _ _ rfl rfl r3 ?_;clear r3) | (go_at_call 162;refine hc3.mono ?_;rintro e u4 ⟨rfl,hB4⟩;clear hc3))
   have hBA:Bw wr u4:=Z7 rB3 hB4
   have K0:=bk32 tn hTn.out.len wr.heap.size u4 hBA.size
   have HB0:Bw wr ((u4.alloc (.cells #[.int .u8 0,.int .u8 0,.int .u8 0,.int .u8 0,.int .u8 0,.int .u8 0,.int .u8 0,.int .u8 0,.int .u8 0,.int .u8 0,.int .u8 0,.int .u8 0,.int .u8 0,.int .u8 0,.int .u8 0,.int .u8 0,.int .u8 0,.int .u8 0,.int .u8 0,.int .u8 0,.int .u8 0,.int .u8 0,.int .u8 0,.int .u8 0,.int .u8 0,.int .u8 0,.int .u8 0,.int .u8 0,.int .u8 0,.int .u8 0,.int .u8 0,.int .u8 0] 215)).setCells u4.heap.size 0 (U8 tn)):=Zz hBA.size (U8 tn) 0 _ (Z5 hBA _)
   generalize hC:((u4.alloc (.cells #[.int .u8 0,.int .u8 0,.int .u8 0,.int .u8 0,.int .u8 0,.int .u8 0,.int .u8 0,.int .u8 0,.int .u8 0,.int .u8 0,.int .u8 0,.int .u8 0,.int .u8 0,.int .u8 0,.int .u8 0,.int .u8 0,.int .u8 0,.int .u8 0,.int .u8 0,.int .u8 0,.int .u8 0,.int .u8 0,.int .u8 0,.int .u8 0,.int .u8 0,.int .u8 0,.int .u8 0,.int .u8 0,.int .u8 0,.int .u8 0,.int .u8 0,.int .u8 0] 215)).setCells u4.heap.size 0 (U8 tn))=v0 at *
   have hsz4:=hBA.size
   have hc0:=K0.cv 0
   have hl0:=K0.lt 0
   clear hst hcv hB4 rB3 rB2 rB1 hBA hC K0
   obtain⟨v4,u5,r4,rB4,b4,c4,z4,rfl,g1,g2,g3,g4,g5⟩:=round_a (wr:=v0) (lv:= .slice (some ⟨u4.heap.size,0,none⟩) 32 32) (tk:=tn) (CV_in hTn.out.len hc0 hl0) (by rw[hTn.out.len];omega)
   rw[hTn.out.len] at r4 g3 g4
   rw[Nat.mul_one] at g4
   have hB5:Bw wr u5:=Z7 HB0 rB4
   obtain⟨v5,u6,r5,rg5,b6,c6,z6,rfl,f1,f2,f3,f4,f5⟩:=app_row (ty:=133) (Ko.out.below hB5 hlo) (Nat.lt_of_lt_of_le hlo hB5.size) hOl.out hTn.out.len hco hzl Z1 (NW_full2 (n:=32) (cap:=c4) (zs:=z4) hTn.out.len g5)
   rw[Nat.mul_one] at f4
   rw[<-hO.out] at f5
   have f5:Hid _:=f5
   have g5:Hid _:=g5
   have h32:32*k+32=32*(k+1):=Z1
   rw[h32] at r5 f3 f4
   have hw6:32*(k+1)<=c6:=f3
   go_wp2_with (first | (at_builtin;refine Y2 rfl _ _ 133 rfl _ _ _ rfl rfl r4 ?_;clear r4) | (at_builtin;refine Y2 rfl _ _ 133 rfl _ _ _ rfl rfl r5 ?_;clear r5))
   have hs1:=HBr.size
   have hs2:=HB0.size
   have hs3:=hB5.size
   have hBw:Bw w u6:=(Z7 HBr hB5).grown rg5 Z1 (fun j e=>by cases e;exact hbo)
   have hb4:b4≠bo:=Z1
   have hin4:INb u6 b6 (.slice (some ⟨b4,0,none⟩) 32 c4) tn:=by
    refine⟨_,c4,b4,0,by rw[hTn.out.len],by rw[hTn.out.len];exact g3,.inr rfl,Nat.lt_of_lt_of_le g2 rg5.size,Z1,fun j hj=>?_⟩
    have hk:u6.heap[b4]?=u5.heap[b4]?:=rg5.block _ g2 (fun e=>hb4 (by cases e;rfl))
    rw[Nat.zero_add,World.cell?_of_block (a:=⟨b4,j,none⟩) hk]
    exact((CV.pre2 g5.out) j _ (Yv tn j hj)).1
   refine⟨⟨k+1,b6,c6,z6,by simp,rfl,hw6,Z1,Z1,f2,f5,(by rw[etn.out];exact hin4),Z1,hBw⟩,?_⟩
   simp[lenV];omega
  ·have hl1:decide (((32*k:Nat):Int)<(n:Int))=false:=by simp;omega
   have hl2: ¬(32:Int)*(k:Int)<(n:Int):=Z1
   have hnk:n<=32*k:=Z1
   have hnc:(n:Int)<=(co:Int):=Z1
   have hsl:=fun(u:World)=>slHB (some ⟨bo,0,none⟩) (32*k) co n hnk hco (fun e=>by cases e) u
   go_wp2
   have hOl:=hol.out k
   have hnl:((oS k).take n).length=n:=by rw[List.length_take,hOl];omega
   refine bodyPost_ret (v:= .tuple #[.slice (some ⟨bo,0,none⟩) n co,iI 0]) (by simp[results,Tryz.results149,go_sem]) rfl ⟨_,rfl,⟨k,hnk,_,rfl,_,co,bo,0,by rw[hnl],by rw[hnl];omega,.inr rfl,hlo,fun j hj=>?_⟩,HBr⟩
   rw[hnl] at hj
   rw[Nat.zero_add,List.getD_eq_getElem?_getD,List.getElem?_take_of_lt hj,<-List.getD_eq_getElem?_getD]
   exact((CV.pre2 Ko.out) j _ (Yv (oS k) j Z1)).1
theorem cExpandR_neg(kv:Value)(s:ByteArray)(x:Int)(w:World)(hx:x<0):CC 149 #[kv,.string s,iI x] w (.tuple #[.slice none 0 0,iI 2]):=by
 go_enter Tryz.func149,Tryz.ntmps149
 go_wp2
 exact bodyPost_ret (v:= .tuple #[.slice none 0 0,iI 2]) (by simp[results,Tryz.results149,go_sem]) rfl ⟨rfl,Below.refl _ _⟩
theorem cExpandR_big(kv:Value)(s:ByteArray)(x:Int)(w:World)(hx:8160<x):CC 149 #[kv,.string s,iI x] w (.tuple #[.slice none 0 0,iI 3]):=by
 have h0: ¬x<0:=Z1
 go_enter Tryz.func149,Tryz.ntmps149
 go_wp2
 exact bodyPost_ret (v:= .tuple #[.slice none 0 0,iI 3]) (by simp[results,Tryz.results149,go_sem]) rfl ⟨rfl,Below.refl _ _⟩
def exE(x:Int):Int:=if x<0 then 2 else if 8160<x then 3 else 0
def exY(ks tx:List Nat)(x:Int):List Nat:=if x<0 then [] else if 8160<x then [] else exN (whl ks) tx x.toNat
theorem exY_m(ks tx:List Nat)(x:Int): ∀y∈exY ks tx x,y<256:=by
 unfold exY
 split
 ·simp
 ·split
  ·simp
  ·exact exN_m _ _ _
theorem PTX_nil(u:World)(e:Int)(h:0<u.heap.size):PTX e [] u (.tuple #[.slice none 0 0,iI e]):=⟨_,rfl,IN_nil u h⟩
theorem cExpandRX(ks:List Nat)(v:Value)(s:ByteArray)(x:Int)(w:World)(hz:0<w.heap.size)(hin:IN w w.heap.size v ks)(hk: ∀x∈ks,x<256)(hkl:ks.length<=1000)(hs:s.size<=1000):
 Calls Tryz.prog 149 #[v,.string s,iI x] w fun e w'=> ∃v,e= .returned v/\PTX (exE x) (exY ks (txt s) x) w' v/\Bw w w':=by
 unfold exE exY
 by_cases h1:x<0
 ·rw[if_pos h1,if_pos h1]
  refine(cExpandR_neg v s x w h1).mono ?_
  rintro e w' ⟨rfl,hB⟩
  exact⟨_,rfl,PTX_nil w' 2 (by have:=hB.size;omega),hB⟩
 ·rw[if_neg h1,if_neg h1]
  by_cases h2:8160<x
  ·rw[if_pos h2,if_pos h2]
   refine(cExpandR_big v s x w h2).mono ?_
   rintro e w' ⟨rfl,hB⟩
   exact⟨_,rfl,PTX_nil w' 3 (by have:=hB.size;omega),hB⟩
  ·rw[if_neg h2,if_neg h2]
   obtain⟨n,rfl⟩: ∃n:Nat,x=(n:Int):=⟨x.toNat,Z1⟩
   refine(cExpandR_core v s n (exT (whl ks) (txt s)) (exS (whl ks) (txt s)) w Z1 hs rfl (exT_B _ _) (fun k=>(exT_m _ _ k).2) rfl (fun _=>rfl) (exS_len _ _) (fun k u z hB hz=>?_)).mono ?_
   ·have hm:=(exT_m (whl ks) (txt s) k)
    have e:exT (whl ks) (txt s) (k+1)=mac ks (exT (whl ks) (txt s) k++txt s++[(k+1)%256]):=rfl
    rw[e]
    obtain⟨a,ea⟩:=Z3 (exT (whl ks) (txt s) k)
    rw[ea] at hz hm⊢
    have htl:=Un s
    exact cMacR ks (a++txt s++[(k+1)%256]) v z u ((hin.below hB).mono hB.size) hz hk (fun y hy=>by
     rcases List.mem_append.1 hy with hy | hy
     ·rcases List.mem_append.1 hy with hy | hy
      ·exact hm.1 y hy
      ·exact txt_m s y hy
     ·simp at hy;omega) hkl (by
     rw[List.length_append,List.length_append,htl]
     show _+1<=_
     omega)
   ·rintro e w' ⟨v,rfl,⟨k,h3,h4⟩,hB⟩
    rw[exN_of _ _ k n h3] at h4
    rw[Int.toNat_natCast]
    exact⟨v,rfl,h4,hB⟩
end
section
theorem Wi(n m:Int)(k:Nat):(n%m)^k%m=n^k%m:=by
 induction k with
 | zero=>rw[Int.pow_zero,Int.pow_zero]
 | succ k ih=>rw[Int.pow_succ,Int.pow_succ,Int.mul_emod,ih,Int.emod_emod,<-Int.mul_emod]
theorem mul_powG(a b:Int)(k:Nat):(a*b)^k=a^k*b^k:=by
 induction k with
 | zero=>rw[Int.pow_zero,Int.pow_zero,Int.pow_zero,Int.one_mul]
 | succ k ih=>rw[Int.pow_succ,Int.pow_succ,Int.pow_succ,ih];grind
def gOk(p q:Int):Prop:=p=2*q+1/\7<=p
def Mb(p q x:Int):Prop:=0<x/\x<p/\x^q.toNat%p=1
instance (p q:Int):Decidable (gOk p q):=by unfold gOk;infer_instance
instance (p q x:Int):Decidable (Mb p q x):=by unfold Mb;infer_instance
theorem gOk.q3{p q:Int}(h:gOk p q):3<=q:=by have:=h.1;have:=h.2;omega
theorem pow_red{x p:Int}{Q:Nat}(h1:1<p)(h:x^Q%p=1)(n:Nat):x^n%p=x^(n%Q)%p:=by
 have e:x^n=(x^Q)^(n/Q)*x^(n%Q):=by rw[<-Int.pow_mul,<-Int.pow_add,Nat.div_add_mod]
 rw[e,Int.mul_emod,<-Wi,h,Int.one_pow,<-Int.mul_emod,Int.one_mul]
theorem one_mod{p:Int}(h:1<p):(1:Int)%p=1:=Int.emod_eq_of_lt Z1 h
theorem Mb.nz{p q x:Int}(hg:gOk p q)(h:x^q.toNat%p=1):x%p≠0:=fun e=>by
 have h3:=hg.q3
 have h2:(x%p)^q.toNat%p=1:=by rw[Wi];exact h
 obtain⟨k,hk⟩: ∃k,q.toNat=k+1:=⟨q.toNat -1,Z1⟩
 rw[e,hk,Int.pow_succ,Int.mul_zero,Int.zero_emod] at h2
 cases h2
theorem Mb.of{p q x:Int}(hg:gOk p q)(h:x^q.toNat%p=1):Mb p q (x%p):=by
 have h7:=hg.2
 have h1:=Int.emod_nonneg x (show p≠0 by omega)
 have h2:=Int.emod_lt_of_pos x (show 0<p by omega)
 have h3:=Mb.nz hg h
 exact⟨Z1,h2,by rw[Wi];exact h⟩
theorem Mb.mul{p q x y:Int}(hg:gOk p q)(hx:Mb p q x)(hy:Mb p q y):Mb p q (x*y%p):=by
 refine Mb.of hg ?_
 rw[mul_powG,Int.mul_emod,hx.2.2,hy.2.2,Int.one_mul]
 exact one_mod (by have:=hg.2;omega)
theorem Mb.pow{p q x:Int}(hg:gOk p q)(hx:Mb p q x)(n:Nat):Mb p q (x^n%p):=by
 refine Mb.of hg ?_
 rw[<-Int.pow_mul,Nat.mul_comm,Int.pow_mul,<-Wi,hx.2.2,Int.one_pow]
 exact one_mod (by have:=hg.2;omega)
theorem IsInv.gcd{a m x:Int}(h:IsInv a m x)(ha:0<=a)(hm:0<m):gI m a=1:=by
 obtain⟨c,hc⟩:=h.2.2
 have h0:=h.1
 have hd1:((Nat.gcd m.toNat a.toNat:Nat):Int)∣m:=by
  have:=Int.ofNat_dvd.2 (Nat.gcd_dvd_left m.toNat a.toNat)
  rwa [Int.toNat_of_nonneg Z1] at this
 have hd2:((Nat.gcd m.toNat a.toNat:Nat):Int)∣a:=by
  have:=Int.ofNat_dvd.2 (Nat.gcd_dvd_right m.toNat a.toNat)
  rwa [Int.toNat_of_nonneg ha] at this
 have hd:((Nat.gcd m.toNat a.toNat:Nat):Int)∣1:=by
  have e:(1:Int)=x*a -m*c:=Z1
  rw[e]
  exact Int.dvd_sub (Int.dvd_mul_of_dvd_right hd2) (Int.dvd_mul_of_dvd_left hd1)
 unfold gI
 have:=Int.le_of_dvd Z2 hd
 have hp:0<Nat.gcd m.toNat a.toNat:=Nat.gcd_pos_of_pos_left _ Z1
 omega
theorem Mb.sum{p q x:Int}(hg:gOk p q)(hx:Mb p q x)(a b:Int)(ha:0<=a)(hb:0<=b):x^(a%q).toNat%p*(x^(b%q).toNat%p)%p=x^((a+b)%q).toNat%p:=by
 have h3:=hg.q3
 have e: ∀n:Int,0<=n->(n%q).toNat=n.toNat%q.toNat:=fun n hn=>by
  have h1:((n.toNat%q.toNat:Nat):Int)=n%q:=by rw[Int.natCast_emod,Int.toNat_of_nonneg hn,Int.toNat_of_nonneg Z1]
  omega
 have h1:1<p:=by have:=hg.2;omega
 rw[e a ha,e b hb,e (a+b) Z1,<-pow_red h1 hx.2.2,<-pow_red h1 hx.2.2,<-pow_red h1 hx.2.2,<-Int.mul_emod,<-Int.pow_add,Int.toNat_add ha hb]
end
section
open Go.RowKit
theorem Z6:EnT 17:=fun _ _=>by kernel_rfl
theorem Y9:EnT 45:=fun _ _=>by kernel_rfl
theorem Yr:EnT 104:=fun _ _=>by kernel_rfl
theorem Y6:EnT 78:=fun _ _=>by kernel_rfl
theorem In_7:In 7:=⟨Z1,Z1⟩
def chE(p q:Int):Int:=if gOk p q then 0 else 90
theorem xchk_o(p q g h:Int)(w:World)(hp:In p)(hq:In q)(i2:In (q+q -0x10000000000000000000000000000000000000000000000000000000000000000))(h2:0x10000000000000000000000000000000000000000000000000000000000000000<=q+q):
 CC 17 #[GX p q g h] w (iI 90):=by
 go_enter Tryz.func17,Tryz.ntmps17
 go_upto_region 1 with fail
 obtain⟨v0,hC,HB0,K0⟩:=bx1 w (GE p q g h) 26
 rw[hC]
 clear hC
 refine Rp K0 HB0 [] [(8,3,L0s,some (9,LN (q+q -0x10000000000000000000000000000000000000000000000000000000000000000)))] (cG 0 8 [_,_,_,_,_] [(5,7,_),(6,13,_),(7,14,_),(10,4,_)]) [(9,8)] [] [false] (Od8 (g_fd (fdG1 _)) (g_lo 0 4 uN iN) (g_fd (fdG1 _)) (g_lo 0 4 uN iN) (g_cl Z9 (fun uZ=>nrAdd_ge q q uZ hq hq h2)) g_mv g_ex g_ex<|Oc3 (g_al 0 aN) (g_sn 0 iN) g_as) fun u1 b1_8 HB1 _ K1=>?_
 simp only[sQ] at K1⊢
 go_upto_region 2 with fail
 refine Rp K1 HB1 [] [(6,5,L0s,some (7,LN (q+q -0x10000000000000000000000000000000000000000000000000000000000000000+1)))] (cG 0 16 [_,_,_] [(3,15,_),(4,19,_),(5,20,_),(8,6,_)]) [(7,6)] [] [false,false] (Oc9 (g_ld 0 uN iN) (g_bd (fun uZ=>bdX 1 Z1 Z1 uZ)) (g_cl Z9 (fun uZ=>nrAdd (q+q -0x10000000000000000000000000000000000000000000000000000000000000000) 1 uZ i2 In_1)) g_mv g_ex g_ex (g_al 0 aN) (g_sn 0 iN) g_as) fun u2 b2_6 HB2 _ K2=>?_
 simp only[sQ] at K2⊢
 go_upto_region 3 with fail
 refine Rn K2 HB2 (cG 0 21 [_,_,undef,_,_,undef,undef,undef,undef,_,_,undef,undef,undef,undef,undef,_,_,undef,undef,undef,undef,undef,_] []) (Od8 g_mv g_mv g_sk g_pk g_mv g_sk g_sk g_sk<|Od8 g_sk g_pk g_mv g_sk g_sk g_sk g_sk g_sk<|Oc8 g_pk g_mv g_sk g_sk g_sk g_sk g_sk g_pk) fun u3 HB3 _ K3=>?_
 simp only[sQ] at K3⊢
 go_upto_region 4 with fail
 refine Rn K3 HB3 [(0,2,_)] (Oc1 g_as) fun u4 HB4 _ K4=>?_
 simp only[sQ] at K4⊢
 go_wp2
 refine bodyPost_ret (v:=iI 90) (by simp[results,Tryz.results17,go_sem,]) rfl ⟨rfl,HB4⟩
theorem xchk_n(p q g h:Int)(w:World)(hp:In p)(hq:In q)(i2:In (q+q))(i3:In (q+q+1))(d0:0<=D0 p)(d1:D0 p<18446744073709551616)(h2:q+q<0x10000000000000000000000000000000000000000000000000000000000000000)(h3:q+q+1<0x10000000000000000000000000000000000000000000000000000000000000000)(h4:decide (q+q+1=p)=!true):
 CC 17 #[GX p q g h] w (iI 90):=by
 go_enter Tryz.func17,Tryz.ntmps17
 go_upto_region 1 with fail
 obtain⟨v0,hC,HB0,K0⟩:=bx1 w (GE p q g h) 26
 rw[hC]
 clear hC
 refine Rp K0 HB0 [] [(8,3,L0s,some (9,LN (q+q)))] (cG 0 8 [_,_,_,_,_] [(5,7,_),(6,13,_),(7,14,_),(10,4,_)]) [(9,8)] [] [] (Od8 (g_fd (fdG1 _)) (g_lo 0 4 uN iN) (g_fd (fdG1 _)) (g_lo 0 4 uN iN) (g_cl Z9 (fun uZ=>Wj q q uZ hq hq h2)) g_mv g_ex g_ex<|Oc3 (g_al 0 aN) (g_sn 0 iN) g_as) fun u1 b1_8 HB1 _ K1=>?_
 simp only[sQ] at K1⊢
 go_upto_region 2 with fail
 refine Rp K1 HB1 [] [(6,5,L0s,some (7,LN (q+q+1)))] (cG 0 16 [_,_,_] [(3,15,_),(4,19,_),(5,20,_),(8,6,_)]) [(7,6)] [] [true,false] (Oc9 (g_ld 1 uN iN) (g_bd (fun uZ=>bdX 1 Z1 Z1 uZ)) (g_cl Z9 (fun uZ=>Wj (q+q) 1 uZ i2 In_1 h3)) g_mv g_ex g_ex (g_al 0 aN) (g_sn 0 iN) g_as) fun u2 b2_6 HB2 _ K2=>?_
 simp only[sQ] at K2⊢
 go_upto_region 3 with fail
 refine Rp K2 HB2 [] [] (cG 0 21 [_,_,_,_,_,_,_,_,_,_,_,undef,undef,undef,undef,undef,_,_,undef,undef,undef,undef,undef,_] []) [] [] [false,false] (Od8 g_mv g_mv g_mv g_pk g_mv (g_ld 1 uN iN) (g_fd (fdG0 _)) (g_lo 0 0 uN iN)<|Od8 (g_bn (Up _ _ i3 hp _ h4)) g_pk g_mv g_sk g_sk g_sk g_sk g_sk<|Oc8 g_pk g_mv g_sk g_sk g_sk g_sk g_sk g_pk) fun u3 HB3 _ K3=>?_
 simp only[sQ] at K3⊢
 go_upto_region 4 with fail
 refine Rn K3 HB3 [(0,2,_)] (Oc1 g_as) fun u4 HB4 _ K4=>?_
 simp only[sQ] at K4⊢
 go_wp2
 refine bodyPost_ret (v:=iI 90) (by simp[results,Tryz.results17,go_sem,]) rfl ⟨rfl,HB4⟩
theorem xchk_7(p q g h:Int)(w:World)(hp:In p)(hq:In q)(i2:In (q+q))(i3:In (q+q+1))(d0:0<=D0 p)(d1:D0 p<18446744073709551616)(h2:q+q<0x10000000000000000000000000000000000000000000000000000000000000000)(h3:q+q+1<0x10000000000000000000000000000000000000000000000000000000000000000)(h4:decide (q+q+1=p)=!false)(h5:decide (cmpI p 7<0)=true):
 CC 17 #[GX p q g h] w (iI 90):=by
 go_enter Tryz.func17,Tryz.ntmps17
 go_upto_region 1 with fail
 obtain⟨v0,hC,HB0,K0⟩:=bx1 w (GE p q g h) 26
 rw[hC]
 clear hC
 refine Rp K0 HB0 [] [(8,3,L0s,some (9,LN (q+q)))] (cG 0 8 [_,_,_,_,_] [(5,7,_),(6,13,_),(7,14,_),(10,4,_)]) [(9,8)] [] [] (Od8 (g_fd (fdG1 _)) (g_lo 0 4 uN iN) (g_fd (fdG1 _)) (g_lo 0 4 uN iN) (g_cl Z9 (fun uZ=>Wj q q uZ hq hq h2)) g_mv g_ex g_ex<|Oc3 (g_al 0 aN) (g_sn 0 iN) g_as) fun u1 b1_8 HB1 _ K1=>?_
 simp only[sQ] at K1⊢
 go_upto_region 2 with fail
 refine Rp K1 HB1 [] [(6,5,L0s,some (7,LN (q+q+1)))] (cG 0 16 [_,_,_] [(3,15,_),(4,19,_),(5,20,_),(8,6,_)]) [(7,6)] [] [true,false] (Oc9 (g_ld 1 uN iN) (g_bd (fun uZ=>bdX 1 Z1 Z1 uZ)) (g_cl Z9 (fun uZ=>Wj (q+q) 1 uZ i2 In_1 h3)) g_mv g_ex g_ex (g_al 0 aN) (g_sn 0 iN) g_as) fun u2 b2_6 HB2 _ K2=>?_
 simp only[sQ] at K2⊢
 go_upto_region 3 with fail
 refine Rp K2 HB2 [] [] (cG 0 21 [_,_,_,_,_,_,_,_,_,_,_,_,_,_,_,_,_,_,undef,undef,undef,undef,undef,_] []) [] [] [false,false] (Od8 g_mv g_mv g_mv g_pk g_mv (g_ld 1 uN iN) (g_fd (fdG0 _)) (g_lo 0 0 uN iN)<|Od8 (g_bn (Up _ _ i3 hp _ h4)) g_pk g_mv (g_fd (fdG0 _)) (g_lo 0 0 uN iN) (g_bd (fun uZ=>bdX 7 Z1 Z1 uZ)) (g_cl Zi (fun uZ=>V6 p 7 uZ hp In_7)) (g_bn (fun uZ=>Za _ _ (cmpI p 7) 0 _ uZ h5))<|Oc8 g_pk g_mv g_sk g_sk g_sk g_sk g_sk g_pk) fun u3 HB3 _ K3=>?_
 simp only[sQ] at K3⊢
 go_upto_region 4 with fail
 refine Rn K3 HB3 [(0,2,_)] (Oc1 g_as) fun u4 HB4 _ K4=>?_
 simp only[sQ] at K4⊢
 go_wp2
 refine bodyPost_ret (v:=iI 90) (by simp[results,Tryz.results17,go_sem,]) rfl ⟨rfl,HB4⟩
theorem xchk_k(p q g h:Int)(w:World)(hp:In p)(hq:In q)(i2:In (q+q))(i3:In (q+q+1))(d0:0<=D0 p)(d1:D0 p<18446744073709551616)(h2:q+q<0x10000000000000000000000000000000000000000000000000000000000000000)(h3:q+q+1<0x10000000000000000000000000000000000000000000000000000000000000000)(h4:decide (q+q+1=p)=!false)(h5:decide (cmpI p 7<0)=false)(h6:(D0 p%2==0)=false):
 CC 17 #[GX p q g h] w (iI 0):=by
 go_enter Tryz.func17,Tryz.ntmps17
 go_upto_region 1 with fail
 obtain⟨v0,hC,HB0,K0⟩:=bx1 w (GE p q g h) 26
 rw[hC]
 clear hC
 refine Rp K0 HB0 [] [(8,3,L0s,some (9,LN (q+q)))] (cG 0 8 [_,_,_,_,_] [(5,7,_),(6,13,_),(7,14,_),(10,4,_)]) [(9,8)] [] [] (Od8 (g_fd (fdG1 _)) (g_lo 0 4 uN iN) (g_fd (fdG1 _)) (g_lo 0 4 uN iN) (g_cl Z9 (fun uZ=>Wj q q uZ hq hq h2)) g_mv g_ex g_ex<|Oc3 (g_al 0 aN) (g_sn 0 iN) g_as) fun u1 b1_8 HB1 _ K1=>?_
 simp only[sQ] at K1⊢
 go_upto_region 2 with fail
 refine Rp K1 HB1 [] [(6,5,L0s,some (7,LN (q+q+1)))] (cG 0 16 [_,_,_] [(3,15,_),(4,19,_),(5,20,_),(8,6,_)]) [(7,6)] [] [true,false] (Oc9 (g_ld 1 uN iN) (g_bd (fun uZ=>bdX 1 Z1 Z1 uZ)) (g_cl Z9 (fun uZ=>Wj (q+q) 1 uZ i2 In_1 h3)) g_mv g_ex g_ex (g_al 0 aN) (g_sn 0 iN) g_as) fun u2 b2_6 HB2 _ K2=>?_
 simp only[sQ] at K2⊢
 go_upto_region 3 with fail
 refine Rp K2 HB2 [] [] (cG 0 21 [_,_,_,_,_,_,_,_,_,_,_,_,_,_,_,_,_,_,_,_,_,_,_,_] []) [] [] [false,false] (Od8 g_mv g_mv g_mv g_pk g_mv (g_ld 1 uN iN) (g_fd (fdG0 _)) (g_lo 0 0 uN iN)<|Od8 (g_bn (Up _ _ i3 hp _ h4)) g_pk g_mv (g_fd (fdG0 _)) (g_lo 0 0 uN iN) (g_bd (fun uZ=>bdX 7 Z1 Z1 uZ)) (g_cl Zi (fun uZ=>V6 p 7 uZ hp In_7)) (g_bn (fun uZ=>Za _ _ (cmpI p 7) 0 _ uZ h5))<|Oc8 g_pk g_mv (g_fd (fdG0 _)) (g_ix (jN 0)) (g_lc 0 0 lU) (g_bn (fun uZ=>rem_u _ _ (D0 p) 2 (D0 p%2) uZ d0 d1 Z1 rfl)) (g_bn (fun uZ=>eql_u _ _ _ (D0 p%2) 0 _ uZ h6)) g_pk) fun u3 HB3 _ K3=>?_
 simp only[sQ] at K3⊢
 go_upto_region 5 with fail
 refine Rn K3 HB3 [(0,2,_)] (Oc1 g_as) fun u4 HB4 _ K4=>?_
 simp only[sQ] at K4⊢
 go_wp2
 refine bodyPost_ret (v:=iI 0) (by simp[results,Tryz.results17,go_sem,]) rfl ⟨rfl,HB4⟩
theorem Vz(p q g h:Int)(w:World)(hp:In p)(hq:In q)(c:gOk p q):CC 17 #[GX p q g h] w (iI 0):=by
 have hq0:=hq.1
 have hp1:=hp.2
 obtain⟨c1,c2⟩:=c
 have hd:0<=D0 p/\D0 p<18446744073709551616:=by unfold D0;omega
 exact xchk_k p q g h w hp hq ⟨Z1,Z1⟩ ⟨Z1,Z1⟩ hd.1 hd.2 Z1 Z1 (by simp;omega) (by rw[cmp_lt0];simp only[show ¬p<7 by omega,decide_false]) (by rw[D0_odd];simp;omega)
theorem xCheckG(p q g h:Int)(w:World)(hp:In p)(hq:In q):CC 17 #[GX p q g h] w (iI (chE p q)):=by
 have hq0:=hq.1
 have hq1:=hq.2
 have hp1:=hp.2
 have e90: ¬(p=2*q+1/\7<=p)->chE p q=90:=fun h=>if_neg h
 have e0:(p=2*q+1/\7<=p)->chE p q=0:=fun h=>if_pos h
 by_cases h2:0x10000000000000000000000000000000000000000000000000000000000000000<=q+q
 ·rw[e90 Z1]
  exact xchk_o p q g h w hp hq ⟨Z1,Z1⟩ h2
 have hd:0<=D0 p/\D0 p<18446744073709551616:=by unfold D0;omega
 have i2:In (q+q):=⟨Z1,Z1⟩
 have i3:In (q+q+1):=⟨Z1,Z1⟩
 by_cases h4:q+q+1=p
 ·have h4':decide (q+q+1=p)=!false:=by simp[h4]
  by_cases h7:p<7
  ·rw[e90 Z1]
   exact xchk_7 p q g h w hp hq i2 i3 hd.1 hd.2 Z1 Z1 h4' (by rw[cmp_lt0];simp only[h7,decide_true])
  ·rw[e0 Z1]
   exact Vz p q g h w hp hq ⟨Z1,Z1⟩
 ·rw[e90 Z1]
  exact xchk_n p q g h w hp hq i2 i3 hd.1 hd.2 Z1 Z1 (by simp[h4])
theorem xis_c(p q g h x:Int)(w:World)(hp:In p)(hq:In q)(hx:In x)(hC:Hid (∀u,CC 17 #[GX p q g h] u (iI 90))):
 CC 45 #[GX p q g h,NV x] w (.bool false):=by
 go_enter Tryz.func45,Tryz.ntmps45
 go_upto_region 1 with fail
 obtain⟨v0,hC,HB0,K0⟩:=bx2 w (GE p q g h) 26 (LN x) 24
 rw[hC]
 clear hC
 refine Rp K0 HB0 [] [] (cG 0 7 [_,_,_,_,undef,undef,undef,_,_,undef,undef,undef,undef,undef,_] []) [] [] [false,false] (Od8 (g_ld 0 Tryz.underlying26 Z4) (g_cl Z6 hC.out) (g_bn (fun uZ=>Y7 _ _ _ 90 0 _ uZ rfl)) g_mv g_sk g_sk g_sk g_pk<|Oc7 g_mv g_sk g_sk g_sk g_sk g_sk g_pk) fun u1 HB1 _ K1=>?_
 simp only[sQ] at K1⊢
 go_upto_region 2 with fail
 refine Rn K1 HB1 [(0,4,_)] (Oc1 g_as) fun u2 HB2 _ K2=>?_
 simp only[sQ] at K2⊢
 go_wp2
 refine bodyPost_ret (v:= .bool false) (by simp[results,Tryz.results45,go_sem,]) rfl ⟨rfl,HB2⟩
theorem xis_z(p q g h x:Int)(w:World)(hp:In p)(hq:In q)(hx:In x)(hC:Hid (∀u,CC 17 #[GX p q g h] u (iI 0)))(h1:decide (x=0)=true):
 CC 45 #[GX p q g h,NV x] w (.bool false):=by
 go_enter Tryz.func45,Tryz.ntmps45
 go_upto_region 1 with fail
 obtain⟨v0,hC,HB0,K0⟩:=bx2 w (GE p q g h) 26 (LN x) 24
 rw[hC]
 clear hC
 refine Rp K0 HB0 [] [] (cG 0 7 [_,_,_,_,_,_,_,_,_,undef,undef,undef,undef,undef,_] []) [] [] [false,false] (Od8 (g_ld 0 Tryz.underlying26 Z4) (g_cl Z6 hC.out) (g_bn (fun uZ=>Y7 _ _ _ 0 0 _ uZ rfl)) g_mv (g_ld 1 uN iN) (g_bd zN) (g_bn (eql_0 _ _ hx _ h1)) g_pk<|Oc7 g_mv g_sk g_sk g_sk g_sk g_sk g_pk) fun u1 HB1 _ K1=>?_
 simp only[sQ] at K1⊢
 go_upto_region 2 with fail
 refine Rn K1 HB1 [(0,4,_)] (Oc1 g_as) fun u2 HB2 _ K2=>?_
 simp only[sQ] at K2⊢
 go_wp2
 refine bodyPost_ret (v:= .bool false) (by simp[results,Tryz.results45,go_sem,]) rfl ⟨rfl,HB2⟩
theorem xis_h(p q g h x:Int)(w:World)(hp:In p)(hq:In q)(hx:In x)(hC:Hid (∀u,CC 17 #[GX p q g h] u (iI 0)))(h1:decide (x=0)=false)(h2:decide (0<=cmpI x p)=true):
 CC 45 #[GX p q g h,NV x] w (.bool false):=by
 go_enter Tryz.func45,Tryz.ntmps45
 go_upto_region 1 with fail
 obtain⟨v0,hC,HB0,K0⟩:=bx2 w (GE p q g h) 26 (LN x) 24
 rw[hC]
 clear hC
 refine Rp K0 HB0 [] [] (cG 0 7 [_,_,_,_,_,_,_,_,_,_,_,_,_,_,_] []) [] [] [false,false] (Od8 (g_ld 0 Tryz.underlying26 Z4) (g_cl Z6 hC.out) (g_bn (fun uZ=>Y7 _ _ _ 0 0 _ uZ rfl)) g_mv (g_ld 1 uN iN) (g_bd zN) (g_bn (eql_0 _ _ hx _ h1)) g_pk<|Oc7 g_mv (g_ld 1 uN iN) (g_fd (fdG0 _)) (g_lo 0 0 uN iN) (g_cl Zi (fun uZ=>V6 x p uZ hx hp)) (g_bn (fun uZ=>Xm _ _ (cmpI x p) 0 _ uZ h2)) g_pk) fun u1 HB1 _ K1=>?_
 simp only[sQ] at K1⊢
 go_upto_region 2 with fail
 refine Rn K1 HB1 [(0,4,_)] (Oc1 g_as) fun u2 HB2 _ K2=>?_
 simp only[sQ] at K2⊢
 go_wp2
 refine bodyPost_ret (v:= .bool false) (by simp[results,Tryz.results45,go_sem,]) rfl ⟨rfl,HB2⟩
theorem xis_g(p q g h x:Int)(w:World)(hp:In p)(hq:In q)(hx:In x)(hC:Hid (∀u,CC 17 #[GX p q g h] u (iI 0)))(b:Bool)(h1:decide (x=0)=false)(h2:decide (0<=cmpI x p)=false)(hp0:p≠0)(h3:decide (x^q.toNat%p=1)=b):
 CC 45 #[GX p q g h,NV x] w (.bool b):=by
 go_enter Tryz.func45,Tryz.ntmps45
 go_upto_region 1 with fail
 obtain⟨v0,hC,HB0,K0⟩:=bx2 w (GE p q g h) 26 (LN x) 24
 rw[hC]
 clear hC
 refine Rn K0 HB0 (cG 0 7 [_,_,_,_,_,_,_,_,_,_,_,_,_,_,_] []) (Od8 (g_ld 0 Tryz.underlying26 Z4) (g_cl Z6 hC.out) (g_bn (fun uZ=>Y7 _ _ _ 0 0 _ uZ rfl)) g_mv (g_ld 1 uN iN) (g_bd zN) (g_bn (eql_0 _ _ hx _ h1)) g_pk<|Oc7 g_mv (g_ld 1 uN iN) (g_fd (fdG0 _)) (g_lo 0 0 uN iN) (g_cl Zi (fun uZ=>V6 x p uZ hx hp)) (g_bn (fun uZ=>Xm _ _ (cmpI x p) 0 _ uZ h2)) g_pk) fun u1 HB1 _ K1=>?_
 simp only[sQ] at K1⊢
 go_upto_region 3 with fail
 refine Rp K1 HB1 [] [(9,5,L0s,some (10,LN (x^q.toNat%p)))] (cG 0 23 [_,_,_,_,_,_] [(6,22,_),(7,29,_),(8,30,_),(11,6,_)]) [(10,9)] [] [false,false] (Od8 (g_ld 1 uN iN) (g_fd (fdG1 _)) (g_lo 0 4 uN iN) (g_fd (fdG0 _)) (g_lo 0 0 uN iN) (g_cl X7 (fun uZ=>xExp x q p uZ hx hq hp hp0)) g_mv g_ex<|Oc4 g_ex (g_al 0 aN) (g_sn 0 iN) g_as) fun u2 b2_9 HB2 _ K2=>?_
 simp only[sQ] at K2⊢
 go_upto_region 4 with fail
 refine Rp K2 HB2 [] [] (cG 0 31 [_,_,_] [(3,4,_)]) [] [] [false] (Oc4 (g_ld 0 uN iN) (g_bd (fun uZ=>bdX 1 Z1 Z1 uZ)) (g_bn (eql_n _ _ (Zt hp hp0) In_1 _ h3)) g_as) fun u3 HB3 _ K3=>?_
 simp only[sQ] at K3⊢
 go_wp2
 refine bodyPost_ret (v:= .bool b) (by simp[results,Tryz.results45,go_sem,]) rfl ⟨rfl,HB3⟩
def isB(p q x:Int):Bool:=decide (gOk p q/\Mb p q x)
theorem xIsK(p q g h x:Int)(w:World)(hp:In p)(hq:In q)(hx:In x)(hb:isB p q x=true):CC 45 #[GX p q g h,NV x] w (.bool true):=by
 obtain⟨hg,h1,h2,h3⟩:=of_decide_eq_true hb
 have hC:Hid (∀u,CC 17 #[GX p q g h] u (iI 0)):=fun u=>Vz p q g h u hp hq hg
 exact xis_g p q g h x w hp hq hx hC true (by simp;omega) (by rw[cmp_ge];simp only[show ¬p<=x by omega,decide_false]) (by have:=hg.2;omega) (by simp[h3])
theorem xIs(p q g h x:Int)(w:World)(hp:In p)(hq:In q)(hx:In x):CC 45 #[GX p q g h,NV x] w (.bool (isB p q x)):=by
 have hC:Hid (∀u,CC 17 #[GX p q g h] u (iI (chE p q))):=fun u=>xCheckG p q g h u hp hq
 have hx0:=hx.1
 by_cases hg:gOk p q
 ·rw[show chE p q=0 from if_pos hg] at hC
  by_cases h1:x=0
  ·rw[show isB p q x=false from decide_eq_false (fun h=>by have:=h.2.1;omega)]
   exact xis_z p q g h x w hp hq hx hC (by simp[h1])
  by_cases h2:p<=x
  ·rw[show isB p q x=false from decide_eq_false (fun h=>by have:=h.2.2.1;omega)]
   exact xis_h p q g h x w hp hq hx hC (by simp[h1]) (by rw[cmp_ge];simp only[h2,decide_true])
  ·have e:isB p q x=decide (x^q.toNat%p=1):=by
    unfold isB Mb
    rw[Bool.eq_iff_iff,decide_eq_true_iff,decide_eq_true_iff]
    exact⟨fun h=>h.2.2.2,fun h=>⟨hg,Z1,Z1,h⟩⟩
   rw[e]
   exact xis_g p q g h x w hp hq hx hC _ (by simp[h1]) (by rw[cmp_ge];simp only[h2,decide_false]) (by have:=hg.2;omega) rfl
 ·rw[show chE p q=90 from if_neg hg] at hC
  rw[show isB p q x=false from decide_eq_false (fun h=>hg h.1)]
  exact xis_c p q g h x w hp hq hx hC
theorem xPower(p q g h x e:Int)(w:World)(hp:In p)(hq:In q)(hx:In x)(he:In e)(hp0:p≠0)(hq0:q≠0):
 CC 104 #[GX p q g h,NV x,NV e] w (NV (x^(e%q).toNat%p)):=by
 go_enter Tryz.func104,Tryz.ntmps104
 go_upto_region 1 with fail
 obtain⟨v0,hC,HB0,K0⟩:=bx4 w (GE p q g h) 26 (LN x) 24 (LN e) 24 L0s 24
 rw[hC]
 clear hC
 refine Rd K0 HB0 [] [(8,7,L0s,some (9,LN (e%q)))] (cG 0 12 [_,_,_,_,_] [(5,11,_),(6,17,_),(7,18,_),(10,8,_)]) [(9,8)] [] [true,true,false] (Od8 (g_ld 2 uN iN) (g_cl Zg (fun uZ=>U0 e uZ he)) (g_fd (fdG1 _)) (g_lo 0 4 uN iN) (g_cl Ze (fun uZ=>Wf e q uZ he.wide hq hq0)) g_mv g_ex g_ex<|Oc3 (g_al 0 aN) (g_sn 0 iN) g_as) fun u1 b1_8 HB1 _ K1=>?_
 simp only[sQ] at K1⊢
 go_upto_region 2 with fail
 refine Rp K1 HB1 [] [(8,9,L0s,some (9,LN (x^(e%q).toNat%p)))] (cG 0 20 [_,_,_,_,_] [(5,19,_),(6,25,_),(7,26,_),(10,10,_)]) [(9,8)] [] [false,false,true,false] (Od8 (g_ld 1 uN iN) (g_ld 3 uN iN) (g_fd (fdG0 _)) (g_lo 0 0 uN iN) (g_cl X7 (fun uZ=>xExp x (e%q) p uZ hx (Zt hq hq0) hp hp0)) g_mv g_ex g_ex<|Oc3 (g_al 0 aN) (g_sn 0 iN) g_as) fun u2 b2_8 HB2 _ K2=>?_
 simp only[sQ] at K2⊢
 go_upto_region 3 with fail
 refine Rp K2 HB2 [.all 1 (LN (x^(e%q).toNat%p))] [] [(0,27,_)] [] [] [true,false] (Oc2 (g_ld 1 uN iN) (g_st 0 iN)) fun u3 HB3 _ K3=>?_
 simp only[sQ] at K3⊢
 have c6:=(K3.cv 0).n4
 go_wp2
 refine bodyPost_ret (v:=NV (x^(e%q).toNat%p)) (by simp[results,Tryz.results104,go_sem,c6]) rfl ⟨rfl,HB3⟩
theorem xPair(p q g h s t:Int)(w:World)(hp:In p)(hq:In q)(hg:In g)(hh:In h)(hs:In s)(ht:In t)(hp0:p≠0)(hq0:q≠0):
 CC 78 #[GX p q g h,NV s,NV t] w (NV (g^(s%q).toNat%p*(h^(t%q).toNat%p)%p)):=by
 go_enter Tryz.func78,Tryz.ntmps78
 go_upto_region 1 with fail
 obtain⟨v0,hC,HB0,K0⟩:=bx4 w (GE p q g h) 26 (LN s) 24 (LN t) 24 L0s 24
 rw[hC]
 clear hC
 refine Rd K0 HB0 [] [(16,7,L0s,some (17,LN (g^(s%q).toNat%p*(h^(t%q).toNat%p)%p)))] (cG 0 10 [_,_,_,_,_,_,_,_,_,_,_,_,_] [(13,9,_),(14,23,_),(15,24,_),(18,8,_)]) [(17,16)] [] [false,false,false] (Od8 (g_ld 0 Tryz.underlying26 Z4) (g_fd (fdG2 _)) (g_lo 0 8 uN iN) (g_ld 1 uN iN) (g_cl Yr (fun uZ=>xPower p q g h g s uZ hp hq hg hs hp0 hq0)) (g_ld 0 Tryz.underlying26 Z4) (g_fd (fdG3 _)) (g_lo 0 12 uN iN)<|Od8 (g_ld 2 uN iN) (g_cl Yr (fun uZ=>xPower p q g h h t uZ hp hq hh ht hp0 hq0)) (g_fd (fdG0 _)) (g_lo 0 0 uN iN) (g_cl Zh (fun uZ=>xMul (g^(s%q).toNat%p) (h^(t%q).toNat%p) p uZ (Zt hp hp0) (Zt hp hp0) hp hp0)) g_mv g_ex g_ex<|Oc3 (g_al 0 aN) (g_sn 0 iN) g_as) fun u1 b1_16 HB1 _ K1=>?_
 simp only[sQ] at K1⊢
 go_upto_region 2 with fail
 refine Rp K1 HB1 [.all 1 (LN (g^(s%q).toNat%p*(h^(t%q).toNat%p)%p))] [] [(0,25,_)] [] [] [true,false] (Oc2 (g_ld 1 uN iN) (g_st 0 iN)) fun u2 HB2 _ K2=>?_
 simp only[sQ] at K2⊢
 have c6:=(K2.cv 0).n4
 go_wp2
 refine bodyPost_ret (v:=NV (g^(s%q).toNat%p*(h^(t%q).toNat%p)%p)) (by simp[results,Tryz.results78,go_sem,c6]) rfl ⟨rfl,HB2⟩
theorem isB_t{p q x:Int}(h:isB p q x=true):gOk p q/\Mb p q x:=of_decide_eq_true h
theorem xcom_k(p q g h s t c:Int)(w:World)(hp:In p)(hq:In q)(hg:In g)(hh:In h)(hI:Hid (∀u,CC 45 #[GX p q g h,NV g] u (.bool true)))(hJ:Hid (∀u,CC 45 #[GX p q g h,NV h] u (.bool true)))(hP:Hid (∀u,CC 78 #[GX p q g h,NV s,NV t] u (NV c))):
 CC 59 #[GX p q g h,NV s,NV t] w (.tuple #[NV c,iI 0]):=by
 go_enter Tryz.func59,Tryz.ntmps59
 go_upto_region 1 with fail
 obtain⟨v0,hC,HB0,K0⟩:=bx4 w (GE p q g h) 26 (LN s) 24 (LN t) 24 L0s 24
 rw[hC]
 clear hC
 refine Rn K0 HB0 (cG 0 8 [GX p q g h,.pointer (some ⟨w.heap.size,8,none⟩),NV g,.bool true,.bool false,.bool false,GX p q g h,.pointer (some ⟨w.heap.size,12,none⟩),NV h,.bool true,.bool false,.bool false] []) (Od8 (g_ld 0 Tryz.underlying26 Z4) (g_fd (fdG2 _)) (g_lo 0 8 uN iN) (g_cl Y9 hI.out) (g_un (fun uZ=>rfl)) g_mv (g_ld 0 Tryz.underlying26 Z4) (g_fd (fdG3 _))<|Oc4 (g_lo 0 12 uN iN) (g_cl Y9 hJ.out) (g_un (fun uZ=>rfl)) g_pk) fun u1 HB1 _ K1=>?_
 simp only[sQ] at K1⊢
 go_upto_region 3 with fail
 refine Rp K1 HB1 [.no,.no,.no,.all 4 (LN c)] [] (cG 0 21 [GX p q g h,NV s,NV t,NV c] [(5,7,(Go.Value.int Go.IntKind.i64 0))]) [] [] [false,false,false] (Oc6 (g_ld 0 Tryz.underlying26 Z4) (g_ld 1 uN iN) (g_ld 2 uN iN) (g_cl Y6 hP.out) (g_st 3 iN) g_as) fun u2 HB2 _ K2=>?_
 simp only[sQ] at K2⊢
 have c6:=(K2.cv 0).n4
 go_wp2
 refine bodyPost_ret (v:= .tuple #[NV c,iI 0]) (by simp[results,Tryz.results59,go_sem,c6]) rfl ⟨rfl,HB2⟩
def coE(p q g h:Int):Int:=if isB p q g&&isB p q h then 0 else 90
def coX(p q g h s t:Int):Int:=if isB p q g&&isB p q h then g^(s%q).toNat%p*(h^(t%q).toNat%p)%p else 0
theorem xCommitK(p q g h s t:Int)(w:World)(hp:In p)(hq:In q)(hg:In g)(hh:In h)(hs:In s)(ht:In t)(hb:isB p q g=true)(hb2:isB p q h=true):
 CC 59 #[GX p q g h,NV s,NV t] w (.tuple #[NV (coX p q g h s t),iI 0]):=by
 unfold coX
 have h3:=(isB_t hb).1.q3
 have h7:=(isB_t hb).1.2
 rw[hb,hb2,show (true&&true)=true from rfl,if_pos rfl]
 exact xcom_k p q g h s t _ w hp hq hg hh (fun u=>xIsK p q g h g u hp hq hg hb) (fun u=>xIsK p q g h h u hp hq hh hb2) (fun u=>xPair p q g h s t u hp hq hg hh hs ht Z1 Z1)
theorem lI{b c:Nat}{v:Int}(w:World)(h:w.cell? ⟨b,c,none⟩=some (iI v)):(Instr.loadAt 3 (.pointer (some ⟨b,c,none⟩))).run Tryz.prog w= .ok (iI v) w:=by go_simp
abbrev SE(n s t:Int):List Value:=[iI n,iU (D0 s),iU (D1 s),iU (D2 s),iU (D3 s),iU (D0 t),iU (D1 t),iU (D2 t),iU (D3 t)]
abbrev SX(n s t:Int):Value:= .agg #[iI n,iU (D0 s),iU (D1 s),iU (D2 s),iU (D3 s),iU (D0 t),iU (D1 t),iU (D2 t),iU (D3 t)]
abbrev L0h:List Value:=[iI 0,iU 0,iU 0,iU 0,iU 0,iU 0,iU 0,iU 0,iU 0]
abbrev DE(d:Int)(v:Value):List Value:=[iI d,v]
abbrev DX(d:Int)(v:Value):Value:= .agg #[iI d,v]
abbrev L0d:List Value:=[iI 0,.slice none 0 0]
def ndB(n:Int):Bool:=decide (1<=n/\n<=16)
def shB(n m:Nat):Bool:=decide (n=m/\1<=n/\n<=6)
theorem fdD0(b:Nat)(w:World):(Instr.fieldAt 33 (.pointer (some ⟨b,0,none⟩)) 0).run Tryz.prog w= .ok (.pointer (some ⟨b,0,none⟩)) w:=by go_simp
theorem fdD1(b:Nat)(w:World):(Instr.fieldAt 33 (.pointer (some ⟨b,0,none⟩)) 1).run Tryz.prog w= .ok (.pointer (some ⟨b,1,none⟩)) w:=by go_simp
theorem Z8:(Tryz.prog.info? 33).map (·.size)=some 2:=by kernel_rfl
theorem Zb:(Tryz.prog.info? 39).map (·.size)=some 9:=by kernel_rfl
theorem Xy(w:World):(Instr.alloc 39 true (.tuple #[])).run Tryz.prog w= .ok (.pointer (some ⟨w.heap.size,0,none⟩)) (w.alloc (.cells L0h.toArray 39)):=by kernel_rfl
theorem Yd(w:World):(Instr.alloc 33 true (.tuple #[])).run Tryz.prog w= .ok (.pointer (some ⟨w.heap.size,0,none⟩)) (w.alloc (.cells L0d.toArray 33)):=by kernel_rfl
theorem xnode_0(n:Int)(w:World)(h:decide (1<=n)=false):
 CC 44 #[iI n] w (.bool false):=by
 go_enter Tryz.func44,Tryz.ntmps44
 have HB0:Bw w w:=Below.refl _ _
 have K0_1:=Bk.nil (w.heap.size) w
 go_upto_region 1 with fail
 refine Rn K0_1 HB0 (cG 0 3 [_,_,_,undef,undef,_] [(6,2,_)]) (Oc7 g_mv (g_bn (fun uZ=>Xm _ _ n 1 _ uZ h)) g_mv g_sk g_sk g_pk g_as) fun u1 HB1 _ K1=>?_
 simp only[sQ] at K1⊢
 go_wp2
 refine bodyPost_ret (v:= .bool false) (by simp[results,Tryz.results44,go_sem,]) rfl ⟨rfl,HB1⟩
theorem xnode_1(n:Int)(b:Bool)(w:World)(h:decide (1<=n)=true)(h2:decide (n<=16)=b):
 CC 44 #[iI n] w (.bool b):=by
 go_enter Tryz.func44,Tryz.ntmps44
 have HB0:Bw w w:=Below.refl _ _
 have K0_1:=Bk.nil (w.heap.size) w
 go_upto_region 1 with fail
 refine Rn K0_1 HB0 (cG 0 3 [_,_,_,_,_,_] [(6,2,_)]) (Oc7 g_mv (g_bn (fun uZ=>Xm _ _ n 1 _ uZ h)) g_mv g_mv (g_bn (fun uZ=>leq_p _ _ n 16 _ uZ h2)) g_pk g_as) fun u1 HB1 _ K1=>?_
 simp only[sQ] at K1⊢
 go_wp2
 refine bodyPost_ret (v:= .bool b) (by simp[results,Tryz.results44,go_sem,]) rfl ⟨rfl,HB1⟩
theorem xNode(n:Int)(w:World):CC 44 #[iI n] w (.bool (ndB n)):=by
 by_cases h:1<=n
 ·rw[show ndB n=decide (n<=16) by simp[ndB,h]]
  exact xnode_1 n _ w (decide_eq_true h) rfl
 ·rw[show ndB n=false by simp[ndB,h]]
  exact xnode_0 n w (decide_eq_false h)
theorem xshaped_0(sa sb:Option Addr)(n m ca cb:Nat)(w:World)(h:((n:Int)==(m:Int))=false):
 CC 56 #[.slice sa n ca,.slice sb m cb] w (.bool false):=by
 go_enter Tryz.func56,Tryz.ntmps56
 have HB0:Bw w w:=Below.refl _ _
 have K0_1:=Bk.nil (w.heap.size) w
 go_upto_region 1 with fail
 refine Rn K0_1 HB0 (cG 0 5 [_,_,_,_,_,_,undef,undef,undef,_,_,undef,undef,undef,_] [(15,4,_)]) (Od8 g_mv (g_ln Tryz.underlying31) g_mv (g_ln Tryz.underlying31) (g_bn (fun uZ=>Ue _ _ _ (n:Int) (m:Int) _ uZ h)) g_mv g_sk g_sk<|Oc8 g_sk g_pk g_mv g_sk g_sk g_sk g_pk g_as) fun u1 HB1 _ K1=>?_
 simp only[sQ] at K1⊢
 go_wp2
 refine bodyPost_ret (v:= .bool false) (by simp[results,Tryz.results56,go_sem,]) rfl ⟨rfl,HB1⟩
theorem xshaped_1(sa sb:Option Addr)(n m ca cb:Nat)(w:World)(h:((n:Int)==(m:Int))=true)(h1:decide (1<=(n:Int))=false):
 CC 56 #[.slice sa n ca,.slice sb m cb] w (.bool false):=by
 go_enter Tryz.func56,Tryz.ntmps56
 have HB0:Bw w w:=Below.refl _ _
 have K0_1:=Bk.nil (w.heap.size) w
 go_upto_region 1 with fail
 refine Rn K0_1 HB0 (cG 0 5 [_,_,_,_,_,_,_,_,_,_,_,undef,undef,undef,_] [(15,4,_)]) (Od8 g_mv (g_ln Tryz.underlying31) g_mv (g_ln Tryz.underlying31) (g_bn (fun uZ=>Ue _ _ _ (n:Int) (m:Int) _ uZ h)) g_mv g_mv (g_ln Tryz.underlying31)<|Oc8 (g_bn (fun uZ=>Xm _ _ (n:Int) 1 _ uZ h1)) g_pk g_mv g_sk g_sk g_sk g_pk g_as) fun u1 HB1 _ K1=>?_
 simp only[sQ] at K1⊢
 go_wp2
 refine bodyPost_ret (v:= .bool false) (by simp[results,Tryz.results56,go_sem,]) rfl ⟨rfl,HB1⟩
theorem xshaped_2(sa sb:Option Addr)(n m ca cb:Nat)(b:Bool)(w:World)(h:((n:Int)==(m:Int))=true)(h1:decide (1<=(n:Int))=true)(h2:decide ((n:Int)<=6)=b):
 CC 56 #[.slice sa n ca,.slice sb m cb] w (.bool b):=by
 go_enter Tryz.func56,Tryz.ntmps56
 have HB0:Bw w w:=Below.refl _ _
 have K0_1:=Bk.nil (w.heap.size) w
 go_upto_region 1 with fail
 refine Rn K0_1 HB0 (cG 0 5 [_,_,_,_,_,_,_,_,_,_,_,_,_,_,_] [(15,4,_)]) (Od8 g_mv (g_ln Tryz.underlying31) g_mv (g_ln Tryz.underlying31) (g_bn (fun uZ=>Ue _ _ _ (n:Int) (m:Int) _ uZ h)) g_mv g_mv (g_ln Tryz.underlying31)<|Oc8 (g_bn (fun uZ=>Xm _ _ (n:Int) 1 _ uZ h1)) g_pk g_mv g_mv (g_ln Tryz.underlying31) (g_bn (fun uZ=>leq_p _ _ (n:Int) 6 _ uZ h2)) g_pk g_as) fun u1 HB1 _ K1=>?_
 simp only[sQ] at K1⊢
 go_wp2
 refine bodyPost_ret (v:= .bool b) (by simp[results,Tryz.results56,go_sem,]) rfl ⟨rfl,HB1⟩
theorem xShaped(sa sb:Option Addr)(n m ca cb:Nat)(w:World):CC 56 #[.slice sa n ca,.slice sb m cb] w (.bool (shB n m)):=by
 by_cases h:n=m
 ·by_cases h1:1<=n
  ·rw[show shB n m=decide ((n:Int)<=6) by unfold shB;rw[decide_eq_decide];omega]
   exact xshaped_2 sa sb n m ca cb _ w (by subst h;simp) (by simp;omega) rfl
  ·rw[show shB n m=false by unfold shB;rw[decide_eq_false_iff_not];omega]
   exact xshaped_1 sa sb n m ca cb w (by subst h;simp) (by simp;omega)
 ·rw[show shB n m=false by unfold shB;rw[decide_eq_false_iff_not];omega]
  exact xshaped_0 sa sb n m ca cb w (by rw[beq_eq_false_iff_ne];omega)
theorem xnought_0(d:Int)(sl:Option Addr)(cap:Nat)(ns:List Int)(w:World)(h:decide (0<(ns.length:Int))=false):
 CC 36 #[DX d (.slice sl ns.length cap)] w (.bool false):=by
 go_enter Tryz.func36,Tryz.ntmps36
 go_upto_region 1 with fail
 obtain⟨v0,hC,HB0,K0⟩:=bx1 w (DE d (.slice sl ns.length cap)) 33
 rw[hC]
 clear hC
 refine Rn K0 HB0 (cG 0 3 [_,_,_,_,_,undef,undef,undef,undef,undef,undef,_] [(12,2,_)]) (Od8 (g_fd (fdD1 _)) (g_lc 0 1 lSN) (g_ln Tryz.underlying31) (g_bn (fun uZ=>V8 _ _ (ns.length:Int) 0 _ uZ h)) g_mv g_sk g_sk g_sk<|Oc5 g_sk g_sk g_sk g_pk g_as) fun u1 HB1 _ K1=>?_
 simp only[sQ] at K1⊢
 go_wp2
 refine bodyPost_ret (v:= .bool false) (by simp[results,Tryz.results36,go_sem,]) rfl ⟨rfl,HB1⟩
theorem xnought_1(d:Int)(sl:Option Addr)(cap:Nat)(ns:List Int)(gb go:Nat)(x:Int)(b:Bool)(w:World)(h:decide (0<(ns.length:Int))=true)(hX:Hid (∀W,(Instr.indexAt 31 (.slice sl ns.length cap) (iI 0)).run Tryz.prog W= .ok (.pointer (some ⟨gb,go,none⟩)) W))(hR:Hid (w.rangeAt gb go (LN x)))(hg:gb<w.heap.size)(hx:In x)(hb:decide (x=1)=b):
 CC 36 #[DX d (.slice sl ns.length cap)] w (.bool b):=by
 go_enter Tryz.func36,Tryz.ntmps36
 go_upto_region 1 with fail
 obtain⟨v0,hC,HB0,K0⟩:=bx1 w (DE d (.slice sl ns.length cap)) 33
 rw[hC]
 clear hC
 refine Rn K0 HB0 (cG 0 3 [_,_,_,_,_,_,_,_,_,_,_,_] [(12,2,_)]) (Od8 (g_fd (fdD1 _)) (g_lc 0 1 lSN) (g_ln Tryz.underlying31) (g_bn (fun uZ=>V8 _ _ (ns.length:Int) 0 _ uZ h)) g_mv (g_fd (fdD1 _)) (g_lc 0 1 lSN) (g_ix hX.out)<|Oc5 (g_lf hR.out hg uN iN) (g_bd (fun uZ=>bdNk 1 Z1 Z1 uZ)) (g_bn (eql_n _ _ hx In_1 b hb)) g_pk g_as) fun u1 HB1 _ K1=>?_
 simp only[sQ] at K1⊢
 go_wp2
 refine bodyPost_ret (v:= .bool b) (by simp[results,Tryz.results36,go_sem,]) rfl ⟨rfl,HB1⟩
def noB(ns:List Int):Bool:=decide (0<ns.length/\ns.getD 0 0=1)
theorem xNought(d:Int)(ns:List Int)(v:Value)(w:World)(hv:NL w v ns)(hns: ∀z∈ns,In z):CC 36 #[DX d v] w (.bool (noB ns)):=by
 obtain⟨sl,gb,go,cap,rfl,h2,h3,h4,h5,h6⟩:=hv
 by_cases h:0<ns.length
 ·rw[show noB ns=decide (ns.getD 0 0=1) by simp[noB,h]]
  have hX:=NL.ix (u:=w) (cap:=cap) h4 0 h
  have hR:=h6.at 0 h
  rw[Nat.mul_zero,Nat.add_zero] at hX hR
  exact xnought_1 d sl cap ns gb go _ _ w (by simp;omega) hX hR (h5.resolve_left Z1) (Yb hns 0 h) rfl
 ·rw[show noB ns=false by simp[noB,h]]
  exact xnought_0 d sl cap ns w (decide_eq_false Z1)
theorem Zc:EnT 44:=fun _ _=>by kernel_rfl
theorem W7:EnT 18:=fun _ _=>by kernel_rfl
theorem Td:EnT 17:=fun _ _=>by kernel_rfl
theorem ent_K2:EnT 45:=fun _ _=>by kernel_rfl
theorem xdchk_c(p q g h d:Int)(sl:Option Addr)(cap:Nat)(ns:List Int)(w:World)(hC:Hid (∀u,CC 17 #[GX p q g h] u (iI 90))):
 CC 18 #[GX p q g h,DX d (.slice sl ns.length cap)] w (iI 90):=by
 go_enter Tryz.func18,Tryz.ntmps18
 go_upto_region 1 with fail
 obtain⟨v0,hC,HB0,K0⟩:=bx2 w (GE p q g h) 26 (DE d (.slice sl ns.length cap)) 33
 rw[hC]
 clear hC
 refine Rn K0 HB0 (cG 0 6 [_,_,_] []) (Oc3 (g_ld 0 Tryz.underlying26 Z4) (g_cl Td hC.out) (g_bn (fun uZ=>Y7 _ _ _ 90 0 _ uZ rfl))) fun u1 HB1 _ K1=>?_
 simp only[sQ] at K1⊢
 go_upto_region 2 with fail
 refine Rn K1 HB1 [(0,4,_)] (Oc1 g_as) fun u2 HB2 _ K2=>?_
 simp only[sQ] at K2⊢
 go_wp2
 refine bodyPost_ret (v:=iI 90) (by simp[results,Tryz.results18,go_sem,]) rfl ⟨rfl,HB2⟩
theorem xdchk_n(p q g h d:Int)(sl:Option Addr)(cap:Nat)(ns:List Int)(w:World)(hC:Hid (∀u,CC 17 #[GX p q g h] u (iI 0)))(hN:Hid (∀u,CC 44 #[iI d] u (.bool false))):
 CC 18 #[GX p q g h,DX d (.slice sl ns.length cap)] w (iI 110):=by
 go_enter Tryz.func18,Tryz.ntmps18
 go_upto_region 1 with fail
 obtain⟨v0,hC,HB0,K0⟩:=bx2 w (GE p q g h) 26 (DE d (.slice sl ns.length cap)) 33
 rw[hC]
 clear hC
 refine Rn K0 HB0 (cG 0 6 [_,_,_] []) (Oc3 (g_ld 0 Tryz.underlying26 Z4) (g_cl Td hC.out) (g_bn (fun uZ=>Y7 _ _ _ 0 0 _ uZ rfl))) fun u1 HB1 _ K1=>?_
 simp only[sQ] at K1⊢
 go_upto_region 3 with fail
 refine Rn K1 HB1 (cG 0 9 [_,_,_,_,_,undef,undef,undef,undef,_,_,undef,undef,undef,undef,_] []) (Od8 (g_fd (fdD0 _)) (g_lc 1 0 lI) (g_cl Zc hN.out) (g_un not_f) g_mv g_sk g_sk g_sk<|Oc8 g_sk g_pk g_mv g_sk g_sk g_sk g_sk g_pk) fun u2 HB2 _ K2=>?_
 simp only[sQ] at K2⊢
 go_upto_region 4 with fail
 refine Rn K2 HB2 [(0,4,_)] (Oc1 g_as) fun u3 HB3 _ K3=>?_
 simp only[sQ] at K3⊢
 go_wp2
 refine bodyPost_ret (v:=iI 110) (by simp[results,Tryz.results18,go_sem,]) rfl ⟨rfl,HB3⟩
theorem xdchk_l(p q g h d:Int)(sl:Option Addr)(cap:Nat)(ns:List Int)(w:World)(hC:Hid (∀u,CC 17 #[GX p q g h] u (iI 0)))(hN:Hid (∀u,CC 44 #[iI d] u (.bool true)))(h1:decide ((ns.length:Int)<1)=true):
 CC 18 #[GX p q g h,DX d (.slice sl ns.length cap)] w (iI 110):=by
 go_enter Tryz.func18,Tryz.ntmps18
 go_upto_region 1 with fail
 obtain⟨v0,hC,HB0,K0⟩:=bx2 w (GE p q g h) 26 (DE d (.slice sl ns.length cap)) 33
 rw[hC]
 clear hC
 refine Rn K0 HB0 (cG 0 6 [_,_,_] []) (Oc3 (g_ld 0 Tryz.underlying26 Z4) (g_cl Td hC.out) (g_bn (fun uZ=>Y7 _ _ _ 0 0 _ uZ rfl))) fun u1 HB1 _ K1=>?_
 simp only[sQ] at K1⊢
 go_upto_region 3 with fail
 refine Rn K1 HB1 (cG 0 9 [_,_,_,_,_,_,_,_,_,_,_,undef,undef,undef,undef,_] []) (Od8 (g_fd (fdD0 _)) (g_lc 1 0 lI) (g_cl Zc hN.out) (g_un Xe) g_mv (g_fd (fdD1 _)) (g_lc 1 1 lSN) (g_ln Tryz.underlying31)<|Oc8 (g_bn (fun uZ=>Za _ _ (ns.length:Int) 1 _ uZ h1)) g_pk g_mv g_sk g_sk g_sk g_sk g_pk) fun u2 HB2 _ K2=>?_
 simp only[sQ] at K2⊢
 go_upto_region 4 with fail
 refine Rn K2 HB2 [(0,4,_)] (Oc1 g_as) fun u3 HB3 _ K3=>?_
 simp only[sQ] at K3⊢
 go_wp2
 refine bodyPost_ret (v:=iI 110) (by simp[results,Tryz.results18,go_sem,]) rfl ⟨rfl,HB3⟩
theorem xdchk_g(p q g h d:Int)(sl:Option Addr)(cap:Nat)(ns:List Int)(w:World)(hC:Hid (∀u,CC 17 #[GX p q g h] u (iI 0)))(hN:Hid (∀u,CC 44 #[iI d] u (.bool true)))(h1:decide ((ns.length:Int)<1)=false)(h6:decide (6<(ns.length:Int))=true):
 CC 18 #[GX p q g h,DX d (.slice sl ns.length cap)] w (iI 110):=by
 go_enter Tryz.func18,Tryz.ntmps18
 go_upto_region 1 with fail
 obtain⟨v0,hC,HB0,K0⟩:=bx2 w (GE p q g h) 26 (DE d (.slice sl ns.length cap)) 33
 rw[hC]
 clear hC
 refine Rn K0 HB0 (cG 0 6 [_,_,_] []) (Oc3 (g_ld 0 Tryz.underlying26 Z4) (g_cl Td hC.out) (g_bn (fun uZ=>Y7 _ _ _ 0 0 _ uZ rfl))) fun u1 HB1 _ K1=>?_
 simp only[sQ] at K1⊢
 go_upto_region 3 with fail
 refine Rn K1 HB1 (cG 0 9 [_,_,_,_,_,_,_,_,_,_,_,_,_,_,_,_] []) (Od8 (g_fd (fdD0 _)) (g_lc 1 0 lI) (g_cl Zc hN.out) (g_un Xe) g_mv (g_fd (fdD1 _)) (g_lc 1 1 lSN) (g_ln Tryz.underlying31)<|Oc8 (g_bn (fun uZ=>Za _ _ (ns.length:Int) 1 _ uZ h1)) g_pk g_mv (g_fd (fdD1 _)) (g_lc 1 1 lSN) (g_ln Tryz.underlying31) (g_bn (fun uZ=>V8 _ _ (ns.length:Int) 6 _ uZ h6)) g_pk) fun u2 HB2 _ K2=>?_
 simp only[sQ] at K2⊢
 go_upto_region 4 with fail
 refine Rn K2 HB2 [(0,4,_)] (Oc1 g_as) fun u3 HB3 _ K3=>?_
 simp only[sQ] at K3⊢
 go_wp2
 refine bodyPost_ret (v:=iI 110) (by simp[results,Tryz.results18,go_sem,]) rfl ⟨rfl,HB3⟩
theorem xdchk_k(p q g h d:Int)(r:Int)(sl:Option Addr)(gb go cap:Nat)(ns:List Int)(w:World)(hC:Hid (∀u,CC 17 #[GX p q g h] u (iI 0)))(hN:Hid (∀u,CC 44 #[iI d] u (.bool true)))(h1:decide ((ns.length:Int)<1)=false)(h6:decide (6<(ns.length:Int))=false)(hp:In p)(hq:In q)(hix:Hid (∀j,j<ns.length-> ∀W,(Instr.indexAt 31 (.slice sl ns.length cap) (iI j)).run Tryz.prog W= .ok (.pointer (some ⟨gb,go+4*j,none⟩)) W))(hg:ns.length=0\/gb<w.heap.size)(hS:Hid (SN w gb go ns))(hn:Hid (∀k,k<ns.length->In (ns.getD k 0)))(hns:ns.length<=1000)(hyes:Hid ((∀k,k<ns.length->isB p q (ns.getD k 0)=true)->r=0))(hno:Hid (∀k,k<ns.length->isB p q (ns.getD k 0)=false->r=110)):
 CC 18 #[GX p q g h,DX d (.slice sl ns.length cap)] w (iI r):=by
 go_enter Tryz.func18,Tryz.ntmps18
 go_upto_region 1 with fail
 obtain⟨v0,hC,HB0,K0⟩:=bx2 w (GE p q g h) 26 (DE d (.slice sl ns.length cap)) 33
 rw[hC]
 clear hC
 refine Rn K0 HB0 (cG 0 6 [_,_,_] []) (Oc3 (g_ld 0 Tryz.underlying26 Z4) (g_cl Td hC.out) (g_bn (fun uZ=>Y7 _ _ _ 0 0 _ uZ rfl))) fun u1 HB1 _ K1=>?_
 simp only[sQ] at K1⊢
 go_upto_region 3 with fail
 refine Rn K1 HB1 (cG 0 9 [_,_,_,_,_,_,_,_,_,_,_,_,_,_,_,_] []) (Od8 (g_fd (fdD0 _)) (g_lc 1 0 lI) (g_cl Zc hN.out) (g_un Xe) g_mv (g_fd (fdD1 _)) (g_lc 1 1 lSN) (g_ln Tryz.underlying31)<|Oc8 (g_bn (fun uZ=>Za _ _ (ns.length:Int) 1 _ uZ h1)) g_pk g_mv (g_fd (fdD1 _)) (g_lc 1 1 lSN) (g_ln Tryz.underlying31) (g_bn (fun uZ=>V8 _ _ (ns.length:Int) 6 _ uZ h6)) g_pk) fun u2 HB2 _ K2=>?_
 simp only[sQ] at K2⊢
 go_upto_region 5 with fail
 refine Rn K2 HB2 [(0,5,_)] (Oc1 g_as) fun u3 HB3 _ K3=>?_
 simp only[sQ] at K3⊢
 go_wp2_with fail
 go_loopw [5] (fun s5 wr=> ∃(k:Nat),k<=ns.length/\s5=iI (k:Int)/\Bw w wr/\CV wr (w.heap.size) (GE p q g h)/\w.heap.size<wr.heap.size/\CV wr (w.heap.size+1) (DE d (.slice sl ns.length cap))/\w.heap.size+1<wr.heap.size/\Hid (∀j,j<k->isB p q (ns.getD j 0)=true)) (fun s5 _=>ns.length -(intOf s5).toNat)
 case atStart=>exact⟨0,Z1,rfl,HB3,(K3.cv 0),(K3.lt 0),(K3.cv 1),(K3.lt 1),(fun j h=>Z1)⟩
 case round=>
  obtain⟨k,hk,rfl,HBr,C0,lC0,C1,lC1,hall⟩:=hrel
  have hnK:=K3.n
  simp at hnK
  by_cases hj:k<ns.length
  ·have hl:decide ((k:Int)<(ns.length:Int))=true:=by simp;omega
   have hX:=hix.out _ hj
   have hX:Hid _:=hX
   have hR:=hS.out.at _ hj
   have hR:Hid _:=hR
   have ix:=hn.out k hj
   have hg':=hg.resolve_left Z1
   have hr1:=hno.out k hj
   have hr0:Hid (isB p q (ns.getD k 0)=true-> ∀j,j<k+1->isB p q (ns.getD j 0)=true):=fun e j hjk=>by
    by_cases ej:j=k
    ·subst ej;exact e
    ·exact hall.out j Z1
   have hI:Hid (∀u,CC 45 #[GX p q g h,NV (ns.getD k 0)] u (.bool (isB p q (ns.getD k 0)))):=fun u=>xIs p q g h _ u hp hq ix
   obtain⟨x,ex⟩:=Z3 (ns.getD k 0)
   rw[ex] at hR ix hr1 hr0 hI
   clear ex
   by_cases hb:isB p q x=true
   ·rw[hb] at hI
    have K3_1:Bk w.heap.size wr [(false,w.heap.size,GE p q g h),(false,w.heap.size+1,DE d (.slice sl ns.length cap))]:=⟨.c lC0 C0<| .c lC1 C1<|trivial,by simp<;>omega⟩
    go_upto_region 6 with fail
    refine Rn K3_1 HBr (cG 0 25 [_,_,_,_,_] []) (Oc5 g_mv (g_fd (fdD1 _)) (g_lc 1 1 lSN) (g_ln Tryz.underlying31) (g_bn (fun uZ=>Za _ _ (k:Int) (ns.length:Int) _ uZ hl))) fun u4 HB4 sz4 K4=>?_
    simp only[sQ] at K4⊢
    go_upto_region 8 with fail
    refine Rm K4 HB4 (cG 0 32 [_,_,_,_,_,_,_,_] []) (Oc8 (g_ld 0 Tryz.underlying26 Z4) (g_fd (fdD1 _)) (g_lc 1 1 lSN) g_mv (g_ix hX.out) (g_lf hR.out hg' uN iN) (g_cl ent_K2 hI.out) (g_un Xe)) fun u5 HB5 sz5 K5=>?_
    simp only[sQ] at K5⊢
    go_upto_region 7 with fail
    refine Rp K5 HB5 [] [] [(0,30,_),(1,31,_),(2,5,_)] [(2,0)] [(2,5)] [] (Oc3 g_mv (g_bn (fun uZ=>Zu _ _ (k:Int) 1 ((k+1:Nat):Int) uZ Z1 Z1 Z1)) g_as) fun u6 HB6 sz6 K6=>?_
    simp only[sQ] at K6⊢
    go_wp2
    refine⟨⟨k+1,Z1,rfl,HB6,(K6.cv 0),(K6.lt 0),(K6.cv 1),(K6.lt 1),hr0.out hb⟩,?_⟩
    simp[intOf]<;>omega
   ·rw[Bool.not_eq_true] at hb
    rw[hb] at hI
    have K3_1:Bk w.heap.size wr [(false,w.heap.size,GE p q g h),(false,w.heap.size+1,DE d (.slice sl ns.length cap))]:=⟨.c lC0 C0<| .c lC1 C1<|trivial,by simp<;>omega⟩
    go_upto_region 6 with fail
    refine Rn K3_1 HBr (cG 0 25 [_,_,_,_,_] []) (Oc5 g_mv (g_fd (fdD1 _)) (g_lc 1 1 lSN) (g_ln Tryz.underlying31) (g_bn (fun uZ=>Za _ _ (k:Int) (ns.length:Int) _ uZ hl))) fun u4 HB4 sz4 K4=>?_
    simp only[sQ] at K4⊢
    go_upto_region 8 with fail
    refine Rm K4 HB4 (cG 0 32 [_,_,_,_,_,_,_,_] []) (Oc8 (g_ld 0 Tryz.underlying26 Z4) (g_fd (fdD1 _)) (g_lc 1 1 lSN) g_mv (g_ix hX.out) (g_lf hR.out hg' uN iN) (g_cl ent_K2 hI.out) (g_un not_f)) fun u5 HB5 sz5 K5=>?_
    simp only[sQ] at K5⊢
    go_upto_region 9 with fail
    refine Rn K5 HB5 [(0,4,_)] (Oc1 g_as) fun u6 HB6 sz6 K6=>?_
    simp only[sQ] at K6⊢
    go_wp2
    obtain rfl:=hr1 hb
    exact bodyPost_ret (v:=iI 110) (by simp[results,Tryz.results18,go_sem]) rfl ⟨rfl,HB6⟩
  ·have hl:decide ((k:Int)<(ns.length:Int))=false:=by simp;omega
   have hk0:=hyes.out fun j hj2=>hall.out j Z1
   have K3_1:Bk w.heap.size wr [(false,w.heap.size,GE p q g h),(false,w.heap.size+1,DE d (.slice sl ns.length cap))]:=⟨.c lC0 C0<| .c lC1 C1<|trivial,by simp<;>omega⟩
   go_upto_region 6 with fail
   refine Rn K3_1 HBr (cG 0 25 [_,_,_,_,_] []) (Oc5 g_mv (g_fd (fdD1 _)) (g_lc 1 1 lSN) (g_ln Tryz.underlying31) (g_bn (fun uZ=>Za _ _ (k:Int) (ns.length:Int) _ uZ hl))) fun u4 HB4 sz4 K4=>?_
   simp only[sQ] at K4⊢
   go_upto_region 10 with fail
   refine Rn K4 HB4 [(0,4,_)] (Oc1 g_as) fun u5 HB5 sz5 K5=>?_
   simp only[sQ] at K5⊢
   go_wp2
   subst hk0
   exact bodyPost_ret (v:=iI 0) (by simp[results,Tryz.results18,go_sem]) rfl ⟨rfl,HB5⟩
theorem xdchk_K(p q g h d:Int)(sl:Option Addr)(gb go cap:Nat)(ns:List Int)(w:World)(hC:Hid (∀u,CC 17 #[GX p q g h] u (iI 0)))(hN:Hid (∀u,CC 44 #[iI d] u (.bool true)))(h1:decide ((ns.length:Int)<1)=false)(h6:decide (6<(ns.length:Int))=false)(hp:In p)(hq:In q)(hix:Hid (∀j,j<ns.length-> ∀W,(Instr.indexAt 31 (.slice sl ns.length cap) (iI j)).run Tryz.prog W= .ok (.pointer (some ⟨gb,go+4*j,none⟩)) W))(hg:ns.length=0\/gb<w.heap.size)(hS:Hid (SN w gb go ns))(hn:Hid (∀k,k<ns.length->In (ns.getD k 0)))(hns:ns.length<=1000)(hyes:Hid (∀k,k<ns.length->isB p q (ns.getD k 0)=true)):
 CC 18 #[GX p q g h,DX d (.slice sl ns.length cap)] w (iI 0):=by
 go_enter Tryz.func18,Tryz.ntmps18
 go_upto_region 1 with fail
 obtain⟨v0,hC,HB0,K0⟩:=bx2 w (GE p q g h) 26 (DE d (.slice sl ns.length cap)) 33
 rw[hC]
 clear hC
 refine Rn K0 HB0 (cG 0 6 [_,_,_] []) (Oc3 (g_ld 0 Tryz.underlying26 Z4) (g_cl Td hC.out) (g_bn (fun uZ=>Y7 _ _ _ 0 0 _ uZ rfl))) fun u1 HB1 _ K1=>?_
 simp only[sQ] at K1⊢
 go_upto_region 3 with fail
 refine Rn K1 HB1 (cG 0 9 [_,_,_,_,_,_,_,_,_,_,_,_,_,_,_,_] []) (Od8 (g_fd (fdD0 _)) (g_lc 1 0 lI) (g_cl Zc hN.out) (g_un Xe) g_mv (g_fd (fdD1 _)) (g_lc 1 1 lSN) (g_ln Tryz.underlying31)<|Oc8 (g_bn (fun uZ=>Za _ _ (ns.length:Int) 1 _ uZ h1)) g_pk g_mv (g_fd (fdD1 _)) (g_lc 1 1 lSN) (g_ln Tryz.underlying31) (g_bn (fun uZ=>V8 _ _ (ns.length:Int) 6 _ uZ h6)) g_pk) fun u2 HB2 _ K2=>?_
 simp only[sQ] at K2⊢
 go_upto_region 5 with fail
 refine Rn K2 HB2 [(0,5,_)] (Oc1 g_as) fun u3 HB3 _ K3=>?_
 simp only[sQ] at K3⊢
 go_wp2_with fail
 go_loopw [5] (fun s5 wr=> ∃(k:Nat),k<=ns.length/\s5=iI (k:Int)/\Bw w wr/\CV wr (w.heap.size) (GE p q g h)/\w.heap.size<wr.heap.size/\CV wr (w.heap.size+1) (DE d (.slice sl ns.length cap))/\w.heap.size+1<wr.heap.size) (fun s5 _=>ns.length -(intOf s5).toNat)
 case atStart=>exact⟨0,Z1,rfl,HB3,(K3.cv 0),(K3.lt 0),(K3.cv 1),(K3.lt 1)⟩
 case round=>
  obtain⟨k,hk,rfl,HBr,C0,lC0,C1,lC1⟩:=hrel
  have hnK:=K3.n
  simp at hnK
  by_cases hj:k<ns.length
  ·have hl:decide ((k:Int)<(ns.length:Int))=true:=by simp;omega
   have hX:=hix.out _ hj
   have hX:Hid _:=hX
   have hR:=hS.out.at _ hj
   have hR:Hid _:=hR
   have ix:=hn.out k hj
   have hg':=hg.resolve_left Z1
   have hb:=hyes.out k hj
   have hI:Hid (∀u,CC 45 #[GX p q g h,NV (ns.getD k 0)] u (.bool true)):=fun u=>xIsK p q g h _ u hp hq ix hb
   obtain⟨x,ex⟩:=Z3 (ns.getD k 0)
   rw[ex] at hR ix hI
   clear ex hb
   have K3_1:Bk w.heap.size wr [(false,w.heap.size,GE p q g h),(false,w.heap.size+1,DE d (.slice sl ns.length cap))]:=⟨.c lC0 C0<| .c lC1 C1<|trivial,by simp<;>omega⟩
   go_upto_region 6 with fail
   refine Rn K3_1 HBr (cG 0 25 [_,_,_,_,_] []) (Oc5 g_mv (g_fd (fdD1 _)) (g_lc 1 1 lSN) (g_ln Tryz.underlying31) (g_bn (fun uZ=>Za _ _ (k:Int) (ns.length:Int) _ uZ hl))) fun u4 HB4 sz4 K4=>?_
   simp only[sQ] at K4⊢
   go_upto_region 8 with fail
   refine Rm K4 HB4 (cG 0 32 [_,_,_,_,_,_,_,_] []) (Oc8 (g_ld 0 Tryz.underlying26 Z4) (g_fd (fdD1 _)) (g_lc 1 1 lSN) g_mv (g_ix hX.out) (g_lf hR.out hg' uN iN) (g_cl ent_K2 hI.out) (g_un Xe)) fun u5 HB5 sz5 K5=>?_
   simp only[sQ] at K5⊢
   go_upto_region 7 with fail
   refine Rp K5 HB5 [] [] [(0,30,_),(1,31,_),(2,5,_)] [(2,0)] [(2,5)] [] (Oc3 g_mv (g_bn (fun uZ=>Zu _ _ (k:Int) 1 ((k+1:Nat):Int) uZ Z1 Z1 Z1)) g_as) fun u6 HB6 _ K6=>?_
   simp only[sQ] at K6⊢
   go_wp2
   refine⟨⟨k+1,Z1,rfl,HB6,(K6.cv 0),(K6.lt 0),(K6.cv 1),(K6.lt 1)⟩,?_⟩
   simp[intOf]<;>omega
  ·have hl:decide ((k:Int)<(ns.length:Int))=false:=by simp;omega
   have K3_1:Bk w.heap.size wr [(false,w.heap.size,GE p q g h),(false,w.heap.size+1,DE d (.slice sl ns.length cap))]:=⟨.c lC0 C0<| .c lC1 C1<|trivial,by simp<;>omega⟩
   go_upto_region 6 with fail
   refine Rn K3_1 HBr (cG 0 25 [_,_,_,_,_] []) (Oc5 g_mv (g_fd (fdD1 _)) (g_lc 1 1 lSN) (g_ln Tryz.underlying31) (g_bn (fun uZ=>Za _ _ (k:Int) (ns.length:Int) _ uZ hl))) fun u4 HB4 sz4 K4=>?_
   simp only[sQ] at K4⊢
   go_upto_region 10 with fail
   refine Rn K4 HB4 [(0,4,_)] (Oc1 g_as) fun u5 HB5 sz5 K5=>?_
   simp only[sQ] at K5⊢
   go_wp2
   exact bodyPost_ret (v:=iI 0) (by simp[results,Tryz.results18,go_sem]) rfl ⟨rfl,HB5⟩
def dcE(p q d:Int)(ns:List Int):Int:=if gOk p q then (if ndB d&&decide (1<=ns.length/\ns.length<=6)&&ns.all (isB p q) then 0 else 110) else 90
theorem all_get{ns:List Int}{f:Int->Bool}:ns.all f=true↔ ∀k,k<ns.length->f (ns.getD k 0)=true:=by
 rw[List.all_eq_true]
 constructor
 ·exact fun h k hk=>h _ (by simp[List.getElem?_eq_getElem hk])
 ·intro h x hx
  obtain⟨k,hk,rfl⟩:=List.mem_iff_getElem.1 hx
  have:=h k hk
  simpa [List.getElem?_eq_getElem hk] using this
theorem xCheckD(p q g h d:Int)(ns:List Int)(v:Value)(w:World)(hp:In p)(hq:In q)(hv:NL w v ns)(hns: ∀z∈ns,In z)(hl:ns.length<=256):CC 18 #[GX p q g h,DX d v] w (iI (dcE p q d ns)):=by
 obtain⟨sl,gb,go,cap,rfl,h2,h3,h4,h5,h6⟩:=hv
 have hC:=fun u=>xCheckG p q g h u hp hq
 have hN:=fun u=>xNode d u
 unfold chE at hC
 unfold dcE
 by_cases hg:gOk p q
 ·rw[if_pos hg]
  simp only[if_pos hg] at hC
  by_cases hd:ndB d=true
  ·rw[hd] at hN⊢
   by_cases l1:ns.length<1
   ·rw[show (decide (1<=ns.length/\ns.length<=6))=false by rw[decide_eq_false_iff_not];omega]
    exact xdchk_l p q g h d sl cap ns w hC hN (by simp;omega)
   ·by_cases l6:6<ns.length
    ·rw[show (decide (1<=ns.length/\ns.length<=6))=false by rw[decide_eq_false_iff_not];omega]
     exact xdchk_g p q g h d sl cap ns w hC hN (by simp;omega) (by simp;omega)
    ·rw[show (decide (1<=ns.length/\ns.length<=6))=true by rw[decide_eq_true_iff];omega]
     refine xdchk_k p q g h d _ sl gb go cap ns w hC hN (by simp;omega) (by simp;omega) hp hq (NL.ix (u:=w) h4) h5 h6 (Yb hns) Z1 (fun ha=>?_) (fun k hk hb=>?_)
     ·rw[Bool.true_and,Bool.true_and,if_pos (all_get.2 ha)]
     ·rw[Bool.true_and,Bool.true_and,if_neg (fun ha=>by rw[all_get.1 ha k hk] at hb;cases hb)]
  ·rw[Bool.not_eq_true] at hd
   rw[hd] at hN⊢
   exact xdchk_n p q g h d sl cap ns w hC hN
 ·rw[if_neg hg]
  simp only[if_neg hg] at hC
  exact xdchk_c p q g h d sl cap ns w hC
theorem xCheckDK(p q g h d:Int)(ns:List Int)(v:Value)(w:World)(hp:In p)(hq:In q)(hv:NL w v ns)(hns: ∀z∈ns,In z)(hl:ns.length<=256)(hg:gOk p q)(hd:ndB d=true)(hb:ns.length<=6/\1<=ns.length)(ha: ∀k,k<ns.length->isB p q (ns.getD k 0)=true):CC 18 #[GX p q g h,DX d v] w (iI 0):=by
 obtain⟨sl,gb,go,cap,rfl,h2,h3,h4,h5,h6⟩:=hv
 have hN:=fun u=>xNode d u
 rw[hd] at hN
 exact xdchk_K p q g h d sl gb go cap ns w (fun u=>Vz p q g h u hp hq hg) hN (by simp;omega) (by simp;omega) hp hq (NL.ix (u:=w) h4) h5 h6 (Yb hns) Z1 ha
abbrev SZ:Value:= .agg L0h.toArray
theorem zSh(w:World):(Instr.build 39 [].toArray).run Tryz.prog w= .ok SZ w:=by kernel_rfl
theorem bdSh(n s t:Int)(w:World):(Instr.build 39 [(0,iI n),(1,NV s),(2,NV t)].toArray).run Tryz.prog w= .ok (SX n s t) w:=by kernel_rfl
theorem fdS0(b:Nat)(w:World):(Instr.fieldAt 39 (.pointer (some ⟨b,0,none⟩)) 0).run Tryz.prog w= .ok (.pointer (some ⟨b,0,none⟩)) w:=by go_simp
theorem fdS1(b:Nat)(w:World):(Instr.fieldAt 39 (.pointer (some ⟨b,0,none⟩)) 1).run Tryz.prog w= .ok (.pointer (some ⟨b,1,none⟩)) w:=by go_simp
theorem fdS2(b:Nat)(w:World):(Instr.fieldAt 39 (.pointer (some ⟨b,0,none⟩)) 2).run Tryz.prog w= .ok (.pointer (some ⟨b,5,none⟩)) w:=by go_simp
theorem Yn:EnT 56:=fun _ _=>by kernel_rfl
theorem Va:EnT 58:=fun _ _=>by kernel_rfl
theorem ent_K3:EnT 59:=fun _ _=>by kernel_rfl
theorem ent_K4:EnT 69:=fun _ _=>by kernel_rfl
theorem ent_K5:EnT 57:=fun _ _=>by kernel_rfl
theorem ent_K6:EnT 19:=fun _ _=>by kernel_rfl
theorem xshr_k(p q g h nd x y e1 e2:Int)(sa sb:Option Addr)(n m ca cb:Nat)(w:World)(h0:0<=nd)(h1:nd<=16)(hC:Hid (∀u,CC 17 #[GX p q g h] u (iI 0)))(hS:Hid (∀u,CC 56 #[.slice sa n ca,.slice sb m cb] u (.bool true)))(hN:Hid (∀u,CC 44 #[iI nd] u (.bool true)))(hE1:Hid (∀u,Bw w u->CC 57 #[NV q,.slice sa n ca,NV nd] u (.tuple #[NV x,iI e1])))(hE2:Hid (∀u,Bw w u->CC 57 #[NV q,.slice sb m cb,NV nd] u (.tuple #[NV y,iI e2]))):
 CC 32 #[GX p q g h,iI nd,.slice sa n ca,.slice sb m cb] w (.tuple #[SX nd x y,iI 0]):=by
 go_enter Tryz.func32,Tryz.ntmps32
 go_upto_region 1 with fail
 obtain⟨v0,hC,HB0,K0⟩:=bx2 w (GE p q g h) 26 L0h 39
 rw[hC]
 clear hC
 refine Rn K0 HB0 (cG 0 14 [_,_,_] []) (Oc3 (g_ld 0 Tryz.underlying26 Z4) (g_cl Td hC.out) (g_bn (fun uZ=>Y7 _ _ _ 0 0 _ uZ rfl))) fun u1 HB1 _ K1=>?_
 simp only[sQ] at K1⊢
 go_upto_region 3 with fail
 refine Rn K1 HB1 (cG 0 18 [_,_,_,_] []) (Oc4 g_mv g_mv (g_cl Yn hS.out) (g_un Xe)) fun u2 HB2 _ K2=>?_
 simp only[sQ] at K2⊢
 go_upto_region 5 with fail
 refine Rn K2 HB2 (cG 0 23 [_,_,_] []) (Oc3 g_mv (g_cl Zc hN.out) (g_un Xe)) fun u3 HB3 _ K3=>?_
 simp only[sQ] at K3⊢
 go_upto_region 7 with fail
 refine Rp K3 HB3 [] [(10,10,L0s,some (11,LN x))] (cG 0 28 [_,_,_,_,_,_,_] [(7,27,_),(8,35,_),(9,36,_),(12,11,_)]) [(11,10)] [] [] (Od8 (g_fd (fdG1 _)) (g_lo 0 4 uN iN) g_mv g_mv (g_op (fun ev uZ he=>cviP uZ h0 Z1 rfl (he _ _ rfl))) (g_bd (fun uZ=>bdNk nd h0 Z1 uZ)) (g_cb ent_K5 hE1.out) g_mv<|Oc5 g_ex g_ex (g_al 0 aN) (g_sn 0 iN) g_as) fun u4 b4_10 HB4 _ K4=>?_
 simp only[sQ] at K4⊢
 go_upto_region 8 with fail
 refine Rp K4 HB4 [] [(10,12,L0s,some (11,LN y))] (cG 0 38 [_,_,_,_,_,_,_] [(7,37,_),(8,45,_),(9,46,_),(12,13,_)]) [(11,10)] [] [] (Od8 (g_fd (fdG1 _)) (g_lo 0 4 uN iN) g_mv g_mv (g_op (fun ev uZ he=>cviP uZ h0 Z1 rfl (he _ _ rfl))) (g_bd (fun uZ=>bdNk nd h0 Z1 uZ)) (g_cb ent_K5 hE2.out) g_mv<|Oc5 g_ex g_ex (g_al 0 aN) (g_sn 0 iN) g_as) fun u5 b5_10 HB5 _ K5=>?_
 simp only[sQ] at K5⊢
 go_upto_region 9 with fail
 refine Rp K5 HB5 [.no,.all 4 (SE nd x y)] [] (cG 0 47 [_,_,_,_] [(5,9,_)]) [] [] [] (Oc6 g_mv (g_ld 2 uN iN) (g_ld 3 uN iN) (g_bd (bdSh nd x y)) (g_st 1 Zb) g_as) fun u6 HB6 _ K6=>?_
 simp only[sQ] at K6⊢
 have c8_0:=((K6.cv 1) 0 _ rfl).1
 have c8_1:=((K6.cv 1) 1 _ rfl).1
 have c8_2:=((K6.cv 1) 2 _ rfl).1
 have c8_3:=((K6.cv 1) 3 _ rfl).1
 have c8_4:=((K6.cv 1) 4 _ rfl).1
 have c8_5:=((K6.cv 1) 5 _ rfl).1
 have c8_6:=((K6.cv 1) 6 _ rfl).1
 have c8_7:=((K6.cv 1) 7 _ rfl).1
 have c8_8:=((K6.cv 1) 8 _ rfl).1
 go_wp2
 refine bodyPost_ret (v:= .tuple #[SX nd x y,iI 0]) (by simp[results,Tryz.results32,go_sem,c8_0,c8_1,c8_2,c8_3,c8_4,c8_5,c8_6,c8_7,c8_8]) rfl ⟨rfl,HB6⟩
def shO(p q nd:Int)(ss ts:List Int):Int:=if gOk p q then (if shB ss.length ts.length then (if ndB nd then 0 else 2) else 110) else 90
def shV(p q nd:Int)(ss ts:List Int):Value:=if shO p q nd ss ts=0 then SX nd (hoN q nd ss ss.length) (hoN q nd ts ts.length) else SZ
theorem ndB_iff{n:Int}:ndB n=true↔1<=n/\n<=16:=decide_eq_true_iff
theorem shB_iff{n m:Nat}:shB n m=true↔n=m/\1<=n/\n<=6:=decide_eq_true_iff
theorem xShareG(p q g h nd:Int)(ss ts:List Int)(v v2:Value)(w:World)(hp:In p)(hq:In q)(hv:NL w v ss)(hv2:NL w v2 ts)(hs: ∀z∈ss,In z)(ht: ∀z∈ts,In z)(hl:ss.length<=256)(hl2:ts.length<=256)(c1:gOk p q)(c2:shB ss.length ts.length=true)(c3:ndB nd=true):CC 32 #[GX p q g h,iI nd,v,v2] w (.tuple #[shV p q nd ss ts,iI (shO p q nd ss ts)]):=by
 have a':=hv
 have b':=hv2
 obtain⟨sa,ga,oa,ca,rfl,_⟩:=hv
 obtain⟨sb,gb,ob,cb,rfl,_⟩:=hv2
 have hC:=fun u=>Vz p q g h u hp hq c1
 have hS:=fun u=>xShaped sa sb ss.length ts.length ca cb u
 have hN:=fun u=>xNode nd u
 rw[c2] at hS
 rw[c3] at hN
 have hb:=ndB_iff.1 c3
 have hb2:=shB_iff.1 c2
 have hq3:=c1.q3
 have e0:shO p q nd ss ts=0:=by simp[shO,c1,c2,c3]
 rw[shV,if_pos e0,e0]
 exact xshr_k p q g h nd _ _ _ _ sa sb _ _ ca cb w Z1 Z1 hC hS hN (fun u hB=>xEvalK q nd ss _ u hq ⟨Z1,Z1⟩ (a'.up hB) hs hl Z1 Z1) (fun u hB=>xEvalK q nd ts _ u hq ⟨Z1,Z1⟩ (b'.up hB) ht hl2 Z1 Z1)
def atO(p q nd:Int)(ns:List Int):Nat->Int
 | 0=>1
 | k+1=>(atO p q nd ns k*(ns.getD k 0^(pwN q nd k).toNat%p))%p
theorem atO_In{p q nd:Int}{ns:List Int}(hp:In p)(hp0:p≠0): ∀k,In (atO p q nd ns k)
 | 0=>In_1
 | k+1=>Zt hp hp0
theorem xat_k(p q g h d nd:Int)(sl:Option Addr)(gb go cap:Nat)(ns:List Int)(w:World)(hK:Hid (∀u,Bw w u->CC 18 #[GX p q g h,DX d (.slice sl ns.length cap)] u (iI 0)))(hN:Hid (∀u,CC 44 #[iI nd] u (.bool true)))(hp:In p)(hq:In q)(hp0:p≠0)(hq0:q≠0)(h0:0<=nd)(h1:nd<=16)(hix:Hid (∀j,j<ns.length-> ∀W,(Instr.indexAt 31 (.slice sl ns.length cap) (iI j)).run Tryz.prog W= .ok (.pointer (some ⟨gb,go+4*j,none⟩)) W))(hg:ns.length=0\/gb<w.heap.size)(hS:Hid (SN w gb go ns))(hn:Hid (∀k,k<ns.length->In (ns.getD k 0)))(hns:ns.length<=1000):
 CC 58 #[GX p q g h,DX d (.slice sl ns.length cap),iI nd] w (.tuple #[NV (atO p q nd ns ns.length),iI 0]):=by
 go_enter Tryz.func58,Tryz.ntmps58
 go_upto_region 1 with fail
 obtain⟨v0,hC,HB0,K0⟩:=bx3 w (GE p q g h) 26 (DE d (.slice sl ns.length cap)) 33 L0s 24
 rw[hC]
 clear hC
 refine Rn K0 HB0 (cG 0 14 [_,_,_] [(3,8,_)]) (Oc4 (g_ld 0 Tryz.underlying26 Z4) (g_ld 1 Tryz.underlying33 Z8) (g_cb W7 hK.out) g_as) fun u1 HB1 _ K1=>?_
 simp only[sQ] at K1⊢
 go_upto_region 2 with fail
 refine Rn K1 HB1 [(0,17,_),(1,18,_)] (Oc2 g_mv (g_bn (fun uZ=>Y7 _ _ _ 0 0 _ uZ rfl))) fun u2 HB2 _ K2=>?_
 simp only[sQ] at K2⊢
 go_upto_region 4 with fail
 refine Rn K2 HB2 (cG 0 21 [_,_,_] []) (Oc3 g_mv (g_cl Zc hN.out) (g_un Xe)) fun u3 HB3 _ K3=>?_
 simp only[sQ] at K3⊢
 go_upto_region 6 with fail
 refine Rp K3 HB3 [] [(2,9,L0s,some (4,LN 1)),(3,10,L0s,some (5,LN 1))] [(0,25,_),(1,26,_)] [(4,2),(5,3)] [] [] (Oc6 (g_bd (fun uZ=>bdNk 1 Z1 Z1 uZ)) (g_bd (fun uZ=>bdNk 1 Z1 Z1 uZ)) (g_al 0 aN) (g_al 1 aN) (g_sn 0 iN) (g_sn 1 iN)) fun u4 b4_2 b4_3 HB4 _ K4=>?_
 simp only[sQ] at K4⊢
 go_upto_region 7 with fail
 refine Rn K4 HB4 [(0,11,_)] (Oc1 g_as) fun u5 HB5 _ K5=>?_
 simp only[sQ] at K5⊢
 go_wp2_with fail
 go_loopw [11] (fun s11 wr=> ∃(k:Nat),k<=ns.length/\s11=iI (k:Int)/\Bw w wr/\CV wr (w.heap.size) (GE p q g h)/\w.heap.size<wr.heap.size/\CV wr (w.heap.size+1) (DE d (.slice sl ns.length cap))/\w.heap.size+1<wr.heap.size/\CV wr (w.heap.size+1+1) (L0s)/\w.heap.size+1+1<wr.heap.size/\CV wr b4_2 (LN (atO p q nd ns k))/\b4_2<wr.heap.size/\CV wr b4_3 (LN (pwN q nd k))/\b4_3<wr.heap.size) (fun s11 _=>ns.length -(intOf s11).toNat)
 case atStart=>exact⟨0,Z1,rfl,HB5,(K5.cv 0),(K5.lt 0),(K5.cv 1),(K5.lt 1),(K5.cv 2),(K5.lt 2),(K5.cv 3),(K5.lt 3),(K5.cv 4),(K5.lt 4)⟩
 case round=>
  obtain⟨k,hk,rfl,HBr,C0,lC0,C1,lC1,C2,lC2,C3,lC3,C4,lC4⟩:=hrel
  have hnK:=K5.n
  simp at hnK
  have hoK3:=K5.lo 3
  have hoK4:=K5.lo 4
  by_cases hj:k<ns.length
  ·have hl:decide ((k:Int)<(ns.length:Int))=true:=by simp;omega
   have hX:=hix.out _ hj
   have hX:Hid _:=hX
   have hR:=hS.out.at _ hj
   have hR:Hid _:=hR
   have ix:=hn.out k hj
   have hg':=hg.resolve_left Z1
   have ia:=atO_In (q:=q) (nd:=nd) (ns:=ns) hp hp0 k
   have iw:=pwN_In (x:=nd) hq hq0 k
   have ea:Hid (atO p q nd ns (k+1)=(atO p q nd ns k*(ns.getD k 0^(pwN q nd k).toNat%p))%p):=rfl
   have ew:Hid (pwN q nd (k+1)=(pwN q nd k*nd)%q):=rfl
   obtain⟨x,ex⟩:=Z3 (ns.getD k 0)
   rw[ex] at hR ix ea
   clear ex
   obtain⟨o,eo⟩:=Z3 (atO p q nd ns k)
   rw[eo] at ia ea C3
   clear eo
   obtain⟨y,ey⟩:=Z3 (pwN q nd k)
   rw[ey] at iw ew ea C4
   clear ey
   have hE:Hid (∀u,CC 69 #[NV x,NV y,NV p] u (.tuple #[NV (x^y.toNat%p),iI 0])):=fun u=>xExp x y p u ix iw hp hp0
   obtain⟨z,ez⟩:=Z3 (x^y.toNat%p)
   have iz:In z:=by rw[<-ez];exact Zt hp hp0
   rw[ez] at ea hE
   clear ez
   have K5_1:Bk w.heap.size wr [(false,w.heap.size,GE p q g h),(false,w.heap.size+1,DE d (.slice sl ns.length cap)),(true,w.heap.size+1+1,L0s),(true,b4_2,LN o),(true,b4_3,LN y)]:=⟨.c lC0 C0<| .c lC1 C1<| .o lC2 (K5.lo 2) C2<| .o lC3 (K5.lo 3) C3<| .o lC4 (K5.lo 4) C4<|trivial,by simp<;>omega⟩
   go_upto_region 8 with fail
   refine Rn K5_1 HBr (cG 0 27 [_,_,_,_,_] []) (Oc5 g_mv (g_fd (fdD1 _)) (g_lc 1 1 lSN) (g_ln Tryz.underlying31) (g_bn (fun uZ=>Za _ _ (k:Int) (ns.length:Int) _ uZ hl))) fun u6 HB6 sz6 K6=>?_
   simp only[sQ] at K6⊢
   go_upto_region 10 with fail
   refine Rd K6 HB6 [] [(12,12,L0s,some (13,LN z))] (cG 0 35 [_,_,_,_,_,_,_,_,_] [(9,34,_),(10,44,_),(11,45,_),(14,13,_)]) [(13,12)] [] [] (Od8 (g_fd (fdD1 _)) (g_lc 1 1 lSN) g_mv (g_ix hX.out) (g_lf hR.out hg' uN iN) (g_ld 4 uN iN) (g_fd (fdG0 _)) (g_lo 0 0 uN iN)<|Oc7 (g_cl ent_K4 hE.out) g_mv g_ex g_ex (g_al 0 aN) (g_sn 0 iN) g_as) fun u7 b7_12 HB7 sz7 K7=>?_
   simp only[sQ] at K7⊢
   go_upto_region 11 with fail
   refine Rp K7 HB7 [.no,.no,.no,.all 8 (LN (o*z%p))] [] (cG 0 47 [_,_,_,_,_] [(5,46,_),(6,52,_),(7,53,_)]) [(8,0)] [] [] (Oc9 (g_ld 3 uN iN) (g_ld 5 uN iN) (g_fd (fdG0 _)) (g_lo 0 0 uN iN) (g_cl ent_K6 (fun uZ=>xMul o z p uZ ia iz hp hp0)) g_mv g_ex g_ex (g_st 3 iN)) fun u8 HB8 _ K8=>?_
   simp only[sQ] at K8⊢
   go_upto_region 12 with fail
   refine Rp K8 HB8 [.no,.no,.no,.no,.all 10 (LN (y*nd%q))] [] (cG 0 55 [_,_,_,_,_,_,_] [(7,54,_),(8,62,_),(9,63,_)]) [(10,0)] [] [] (Od8 (g_ld 4 uN iN) g_mv (g_op (fun ev uZ he=>cviP uZ h0 Z1 rfl (he _ _ rfl))) (g_bd (fun uZ=>bdNk nd h0 Z1 uZ)) (g_fd (fdG1 _)) (g_lo 0 4 uN iN) (g_cl ent_K6 (fun uZ=>xMul y nd q uZ iw ⟨h0,Z1⟩ hq hq0)) g_mv<|Oc3 g_ex g_ex (g_st 4 iN)) fun u9 HB9 _ K9=>?_
   simp only[sQ] at K9⊢
   go_upto_region 9 with fail
   refine Rp K9 HB9 [] [] [(0,32,_),(1,33,_),(2,11,_)] [(2,0)] [(2,11)] [] (Oc3 g_mv (g_bn (fun uZ=>Zu _ _ (k:Int) 1 ((k+1:Nat):Int) uZ Z1 Z1 Z1)) g_as) fun u10 HB10 _ K10=>?_
   simp only[sQ] at K10⊢
   go_wp2
   refine⟨⟨k+1,Z1,rfl,HB10,(K10.cv 0),(K10.lt 0),(K10.cv 1),(K10.lt 1),(K10.cv 2),(K10.lt 2),by rw[ea.out];exact(K10.cv 3),(K10.lt 3),by rw[ew.out];exact(K10.cv 4),(K10.lt 4)⟩,?_⟩
   simp[intOf]<;>omega
  ·have hl:decide ((k:Int)<(ns.length:Int))=false:=by simp;omega
   have hkn:k=ns.length:=Z1
   rw[hkn] at C3
   clear hkn
   have K5_1:Bk w.heap.size wr [(false,w.heap.size,GE p q g h),(false,w.heap.size+1,DE d (.slice sl ns.length cap)),(true,w.heap.size+1+1,L0s),(true,b4_2,LN (atO p q nd ns ns.length)),(true,b4_3,LN (pwN q nd k))]:=⟨.c lC0 C0<| .c lC1 C1<| .o lC2 (K5.lo 2) C2<| .o lC3 (K5.lo 3) C3<| .o lC4 (K5.lo 4) C4<|trivial,by simp<;>omega⟩
   go_upto_region 8 with fail
   refine Rn K5_1 HBr (cG 0 27 [_,_,_,_,_] []) (Oc5 g_mv (g_fd (fdD1 _)) (g_lc 1 1 lSN) (g_ln Tryz.underlying31) (g_bn (fun uZ=>Za _ _ (k:Int) (ns.length:Int) _ uZ hl))) fun u6 HB6 sz6 K6=>?_
   simp only[sQ] at K6⊢
   go_upto_region 13 with fail
   refine Rp K6 HB6 [.no,.no,.all 1 (LN (atO p q nd ns ns.length))] [] [(0,64,_),(2,7,_)] [] [] [] (Oc3 (g_ld 3 uN iN) (g_st 2 iN) g_as) fun u7 HB7 sz7 K7=>?_
   simp only[sQ] at K7⊢
   have c6:=(K7.cv 2).n4
   go_wp2
   refine bodyPost_ret (v:= .tuple #[NV (atO p q nd ns ns.length),iI 0]) (by simp[results,Tryz.results58,go_sem,c6]) rfl ⟨rfl,HB7⟩
def atE(p q d nd:Int)(ns:List Int):Int:=if dcE p q d ns=0 then (if ndB nd then 0 else 2) else dcE p q d ns
def atX(p q d nd:Int)(ns:List Int):Int:=if atE p q d nd ns=0 then atO p q nd ns ns.length else 0
theorem dcE_0{p q d:Int}{ns:List Int}(h:dcE p q d ns=0):gOk p q/\ndB d=true/\1<=ns.length/\ns.length<=6/\ns.all (isB p q)=true:=by
 unfold dcE at h
 by_cases c:gOk p q
 ·rw[if_pos c] at h
  split at h
  ·rename_i h2
   simp only[Bool.and_eq_true,decide_eq_true_eq] at h2
   exact⟨c,h2.1.1,h2.1.2.1,h2.1.2.2,h2.2⟩
  ·omega
 ·rw[if_neg c] at h;omega
theorem xAtK(p q g h d nd:Int)(ns:List Int)(v:Value)(w:World)(hp:In p)(hq:In q)(hv:NL w v ns)(hns: ∀z∈ns,In z)(hl:ns.length<=256)(e0:atE p q d nd ns=0):CC 58 #[GX p q g h,DX d v,iI nd] w (.tuple #[NV (atX p q d nd ns),iI 0]):=by
 have a':=hv
 obtain⟨sl,gb,go,cap,rfl,h2,h3,h4,h5,h6⟩:=hv
 have c:dcE p q d ns=0/\ndB nd=true:=by
  have e:=e0
  unfold atE at e
  by_cases h1:dcE p q d ns=0
  ·rw[if_pos h1] at e
   exact⟨h1,by by_cases h2:ndB nd=true;exact h2;rw[if_neg h2] at e;cases e⟩
  ·rw[if_neg h1] at e;exact absurd e h1
 obtain⟨c1,c2,c3,c4,c5⟩:=dcE_0 c.1
 have hN:=fun u=>xNode nd u
 rw[c.2] at hN
 have hb:=ndB_iff.1 c.2
 have hq3:=c1.q3
 have hp7:=c1.2
 rw[atX,if_pos e0]
 exact xat_k p q g h d nd sl gb go cap ns w (fun u hB=>xCheckDK p q g h d ns _ u hp hq (a'.up hB) hns hl c1 c2 Z1 (all_get.1 c5)) hN hp hq Z1 Z1 Z1 Z1 (NL.ix (u:=w) h4) h5 h6 (Yb hns) Z1
theorem xver_k(p q g h d nd s t a b c ev:Int)(sl:Option Addr)(cap n:Nat)(w:World)(he:(ev !=0)=false)(hc:(c !=0)=false)(hA:Hid (∀u,Bw w u->CC 58 #[GX p q g h,DX d (.slice sl n cap),iI nd] u (.tuple #[NV a,iI ev])))(hM:Hid (∀u,CC 59 #[GX p q g h,NV s,NV t] u (.tuple #[NV b,iI c])))(ia:In a)(ib:In b)(hx:decide (b=a)=!false):
 CC 33 #[GX p q g h,DX d (.slice sl n cap),SX nd s t] w (iI 0):=by
 go_enter Tryz.func33,Tryz.ntmps33
 go_upto_region 1 with fail
 obtain⟨v0,hC,HB0,K0⟩:=bx3 w (GE p q g h) 26 (DE d (.slice sl n cap)) 33 (SE nd s t) 39
 rw[hC]
 clear hC
 refine Rp K0 HB0 [] [(8,7,L0s,some (9,LN a))] (cG 0 11 [_,_,_,_,_] [(5,10,_),(6,16,_),(7,17,_),(10,8,_)]) [(9,8)] [] [] (Od8 (g_ld 0 Tryz.underlying26 Z4) (g_ld 1 Tryz.underlying33 Z8) (g_fd (fdS0 _)) (g_lc 2 0 lI) (g_cb Va hA.out) g_mv g_ex g_ex<|Oc3 (g_al 0 aN) (g_sn 0 iN) g_as) fun u1 b1_8 HB1 _ K1=>?_
 simp only[sQ] at K1⊢
 go_upto_region 2 with fail
 refine Rn K1 HB1 [(0,18,_),(1,19,_)] (Oc2 g_mv (g_bn (fun uZ=>Y7 _ _ _ ev 0 _ uZ he))) fun u2 HB2 _ K2=>?_
 simp only[sQ] at K2⊢
 go_upto_region 4 with fail
 refine Rp K2 HB2 [] [(9,9,L0s,some (10,LN b))] (cG 0 22 [_,_,_,_,_,_] [(6,21,_),(7,28,_),(8,29,_),(11,8,_)]) [(10,9)] [] [] (Od8 (g_ld 0 Tryz.underlying26 Z4) (g_fd (fdS1 _)) (g_lo 2 1 uN iN) (g_fd (fdS2 _)) (g_lo 2 5 uN iN) (g_cl ent_K3 hM.out) g_mv g_ex<|Oc4 g_ex (g_al 0 aN) (g_sn 0 iN) g_as) fun u3 b3_9 HB3 _ K3=>?_
 simp only[sQ] at K3⊢
 go_upto_region 5 with fail
 refine Rn K3 HB3 [(0,30,_),(1,31,_)] (Oc2 g_mv (g_bn (fun uZ=>Y7 _ _ _ c 0 _ uZ hc))) fun u4 HB4 _ K4=>?_
 simp only[sQ] at K4⊢
 go_upto_region 7 with fail
 refine Rn K4 HB4 (cG 0 32 [_,_,_] []) (Oc3 (g_ld 4 uN iN) (g_ld 3 uN iN) (g_bn (Up _ _ ib ia false hx))) fun u5 HB5 _ K5=>?_
 simp only[sQ] at K5⊢
 go_upto_region 9 with fail
 refine Rn K5 HB5 [(0,6,_)] (Oc1 g_as) fun u6 HB6 _ K6=>?_
 simp only[sQ] at K6⊢
 go_wp2
 refine bodyPost_ret (v:=iI 0) (by simp[results,Tryz.results33,go_sem,]) rfl ⟨rfl,HB6⟩
theorem xVerifyG(p q g h d nd s t:Int)(ns:List Int)(v:Value)(w:World)(hp:In p)(hq:In q)(hg:In g)(hh:In h)(hs:In s)(ht:In t)(hv:NL w v ns)(hns: ∀z∈ns,In z)(hl:ns.length<=256)(c:atE p q d nd ns=0)(c1:coE p q g h=0)(c2:coX p q g h s t=atX p q d nd ns):CC 33 #[GX p q g h,DX d v,SX nd s t] w (iI 0):=by
 have a':=hv
 obtain⟨sl,gb,go,cap,rfl,_⟩:=hv
 have hA:=fun u (hB:Bw w u)=>xAtK p q g h d nd ns _ u hp hq (a'.up hB) hns hl c
 have cb:isB p q g=true/\isB p q h=true:=by
  unfold coE at c1
  split at c1
  ·rename_i h1;simpa using h1
  ·cases c1
 have hM:=fun u=>xCommitK p q g h s t u hp hq hg hh hs ht cb.1 cb.2
 have ic:In (coX p q g h s t):=by
  unfold coX;split
  ·have c2:isB p q g=true:=by rename_i h1;simp only[Bool.and_eq_true] at h1;exact h1.1
   exact Zt hp (by have:=(isB_t c2).1.2;omega)
  ·exact In_0
 have ia:In (atX p q d nd ns):=by
  unfold atX;rw[if_pos c]
  have c3:dcE p q d ns=0:=by
   unfold atE at c
   by_cases h1:dcE p q d ns=0
   ·exact h1
   ·rw[if_neg h1] at c;exact c
  exact atO_In hp (by have:=(dcE_0 c3).1.2;omega) _
 exact xver_k p q g h d nd s t _ _ _ _ sl cap _ w rfl rfl hA hM ia ic (by simp[c2])
end
section
open Go.RowKit Go.Extern.Stop Go.Stop Go.Extern Go.Extern.Rtype
inductive EW (n:Int):Value->Prop
 | leaf:EW n (.iface 34 (iI n))
 | wrap (s:ByteArray) (k:Value):EW n k->EW n (.iface 149 (.agg #[.string s,k]))
theorem EW.some{n:Int}{v:Value}(h:EW n v): ∃T x,v= .iface T x:=by
 cases h with
 | leaf=>exact⟨_,_,rfl⟩
 | wrap s k _=>exact⟨_,_,rfl⟩
theorem cUnFG(s:ByteArray)(k:Value)(w:World)(hk: ∃T x,k= .iface T x):CC 209 #[.agg #[.string s,k]] w k:=by
 obtain⟨T,x,rfl⟩:=hk
 go_enter Tryz.func209,Tryz.ntmps209
 go_wp2
 exact bodyPost_ret (v:= .iface T x) (by simp[results,Tryz.results209,go_sem]) rfl ⟨rfl,Z5 (Zf w) _⟩
theorem Tryz.noIsEG(v:Value)(xT:TypeId)(w:World):(Instr.typeAssert (.iface 34 v) xT 141 true).run Tryz.prog w= .ok (.tuple #[.nilIface,.bool false]) w:=run_typeAssert_lacksB Tryz.underlying141 (by kernel_rfl) (by kernel_rfl) v xT w
theorem Tryz.noIsFG(v:Value)(xT:TypeId)(w:World):(Instr.typeAssert (.iface 149 v) xT 141 true).run Tryz.prog w= .ok (.tuple #[.nilIface,.bool false]) w:=run_typeAssert_lacksB Tryz.underlying141 (by kernel_rfl) (by kernel_rfl) v xT w
theorem Tryz.noUnEG(v:Value)(xT:TypeId)(w:World):(Instr.typeAssert (.iface 34 v) xT 144 true).run Tryz.prog w= .ok (.tuple #[.nilIface,.bool false]) w:=run_typeAssert_lacksB Tryz.underlying144 (by kernel_rfl) (by kernel_rfl) v xT w
theorem Tryz.noUsEG(v:Value)(xT:TypeId)(w:World):(Instr.typeAssert (.iface 34 v) xT 146 true).run Tryz.prog w= .ok (.tuple #[.nilIface,.bool false]) w:=run_typeAssert_lacksB Tryz.underlying146 (by kernel_rfl) (by kernel_rfl) v xT w
theorem Tryz.unFG(v:Value)(xT:TypeId)(w:World):(Instr.typeAssert (.iface 149 v) xT 144 true).run Tryz.prog w= .ok (.tuple #[.iface 149 v,.bool true]) w:=run_typeAssert_hasB Tryz.underlying144 (by kernel_rfl) v xT w
theorem infoEG:(Tryz.prog.info? 34).map (·.comparable)=some true:=by kernel_rfl
theorem eqlEG(a b:Int)(w:World):(binOp .eql 49 (.iface 34 (iI a)) (.iface 34 (iI b))).run Tryz.prog w= .ok (.bool (a==b)) w:=by
 obtain⟨i,hi,hc⟩:=Option.map_eq_some_iff.1 infoEG
 have h1:=run_underlying (w:=w) Tryz.underlying49
 have h2:=run_underlying (w:=w) Tryz.underlying34
 have h3: ∀d,(Op.equalIn (d+2) 49 (.iface 34 (iI a)) (.iface 34 (iI b))).run Tryz.prog w= .ok (a==b) w:=fun d=>by
  simp[Op.equalIn,h1,h2,typeInfo,hi,hc]
 simp only[binOp]
 simp[Op.equal,Op.maxDepth,h3 9998]
theorem cIs0G(t n:Int)(w:World)(v:Value)(h:EW n v)(r:Bool)(er:(n==t)=r):
 CC 65 #[v,.iface 34 (iI t),.bool true] w (.bool r):=by
 have nE:=Tryz.noIsEG
 have nF:=Tryz.noIsFG
 have uE:=Tryz.noUnEG
 have sE:=Tryz.noUsEG
 have uF:=Tryz.unFG
 have qE:=fun(a:Int) (u:World)=>eqlEG a t u
 have qF:=fun(x:Value) (u:World)=>run_eql_iface_types (P:=Tryz.prog) 149 34 x (iI t) Tryz.underlying49 Z2 u
 go_enter Tryz.func65,Tryz.ntmps65
 go_wp2_with fail
 go_loopw [0] (fun s0 wr=>EW n s0/\Bw w wr) (fun s0 _=>SizeOf.sizeOf s0)
 case atStart=>exact⟨h,Below.refl _ _⟩
 case round=>
  obtain⟨hv,HBr⟩:=hrel
  cases hv with
  | leaf=>
   cases r with
   | true=>
    go_wp2
    exact bodyPost_ret (v:= .bool true) (by simp[results,Tryz.results65,go_sem]) rfl ⟨rfl,HBr⟩
   | false=>
    go_wp2
    exact bodyPost_ret (v:= .bool false) (by simp[results,Tryz.results65,go_sem]) rfl ⟨rfl,HBr⟩
  | wrap s k hk=>
   obtain⟨T,x,rfl⟩:=hk.some
   have hU:=cUnFG s (.iface T x) wr ⟨_,_,rfl⟩
   have hk:Hid _:=hk
   go_wp2_with (go_at_call 209;refine hU.mono ?_;clear hU;rintro e ua ⟨rfl,hBa⟩)
   refine⟨⟨hk.out,Z7 HBr hBa⟩,?_⟩
   simp;omega
theorem Tryz.isTypeOfG(v:Value)(w:World):(Extern.ReflectliteType.typeOf #[.iface 34 v]).run Tryz.prog w= .ok (.iface 139 (.agg #[.pointer (some ⟨6,34,none⟩)])) w:=by kernel_rfl
def cmpXG:Array Value->Sem Value:=Extern.ReflectliteType.method fun t=>do noPackHeld "Comparable" t;pure (.bool (<-typeInfo t).comparable)
theorem Tryz.isComparableG(w:World):(cmpXG #[.agg #[.pointer (some ⟨6,34,none⟩)]]).run Tryz.prog w= .ok (.bool true) w:=by kernel_rfl
theorem cIsN(t:Int)(w:World):CC 39 #[.nilIface,.iface 34 (iI t)] w (.bool false):=by
 have hn:=run_eql_iface_nil_left (P:=Tryz.prog) w 34 (iI t) Tryz.underlying49
 go_enter Tryz.func39,Tryz.ntmps39
 go_wp2
 exact bodyPost_ret (v:= .bool false) (by simp[results,Tryz.results39,go_sem]) rfl ⟨rfl,Below.refl _ _⟩
theorem cIsGq(t n:Int)(w:World)(v:Value)(h:EW n v)(r:Bool)(er:(n==t)=r):CC 39 #[v,.iface 34 (iI t)] w (.bool r):=by
 have h8:= @run_callFunc_extern Tryz.prog 64 _ Extern.ReflectliteType.typeOf Tryz.func64 (by kernel_rfl) (by kernel_rfl) (by kernel_rfl) (by kernel_rfl)
 have h32:= @run_callFunc_extern Tryz.prog 199 _ cmpXG Tryz.func199 (by kernel_rfl) (by kernel_rfl) (by kernel_rfl) (by kernel_rfl)
 have tT:=Tryz.isTypeOfG
 have cT:=Tryz.isComparableG
 have hI:=cIs0G t n w v h r er
 obtain⟨T,x,rfl⟩:=h.some
 go_enter Tryz.func39,Tryz.ntmps39
 go_wp2_with (go_at_call 65;refine hI.mono ?_;clear hI;rintro e ub ⟨rfl,hBb⟩)
 exact bodyPost_ret (v:= .bool r) (by simp[results,Tryz.results39,go_sem]) rfl ⟨rfl,hBb⟩
theorem ixE0(u:World):(Instr.index 151 (.agg #[iI 2,iI 90]) (iI 0)).run Tryz.prog u= .ok (iI 2) u:=by kernel_rfl
theorem ixE1(u:World):(Instr.index 151 (.agg #[iI 2,iI 90]) (iI 1)).run Tryz.prog u= .ok (iI 90) u:=by kernel_rfl
theorem gTold_core(v:Value)(f2 f9:Bool)(m:Int)(w:World)(hv:v= .nilIface\/ ∃T x,v= .iface T x)(hm:m=if f2 then 2 else if f9 then 90 else 0)
 (hI:Hid (∀u,CC 39 #[v,.iface 34 (iI 2)] u (.bool f2)))
 (hJ:Hid (∀u,CC 39 #[v,.iface 34 (iI 90)] u (.bool f9))):
 CC 67 #[v] w (iI m):=by
 have hm:Hid _:=hm
 have u3:=Tryz.underlying34
 have a3:=Tryz.isAgg34
 have z3:=Tryz.sizeOf34
 have x0:=fun u:World=>ixE0 u
 have x1:=fun u:World=>ixE1 u
 rcases hv with rfl | ⟨T,x,rfl⟩
 all_goals
  go_enter Tryz.func67,Tryz.ntmps67
  go_wp2_with fail
  go_loopw [6] (fun s6 wr=>(s6=iI 0\/(s6=iI 1/\f2=false)\/(s6=iI 2/\f2=false/\f9=false))/\Bw w wr) (fun s6 _=>2 -(intOf s6).toNat)
  case atStart=>exact⟨.inl rfl,Below.refl _ _⟩
  case round=>
   obtain⟨h,HBr⟩:=hrel
   rcases h with rfl | ⟨rfl,hf⟩ | ⟨rfl,hf,hg⟩
   ·have hI:=hI.out wr
    cases f2 with
    | true=>
     go_wp2_with (go_at_call 39;refine hI.mono ?_;clear hI;rintro e ua ⟨rfl,hBa⟩)
     have hm2:=hm.out
     simp at hm2
     subst hm2
     exact bodyPost_ret (v:=iI 2) (by simp[results,Tryz.results67,go_sem]) rfl ⟨rfl,Z7 HBr hBa⟩
    | false=>
     go_wp2_with (go_at_call 39;refine hI.mono ?_;clear hI;rintro e ua ⟨rfl,hBa⟩)
     exact⟨⟨.inr (.inl ⟨by simp,by simp⟩),Z7 HBr hBa⟩,by simp[intOf]⟩
   ·subst hf
    have hJ:=hJ.out wr
    cases f9 with
    | true=>
     go_wp2_with (go_at_call 39;refine hJ.mono ?_;clear hJ;rintro e ua ⟨rfl,hBa⟩)
     have hm2:=hm.out
     simp at hm2
     subst hm2
     exact bodyPost_ret (v:=iI 90) (by simp[results,Tryz.results67,go_sem]) rfl ⟨rfl,Z7 HBr hBa⟩
    | false=>
     go_wp2_with (go_at_call 39;refine hJ.mono ?_;clear hJ;rintro e ua ⟨rfl,hBa⟩)
     exact⟨⟨.inr (.inr ⟨by simp,by simp,by simp⟩),Z7 HBr hBa⟩,by simp[intOf]⟩
   ·subst hf hg
    go_wp2
    have hm2:=hm.out
    simp at hm2
    subst hm2
    exact bodyPost_ret (v:=iI 0) (by simp[results,Tryz.results67,go_sem]) rfl ⟨rfl,HBr⟩
theorem gToldN(w:World):CC 67 #[.nilIface] w (iI 0):=
 gTold_core _ false false 0 w (.inl rfl) rfl (fun u=>cIsN 2 u) (fun u=>cIsN 90 u)
theorem gTold9(v:Value)(w:World)(h:EW 90 v):CC 67 #[v] w (iI 90):=
 gTold_core _ false true 90 w (.inr h.some) rfl (fun u=>cIsGq 2 90 u v h _ rfl) (fun u=>cIsGq 90 90 u v h _ rfl)
end
section
open Go.RowKit
def mlB(p q:Int)(ns:List Int):Bool:=decide (gOk p q)&&ns.all (isB p q)
def mlE(p q:Int)(ns:List Int):Int:=if mlB p q ns then 0 else 90
def mlX(p q:Int)(ns:List Int):Int:=if mlB p q ns then gat (fun a b=>(a*b)%p) (1%p) ns ns.length else 0
section
def txG(n:Int):ByteArray:=strOfNums (txl (D0 n) (D1 n) (D2 n) (D3 n) (nd (D0 n) (D1 n) (D2 n) (D3 n)))
theorem nTextG(n:Int)(w:World):CC 98 #[NV n] w (.string (txG n)):=Text_any _ _ _ _ w (W_D0 n) (W_D1 n) (W_D2 n) (W_D3 n)
theorem tx_szG(n:Int):(txG n).size<=64:=by
 unfold txG
 rw[strOfNums_size]
 unfold txl
 rw[List.length_map,List.length_range]
 have:=blen_bd _ _ _ _ (W_D0 n) (W_D1 n) (W_D2 n) (W_D3 n)
 unfold nd
 split<;>omega
structure GT(w:World):Prop where
 sz:1<w.heap.size
 tab:Lib.TabIs Tryz.prog w "internal/strconv.uint64pow10" .u64 Lib.pow10Tab
theorem gPowG:Tryz.prog.globalNamed "internal/strconv.uint64pow10" =some 1:=by kernel_rfl
theorem GT.below{w u:World}(h:GT w)(hB:Bw w u):GT u where
 sz:=Nat.lt_of_lt_of_le h.sz hB.size
 tab:=Go.Joins.tab_stays gPowG h.tab hB (Nat.le_refl _)
theorem below_growG(w:World)(k:Nat)(os:Array Obj):Bw w (Go.Sort.grow (w.drewN k) os):=by
 have h1:(w.drewN k).heap=w.heap:=rfl
 exact⟨rfl,rfl,rfl,by simp[Go.Sort.grow,h1],fun i hi=>by simp[Go.Sort.grow,h1,Array.getElem?_append_left hi]⟩
def iaG(n:Int):ByteArray:=⟨(Lib.itoa n).toArray⟩
theorem ia_szG(n:Int)(h0: -9223372036854775808<=n)(h1:n<=9223372036854775807):(iaG n).size<=21:=by
 have:=Lib.itoa_length_le n h0 h1
 simpa [iaG,ByteArray.size] using this
theorem cItoaG(n:Int)(w:World)(h0: -9223372036854775808<=n)(h1:n<=9223372036854775807)(hG:GT w):CC 38 #[iI n] w (.string (iaG n)):=by
 refine(Tryz.strconv_Itoa n h0 h1 w hG.tab).mono ?_
 rintro e u ⟨rfl,k,os,rfl⟩
 exact⟨rfl,below_growG w k os⟩
section
variable {R:Rg} {P:Program} {Q:Exit->Act->World->Prop} {ops:Array Oper} {i:Nat} {o:Oper}
theorem Ud{T:TypeId}{x:Operand}{vx v:Value}(hr: ∀w,(Instr.makeInterface T vx).run P w= .ok v w)(hop:o.op= .makeInterface T x:=by rfl)(hx:evR R i o x=some vx:=by rfl)(hv:some v=Y3 i R.G:=by rfl)(hc:R.chk ops i o=true:=by rfl):OG R P ops Q i o:=
 g_op (fun ev u he=>by
  unfold execOp;rw[hop];simp only[he _ _ hx]
  rw[Sem.run_bind,hr,Result.andThen_ok,Sem.run_pure]) hv hc
end
theorem miEG(n:Int)(w:World):(Instr.makeInterface 34 (iI n)).run Tryz.prog w= .ok (.iface 34 (iI n)) w:=by kernel_rfl
theorem miFG(s:ByteArray)(T:TypeId)(x:Value)(w:World):(Instr.makeInterface 149 (.agg #[.string s,.iface T x])).run Tryz.prog w= .ok (.iface 149 (.agg #[.string s,.iface T x])) w:=by kernel_rfl
theorem bdFlG(s:ByteArray)(T:TypeId)(x:Value)(w:World):(Instr.build 149 [(0,.string s),(1,.iface T x)].toArray).run Tryz.prog w= .ok (.agg #[.string s,.iface T x]) w:=by kernel_rfl
theorem add_stG(p q:Operand)(s t:ByteArray)(w:World)(h:s.size+t.size<=1000):(do eqGuard .add 9 p q (.string s) (.string t);binOp .add 9 (.string s) (.string t):Sem Value).run Tryz.prog w= .ok (.string (s++t)) w:=by
 have h2: ¬9223372036854775807<s.size+t.size:=Z1
 go_simp
theorem neq_noG(p:Operand)(c:Value)(w:World):(do eqGuard .neq 49 p (.const c) .nilIface .nilIface;binOp .neq 49 .nilIface .nilIface:Sem Value).run Tryz.prog w= .ok (.bool false) w:=by go_simp
theorem neq_erG(p q:Operand)(T:TypeId)(x:Value)(w:World):(do eqGuard .neq 49 p q (.iface T x) .nilIface;binOp .neq 49 (.iface T x) .nilIface:Sem Value).run Tryz.prog w= .ok (.bool true) w:=by go_simp
theorem lss_z(p q:Operand)(x y:Int)(b:Bool)(w:World)(h:decide (x<y)=b):(do eqGuard .lss 3 p q (iI x) (iI y);binOp .lss 3 (iI x) (iI y):Sem Value).run Tryz.prog w= .ok (.bool b) w:=by
 subst h;go_simp
theorem geq_y(p q:Operand)(x y:Int)(b:Bool)(w:World)(h:decide (y<=x)=b):(do eqGuard .geq 3 p q (iI x) (iI y);binOp .geq 3 (iI x) (iI y):Sem Value).run Tryz.prog w= .ok (.bool b) w:=by
 subst h;go_simp
theorem neq_w8(p q:Operand)(a b c d e f g h a' b' c' d' e' f' g' h':Int)(w:World):(do eqGuard .neq 91 p q (A8 a b c d e f g h) (A8 a' b' c' d' e' f' g' h');binOp .neq 91 (A8 a b c d e f g h) (A8 a' b' c' d' e' f' g' h'):Sem Value).run Tryz.prog w= .ok (.bool (!eq8 a b c d e f g h a' b' c' d' e' f' g' h')) w:=by
 go_simp
theorem neq_ww(p q:Operand){n m:Int}(hn:In n)(hm:In m)(b:Bool)(hb:decide (n=m)=!b)(w:World):(do eqGuard .neq 91 p q (WV n) (WV m);binOp .neq 91 (WV n) (WV m):Sem Value).run Tryz.prog w= .ok (.bool b) w:=by
 have e1:D4 n=0:=by unfold D4;exact Int.ediv_eq_zero_of_lt hn.1 hn.2
 have e2:D4 m=0:=by unfold D4;exact Int.ediv_eq_zero_of_lt hm.1 hm.2
 have e3:eq8 (D0 n) (D1 n) (D2 n) (D3 n) (D0 0) (D1 0) (D2 0) (D3 0) (D0 m) (D1 m) (D2 m) (D3 m) (D0 0) (D1 0) (D2 0) (D3 0)=!b:=by
  rw[<-hb,<-eq4_N hn hm];simp[eq8,eq4]
 rw[neq_w8,e1,e2,e3,Bool.not_not]
theorem Xa:EnT 98:=fun _ _=>by kernel_rfl
theorem Ut:EnT 38:=fun _ _=>by kernel_rfl
theorem Wn:EnT 73:=fun _ _=>by kernel_rfl
theorem Vx:EnT 89:=fun _ _=>by kernel_rfl
theorem Vd:EnT 66:=fun _ _=>by kernel_rfl
theorem Tc:EnT 67:=fun _ _=>by kernel_rfl
def sP1:ByteArray:=⟨#[80,32,105,115,32,111,110,108,121,32]⟩
def sX1:ByteArray:=⟨#[32,105,115,32,110,111,116,32,102,114,111,109,32,49,32,116,111,32,80,32,45,32,49]⟩
def sX2:ByteArray:=⟨#[32,116,111,32,116,104,101,32,81,32,105,115,32,110,111,116,32,49]⟩
def sM2:ByteArray:=⟨#[110,117,109,98,101,114,32]⟩
def grV(p q:Int):Value:=if p<7 then .iface 149 (.agg #[.string (sP1++txG p),(.iface 34 (iI 90))]) else if p%2=0 then .iface 149 (.agg #[.string ⟨#[80,32,105,115,32,101,118,101,110]⟩,(.iface 34 (iI 90))]) else if p/2=q then .nilIface else .iface 149 (.agg #[.string ⟨#[80,32,105,115,32,110,111,116,32,50,32,81,32,97,110,100,32,49]⟩,(.iface 34 (iI 90))])
def mbV(p q x:Int):Value:=if x=0\/p<=x then .iface 149 (.agg #[.string (txG x++sX1),(.iface 34 (iI 90))]) else if x^q.toNat%p=1 then .nilIface else .iface 149 (.agg #[.string (txG x++sX2),(.iface 34 (iI 90))])
theorem group_0(p q g h c:Int)(re:Value)(w:World)(hp:In p)(hq:In q)(i2:In 2)(iq:In (p/2))(hC:Hid (∀u,CC 97 #[NV p,NV 7] u (iI c)))(im:In (p%2))(hR:Hid (re=if decide (c<0) then .iface 149 (.agg #[.string (sP1++txG p),(.iface 34 (iI 90))]) else if decide (p%2=0) then .iface 149 (.agg #[.string ⟨#[80,32,105,115,32,101,118,101,110]⟩,(.iface 34 (iI 90))]) else if decide (p/2=q) then .nilIface else .iface 149 (.agg #[.string ⟨#[80,32,105,115,32,110,111,116,32,50,32,81,32,97,110,100,32,49]⟩,(.iface 34 (iI 90))]))):CC 73 #[GX p q g h] w re:=by
 go_enter Tryz.func73,Tryz.ntmps73
 go_upto_region 1 with fail
 obtain⟨v0,hC,HB0,K0⟩:=bx1 w (GE p q g h) 26
 rw[hC]
 clear hC
 go_upto_region 1 with fail
 refine Rp K0 HB0 [] [(9,3,L0w,some (11,LW (p/2))),(10,4,L0s,some (12,LN (p%2)))] (cG 0 7 [_,_,_,_,_] [(5,6,_),(6,12,_),(7,13,_),(8,14,_),(13,5,_)]) [(11,9),(12,10)] [] [] (Od8 (g_fd (fdG0 _)) (g_lo 0 0 uN iN) (g_cl Zl (fun uZ=>W6 p uZ hp)) (g_cl Zn (fun uZ=>nOf 2 uZ Z2 Z2)) (g_cl Vc (fun uZ=>nDivide p 2 uZ hp.wide i2 Z2)) g_mv g_ex g_ex<|Oc6 g_ex (g_al 0 aW) (g_al 1 aN) (g_sn 0 iW) (g_sn 1 iN) g_as) fun u1 b1_9 b1_10 HB1 _ K1=>?_
 simp only[sQ] at K1⊢
 cases hc:decide (c<0)
 ·skip
  go_upto_region 2 with fail
  refine Rm K1 HB1 (cG 0 16 [_,_,_,_,_] [(5,15,_)]) (Oc6 (g_fd (fdG0 _)) (g_lo 0 0 uN iN) (g_cl Zn (fun uZ=>nOf 7 uZ Z2 Z2)) (g_cl Y5 hC.out) (g_bn (fun uZ=>lss_z _ _ _ _ _ uZ hc)) g_as) fun u2 HB2 sz2 K2=>?_
  simp only[sQ] at K2⊢
  cases h2:decide (p%2=0)
  ·skip
   go_upto_region 4 with fail
   refine Rp K2 HB2 [] [] (cG 0 29 [_,_,_] [(3,28,_)]) [] [] [true,true,false] (Oc4 (g_ld 2 uN iN) (g_bd zN) (g_bn (eql_0 _ _ im _ h2)) g_as) fun u3 HB3 sz3 K3=>?_
   simp only[sQ] at K3⊢
   cases h3:decide (p/2=q)
   ·skip
    go_upto_region 6 with fail
    refine Rd K3 HB3 [] [] (cG 0 36 [_,_,_,_,_] [(5,35,_)]) [] [] [false,false] (Oc6 (g_ld 1 uW iW) (g_fd (fdG1 _)) (g_lo 0 4 uN iN) (g_cl Zl (fun uZ=>W6 q uZ hq)) (g_bn (neq_ww _ _ iq hq true h3)) g_as) fun u4 HB4 sz4 K4=>?_
    simp only[sQ] at K4⊢
    go_upto_region 7 with fail
    refine Rn K4 HB4 (cG 0 41 [_,_,_] [(3,2,_)]) (Oc4 (Ud (miEG 90)) (g_bd (bdFlG ⟨#[80,32,105,115,32,110,111,116,32,50,32,81,32,97,110,100,32,49]⟩ _ _)) (Ud (miFG ⟨#[80,32,105,115,32,110,111,116,32,50,32,81,32,97,110,100,32,49]⟩ _ _)) g_as) fun u5 HB5 sz5 K5=>?_
    simp only[sQ] at K5⊢
    go_wp2
    refine bodyPost_ret (v:= .iface 149 (.agg #[.string ⟨#[80,32,105,115,32,110,111,116,32,50,32,81,32,97,110,100,32,49]⟩,(.iface 34 (iI 90))])) (by simp[results,Tryz.results73,go_sem,]) rfl ⟨by rw[hR.out,hc,h2,h3];rfl,HB5⟩
   ·skip
    go_upto_region 6 with fail
    refine Rd K3 HB3 [] [] (cG 0 36 [_,_,_,_,_] [(5,35,_)]) [] [] [false,false] (Oc6 (g_ld 1 uW iW) (g_fd (fdG1 _)) (g_lo 0 4 uN iN) (g_cl Zl (fun uZ=>W6 q uZ hq)) (g_bn (neq_ww _ _ iq hq false h3)) g_as) fun u4 HB4 sz4 K4=>?_
    simp only[sQ] at K4⊢
    go_upto_region 8 with fail
    refine Rn K4 HB4 [(0,2,_)] (Oc1 g_as) fun u5 HB5 sz5 K5=>?_
    simp only[sQ] at K5⊢
    go_wp2
    refine bodyPost_ret (v:= .nilIface) (by simp[results,Tryz.results73,go_sem,]) rfl ⟨by rw[hR.out,hc,h2,h3];rfl,HB5⟩
  ·skip
   go_upto_region 4 with fail
   refine Rp K2 HB2 [] [] (cG 0 29 [_,_,_] [(3,28,_)]) [] [] [false,false,false] (Oc4 (g_ld 2 uN iN) (g_bd zN) (g_bn (eql_0 _ _ im _ h2)) g_as) fun u3 HB3 sz3 K3=>?_
   simp only[sQ] at K3⊢
   go_upto_region 5 with fail
   refine Rn K3 HB3 (cG 0 32 [_,_,_] [(3,2,_)]) (Oc4 (Ud (miEG 90)) (g_bd (bdFlG ⟨#[80,32,105,115,32,101,118,101,110]⟩ _ _)) (Ud (miFG ⟨#[80,32,105,115,32,101,118,101,110]⟩ _ _)) g_as) fun u4 HB4 sz4 K4=>?_
   simp only[sQ] at K4⊢
   go_wp2
   refine bodyPost_ret (v:= .iface 149 (.agg #[.string ⟨#[80,32,105,115,32,101,118,101,110]⟩,(.iface 34 (iI 90))])) (by simp[results,Tryz.results73,go_sem,]) rfl ⟨by rw[hR.out,hc,h2];rfl,HB4⟩
 ·skip
  go_upto_region 2 with fail
  refine Rd K1 HB1 [] [] (cG 0 16 [_,_,_,_,_] [(5,15,_)]) [] [] [true,false,false] (Oc6 (g_fd (fdG0 _)) (g_lo 0 0 uN iN) (g_cl Zn (fun uZ=>nOf 7 uZ Z2 Z2)) (g_cl Y5 hC.out) (g_bn (fun uZ=>lss_z _ _ _ _ _ uZ hc)) g_as) fun u2 HB2 sz2 K2=>?_
  simp only[sQ] at K2⊢
  go_upto_region 3 with fail
  refine Rp K2 HB2 [] [] (cG 0 21 [_,_,_,_,_,_,_] [(7,2,_)]) [] [] [false] (Oc8 (g_fd (fdG0 _)) (g_lo 0 0 uN iN) (g_cl Xa (nTextG p)) (g_bn (fun uZ=>add_stG _ _ sP1 (txG p) uZ (by have:=tx_szG p;have:sP1.size=10:=rfl;omega))) (Ud (miEG 90)) (g_bd (bdFlG (sP1++txG p) _ _)) (Ud (miFG (sP1++txG p) _ _)) g_as) fun u3 HB3 sz3 K3=>?_
  simp only[sQ] at K3⊢
  go_wp2
  refine bodyPost_ret (v:= .iface 149 (.agg #[.string (sP1++txG p),(.iface 34 (iI 90))])) (by simp[results,Tryz.results73,go_sem,]) rfl ⟨by rw[hR.out,hc];rfl,HB3⟩
theorem gGroup(p q g h:Int)(w:World)(hp:In p)(hq:In q):CC 73 #[GX p q g h] w (grV p q):=by
 have i2:In 2:=⟨Z2,Z2⟩
 have i7:In 7:=⟨Z2,Z2⟩
 have iq:In (p/2):=by have:=hp.1;have:=hp.2;exact⟨Z1,Z1⟩
 have im:In (p%2):=Zt i2 Z2
 have hC:Hid (∀u,CC 97 #[NV p,NV 7] u (iI (cmpI p 7))):=fun u=>nCompare p 7 u hp i7
 refine group_0 p q g h _ _ w hp hq i2 iq hC im ?_
 show grV p q=_
 have hc:decide (cmpI p 7<0)=decide (p<7):=by
  unfold cmpI
  by_cases h1:p<7
  ·rw[if_pos h1,decide_eq_true h1];rfl
  ·rw[if_neg h1,decide_eq_false h1];split<;>rfl
 rw[hc];simp only[grV,decide_eq_true_eq]
theorem grV_is(p q:Int):(gOk p q/\grV p q= .nilIface)\/(¬gOk p q/\EW 90 (grV p q)):=by
 unfold grV gOk
 by_cases h1:p<7
 ·rw[if_pos h1];exact .inr ⟨Z1,.wrap _ _ .leaf⟩
 ·rw[if_neg h1]
  by_cases h2:p%2=0
  ·rw[if_pos h2];exact .inr ⟨Z1,.wrap _ _ .leaf⟩
  ·rw[if_neg h2]
   by_cases h3:p/2=q
   ·rw[if_pos h3];exact .inl ⟨Z1,rfl⟩
   ·rw[if_neg h3];exact .inr ⟨Z1,.wrap _ _ .leaf⟩
end
end
end Go.Proofs.YtoffgfhilkpdpaaGreatDoor
