import Derived.Test.YtmoimodkopjeeaaGreatDoorRN2
namespace Go.Proofs.YtmoimodkopjeeaaGreatDoor
set_option linter.unusedVariables false
set_option linter.unusedSimpArgs false
set_option maxRecDepth 100000
set_option maxHeartbeats 4000000
open Go.RowKit
def xt(x:Nat):Nat:=if 256<=2*x then (2*x)^^^283 else 2*x
def tmL:Nat->Nat->Nat->Nat->Nat
 | 0,o,_,_=>o
 | n+1,o,x,y=>tmL n (if y%2=1 then o^^^x else o) (xt x) (y/2)
def tm(a b:Nat):Nat:=tmL 8 0 a b
def sbT:List Nat:=[99,124,119,123,242,107,111,197,48,1,103,43,254,215,171,118,202,130,201,125,250,89,71,240,173,212,162,175,156,164,114,192,183,253,147,38,54,63,247,204,52,165,229,241,113,216,49,21,4,199,35,195,24,150,5,154,7,18,128,226,235,39,178,117,9,131,44,26,27,110,90,160,82,59,214,179,41,227,47,132,83,209,0,237,32,252,177,91,106,203,190,57,74,76,88,207,208,239,170,251,67,77,51,133,69,249,2,127,80,60,159,168,81,163,64,143,146,157,56,245,188,182,218,33,16,255,243,210,205,12,19,236,95,151,68,23,196,167,126,61,100,93,25,115,96,129,79,220,34,42,144,136,70,238,184,20,222,94,11,219,224,50,58,10,73,6,36,92,194,211,172,98,145,149,228,121,231,200,55,109,141,213,78,169,108,86,244,234,101,122,174,8,186,120,37,46,28,166,180,198,232,221,116,31,75,189,139,138,112,62,181,102,72,3,246,14,97,53,87,185,134,193,29,158,225,248,152,17,105,217,142,148,155,30,135,233,206,85,40,223,140,161,137,13,191,230,66,104,65,153,45,15,176,84,187,22]
structure BY(n:Nat)(l:List Nat):Prop where
 len:l.length=n
 lt: ∀j,l.getD j 0<256
theorem gset(l:List Nat)(i j x:Nat):(l.set i x).getD j 0=if i=j/\j<l.length then x else l.getD j 0:=by
 rw[List.getD_eq_getElem?_getD,List.getD_eq_getElem?_getD,List.getElem?_set]
 by_cases h:i=j
 ·subst h
  by_cases h2:i<l.length
  ·simp[h2]
  ·simp[h2]
 ·simp[h]
theorem BY.set{n:Nat}{l:List Nat}(h:BY n l)(i x:Nat)(hx:x<256):BY n (l.set i x) where
 len:=by rw[List.length_set];exact h.len
 lt j:=by
  rw[gset];split
  ·exact hx
  ·exact h.lt j
def rcn:Nat->Nat
 | 0=>1
 | i+1=>tm (rcn i) 2
def lsK(w:List Nat)(n p k:Nat):Nat:=
 if n%4=0 then sbT.getD (w.getD (4*n+12+(k+1)%4) 0) 0^^^(if k=0 then p else 0) else w.getD (4*n+12+k) 0
def kw(key:List Nat):Nat->List Nat
 | 0=>key
 | n+1=>kw key n++[(kw key n).getD (4*n) 0^^^lsK (kw key n) n (rcn ((n+3)/4)) 0,(kw key n).getD (4*n+1) 0^^^lsK (kw key n) n (rcn ((n+3)/4)) 1,
  (kw key n).getD (4*n+2) 0^^^lsK (kw key n) n (rcn ((n+3)/4)) 2,(kw key n).getD (4*n+3) 0^^^lsK (kw key n) n (rcn ((n+3)/4)) 3]
theorem gapp1{a b:List Nat}{j:Nat}(h:j<a.length):(a++b).getD j 0=a.getD j 0:=by
 rw[List.getD_eq_getElem?_getD,List.getD_eq_getElem?_getD,List.getElem?_append_left h]
theorem gapp2{a b:List Nat}{j:Nat}(h:a.length<=j):(a++b).getD j 0=b.getD (j -a.length) 0:=by
 rw[List.getD_eq_getElem?_getD,List.getD_eq_getElem?_getD,List.getElem?_append_right h]
theorem BY.app{n m:Nat}{a b:List Nat}(ha:BY n a)(hb:BY m b):BY (n+m) (a++b):=⟨by rw[List.length_append,ha.len,hb.len],fun j=>by
 by_cases h:j<a.length
 ·rw[gapp1 h];exact ha.lt j
 ·rw[gapp2 (by omega)];exact hb.lt _⟩
theorem gtake(l:List Nat)(n:Nat){j:Nat}(h:j<n):(l.take n).getD j 0=l.getD j 0:=by
 rw[List.getD_eq_getElem?_getD,List.getD_eq_getElem?_getD,List.getElem?_take_of_lt h]
theorem gdrop(l:List Nat)(n j:Nat):(l.drop n).getD j 0=l.getD (n+j) 0:=by
 rw[List.getD_eq_getElem?_getD,List.getD_eq_getElem?_getD,List.getElem?_drop]
theorem gout{l:List Nat}{j:Nat}(h:l.length<=j):l.getD j 0=0:=by
 rw[List.getD_eq_getElem?_getD,List.getElem?_eq_none h];rfl
theorem BY.take{m:Nat}{l:List Nat}(h:BY m l)(n:Nat)(hn:n<=m):BY n (l.take n):=⟨by rw[List.length_take,h.len];omega,fun j=>by
 by_cases hj:j<n
 ·rw[gtake l n hj];exact h.lt j
 ·rw[gout (by rw[List.length_take];omega)];decide⟩
theorem BY.drop{m:Nat}{l:List Nat}(h:BY m l)(n:Nat):BY (m -n) (l.drop n):=⟨by rw[List.length_drop,h.len],fun j=>by rw[gdrop];exact h.lt _⟩
abbrev Fld:=Nat×List Nat
def putF:List Fld->List Nat
 | []=>[]
 | (t,b)::l=>t::b.length/256::b.length%256::(b++putF l)
def num8:List Nat->Nat:=List.foldl (fun n b=>256*n+b) 0
theorem NW_full2{u:World}{b n cap:Nat}{xs:List Nat}{zs:List Value}(hl:xs.length=n)(h:CV u b (U8 xs++zs)):NW n (U8 xs) u (.slice (some ⟨b,0,none⟩) n cap):=
 ⟨_,cap,rfl,.inr ⟨_,rfl,fun j v hj=>by rw[Addr.add0];exact(h.pre2 j v hj).1⟩⟩
theorem cExpandR_core(kv:Value)(s:ByteArray)(n:Nat)(tS oS:Nat->List Nat)(w:World)(hn:n<=8160)(hs:s.size<=1000)(ht0:Hid (tS 0=[]))(htB:Hid (∀k,BB 32 (tS (k+1))))(htl:Hid (∀k,(tS k).length<=32))(ho0:Hid (oS 0=[]))(hos:Hid (∀k,oS (k+1)=oS k++tS (k+1)))(hol:Hid (∀k,(oS k).length=32*k))
 (hSu:Hid (∀(k:Nat) (u:World) (z:Value),Bw w u->IN u u.heap.size z ((tS k++txt s)++[(k+1)%256])->CC 164 #[kv,z] u (.agg (U8 (tS (k+1))).toArray))):
 Calls Tryz.prog 155 #[kv,.string s,iI (n:Int)] w fun e w'=> ∃v,e= .returned v/\(∃k,n<=32*k/\PTX 0 ((oS k).take n) w' v)/\Bw w w':=by
 have hbs:=bs0b
 have hn0: ¬(n:Int)<0:=by omega
 have hn1: ¬(8160:Int)<(n:Int):=by omega
 go_enter Tryz.func155,Tryz.ntmps155
 go_wp2_with fail
 go_loopw [10,9,8] (fun s10 s9 s8 wr=> ∃(k bo co:Nat) (zs:List Value),s10=iI ((k+1:Nat):Int)/\s8= .slice (some ⟨bo,0,none⟩) (32*k) co/\32*k<=co/\zs.length=co -32*k/\w.heap.size<=bo/\bo<wr.heap.size/\Hid (CV wr bo (U8 (oS k)++zs))/\Hid (INb wr bo s9 (tS k))/\k<=255/\Bw w wr) (fun _ _ s8 _=>n -lenV s8)
 case atStart=>
  exact⟨0,w.heap.size,0,[],rfl,rfl,by omega,rfl,Nat.le_refl _,by simp;omega,(by rw[ho0.out];exact fun j v h=>by simp[U8] at h),(by rw[ht0.out];exact⟨_,0,w.heap.size+1,0,rfl,Nat.le_refl _,.inl rfl,by simp,by omega,fun j hj=>by simp at hj⟩),by omega,Z1 (Z1 (Z5 w) _) _⟩
 case round=>
  obtain⟨k,bo,co,zs,rfl,rfl,hco,hzl,hbo,hlo,Ko,hlv,hk,HBr⟩:=hrel
  by_cases hj:32*k<n
  ·have hl1:decide (((32*k:Nat):Int)<(n:Int))=true:=by simp;omega
   have hl2:(32:Int)*(k:Int)<(n:Int):=by omega
   have hS:=hSu.out k
   have hT:=htl.out k
   have hTn:=htB.out k
   have hO:=hos.out k
   have hOl:=hol.out k
   obtain⟨tk,etk⟩: ∃x,tS k=x:=⟨_,rfl⟩
   obtain⟨tn,etn⟩: ∃x,tS (k+1)=x:=⟨_,rfl⟩
   obtain⟨ol,eol⟩: ∃x,oS k=x:=⟨_,rfl⟩
   obtain⟨ib,eib⟩: ∃x,(k+1)%256=x:=⟨_,rfl⟩
   rw[etk] at hS hT hlv
   rw[etn] at hS hTn hO
   rw[eol] at hO hOl Ko
   rw[eib] at hS
   have e8:IntKind.u8.wrap ((k:Int)+1)=(ib:Int):=by
    rw[<-eib];simp[IntKind.wrap,IntKind.signed,IntKind.bits]
   have e1:IntKind.i64.wrap ((k:Int)+1+1)=(k:Int)+1+1:=by rw[IntKind.wrap_i64];omega
   have hts:=Ub s
   obtain⟨v1,u1,r1,rB1,rp1⟩:=round_a (INb.inn hlv.out) (by omega)
   have hcv:=fun(u:World)=>Lib.run_convert_string_bytes (P:=Tryz.prog) u 9 118 5 s Tryz.underlying9 Tryz.underlying118 Tryz.underlying5
   obtain⟨v2,u2,r2,rB2,rp2⟩:=round_b rB1 rp1 (by omega) hs
   obtain⟨v3,u3,r3,rB3,rp3⟩:=round_c (x:=ib) rB2 rp2 (by rw[List.length_append,hts];omega)
   have hc3:=hS u3 v3 (Zg HBr rB3) rp3
   have hst:=sc32 tn hTn.len
   have hU:(U8 tn).length=32:=by rw[Ze];exact hTn.len
   have hS:Hid _:=hS
   have hO:Hid _:=hO
   have hTn:Hid _:=hTn
   have hOl:Hid _:=hOl
   have etn:Hid _:=etn
   clear rp1 rp2 rp3 etk eol eib hT
   go_upto_region 10 with(first | (at_builtin;refine Zz rfl _ _ 118 rfl _ _ _ rfl rfl r1 ?_;clear r1) | (at_builtin;refine Zz rfl _ _ 118 rfl _ _ _ rfl rfl r2 ?_;clear r2) | (at_builtin;refine Zz rfl _ _ 118 rfl _ _ _ rfl rfl r3 ?_;clear r3) | (go_at_call 164;refine hc3.mono ?_;rintro e u4 ⟨rfl,hB4⟩;clear hc3))
   have hBA:Bw wr u4:=Zg rB3 hB4
   have K0:=bk32 tn hTn.out.len wr.heap.size u4 hBA.size
   have HB0:Bw wr ((u4.alloc (.cells #[.int .u8 0,.int .u8 0,.int .u8 0,.int .u8 0,.int .u8 0,.int .u8 0,.int .u8 0,.int .u8 0,.int .u8 0,.int .u8 0,.int .u8 0,.int .u8 0,.int .u8 0,.int .u8 0,.int .u8 0,.int .u8 0,.int .u8 0,.int .u8 0,.int .u8 0,.int .u8 0,.int .u8 0,.int .u8 0,.int .u8 0,.int .u8 0,.int .u8 0,.int .u8 0,.int .u8 0,.int .u8 0,.int .u8 0,.int .u8 0,.int .u8 0,.int .u8 0] 210)).setCells u4.heap.size 0 (U8 tn)):=Zr hBA.size (U8 tn) 0 _ (Z1 hBA _)
   generalize hC:((u4.alloc (.cells #[.int .u8 0,.int .u8 0,.int .u8 0,.int .u8 0,.int .u8 0,.int .u8 0,.int .u8 0,.int .u8 0,.int .u8 0,.int .u8 0,.int .u8 0,.int .u8 0,.int .u8 0,.int .u8 0,.int .u8 0,.int .u8 0,.int .u8 0,.int .u8 0,.int .u8 0,.int .u8 0,.int .u8 0,.int .u8 0,.int .u8 0,.int .u8 0,.int .u8 0,.int .u8 0,.int .u8 0,.int .u8 0,.int .u8 0,.int .u8 0,.int .u8 0,.int .u8 0] 210)).setCells u4.heap.size 0 (U8 tn))=v0 at *
   have hsz4:=hBA.size
   have hc0:=K0.cv 0
   have hl0:=K0.lt 0
   clear hst hcv hB4 rB3 rB2 rB1 hBA hC K0
   obtain⟨v4,u5,r4,rB4,b4,c4,z4,rfl,g1,g2,g3,g4,g5⟩:=round_a (wr:=v0) (lv:= .slice (some ⟨u4.heap.size,0,none⟩) 32 32) (tk:=tn) (CV_in hTn.out.len hc0 hl0) (by rw[hTn.out.len];omega)
   rw[hTn.out.len] at r4 g3 g4
   rw[Nat.mul_one] at g4
   have hB5:Bw wr u5:=Zg HB0 rB4
   obtain⟨v5,u6,r5,rg5,b6,c6,z6,rfl,f1,f2,f3,f4,f5⟩:=app_row (ty:=118) (Ko.out.below hB5 hlo) (Nat.lt_of_lt_of_le hlo hB5.size) hOl.out hTn.out.len hco hzl (by omega) (NW_full2 (n:=32) (cap:=c4) (zs:=z4) hTn.out.len g5)
   rw[Nat.mul_one] at f4
   rw[<-hO.out] at f5
   have f5:Hid _:=f5
   have g5:Hid _:=g5
   have h32:32*k+32=32*(k+1):=by omega
   rw[h32] at r5 f3 f4
   have hw6:32*(k+1)<=c6:=f3
   go_wp2_with (first | (at_builtin;refine Zz rfl _ _ 118 rfl _ _ _ rfl rfl r4 ?_;clear r4) | (at_builtin;refine Zz rfl _ _ 118 rfl _ _ _ rfl rfl r5 ?_;clear r5))
   have hs1:=HBr.size
   have hs2:=HB0.size
   have hs3:=hB5.size
   have hBw:Bw w u6:=(Zg HBr hB5).grown rg5 (by omega) (fun j e=>by cases e;exact hbo)
   have hb4:b4≠bo:=by omega
   have hin4:INb u6 b6 (.slice (some ⟨b4,0,none⟩) 32 c4) tn:=by
    refine⟨_,c4,b4,0,by rw[hTn.out.len],by rw[hTn.out.len];exact g3,.inr rfl,Nat.lt_of_lt_of_le g2 rg5.size,by omega,fun j hj=>?_⟩
    have hk:u6.heap[b4]?=u5.heap[b4]?:=rg5.block _ g2 (fun e=>hb4 (by cases e;rfl))
    rw[Nat.zero_add,World.cell?_of_block (a:=⟨b4,j,none⟩) hk]
    exact((CV.pre2 g5.out) j _ (Yn tn j hj)).1
   refine⟨⟨k+1,b6,c6,z6,by simp,rfl,hw6,by omega,by omega,f2,f5,(by rw[etn.out];exact hin4),by omega,hBw⟩,?_⟩
   simp[lenV];omega
  ·have hl1:decide (((32*k:Nat):Int)<(n:Int))=false:=by simp;omega
   have hl2: ¬(32:Int)*(k:Int)<(n:Int):=by omega
   have hnk:n<=32*k:=by omega
   have hnc:(n:Int)<=(co:Int):=by omega
   have hsl:=fun(u:World)=>slHB (some ⟨bo,0,none⟩) (32*k) co n hnk hco (fun e=>by cases e) u
   go_wp2
   have hOl:=hol.out k
   have hnl:((oS k).take n).length=n:=by rw[List.length_take,hOl];omega
   refine bodyPost_ret (v:= .tuple #[.slice (some ⟨bo,0,none⟩) n co,iI 0]) (by simp[results,Tryz.results155,go_sem]) rfl ⟨_,rfl,⟨k,hnk,_,rfl,_,co,bo,0,by rw[hnl],by rw[hnl];omega,.inr rfl,hlo,fun j hj=>?_⟩,HBr⟩
   rw[hnl] at hj
   rw[Nat.zero_add,List.getD_eq_getElem?_getD,List.getElem?_take_of_lt hj,<-List.getD_eq_getElem?_getD]
   exact((CV.pre2 Ko.out) j _ (Yn (oS k) j (by omega))).1
theorem cExpandR_neg(kv:Value)(s:ByteArray)(x:Int)(w:World)(hx:x<0):CC 155 #[kv,.string s,iI x] w (.tuple #[.slice none 0 0,iI 2]):=by
 go_enter Tryz.func155,Tryz.ntmps155
 go_wp2
 exact bodyPost_ret (v:= .tuple #[.slice none 0 0,iI 2]) (by simp[results,Tryz.results155,go_sem]) rfl ⟨rfl,Below.refl _ _⟩
theorem cExpandR_big(kv:Value)(s:ByteArray)(x:Int)(w:World)(hx:8160<x):CC 155 #[kv,.string s,iI x] w (.tuple #[.slice none 0 0,iI 3]):=by
 have h0: ¬x<0:=by omega
 go_enter Tryz.func155,Tryz.ntmps155
 go_wp2
 exact bodyPost_ret (v:= .tuple #[.slice none 0 0,iI 3]) (by simp[results,Tryz.results155,go_sem]) rfl ⟨rfl,Below.refl _ _⟩
def exE(x:Int):Int:=if x<0 then 2 else if 8160<x then 3 else 0
def exY(ks tx:List Nat)(x:Int):List Nat:=if x<0 then [] else if 8160<x then [] else exN (whl ks) tx x.toNat
theorem exY_m(ks tx:List Nat)(x:Int): ∀y∈exY ks tx x,y<256:=by
 unfold exY
 split
 ·simp
 ·split
  ·simp
  ·exact exN_m _ _ _
theorem PTX_nil(u:World)(e:Int)(h:0<u.heap.size):PTX e [] u (.tuple #[.slice none 0 0,iI e]):=⟨_,rfl,IN_nil u h⟩
theorem cExpandRX(ks:List Nat)(v:Value)(s:ByteArray)(x:Int)(w:World)(hz:0<w.heap.size)(hin:IN w w.heap.size v ks)(hk: ∀x∈ks,x<256)(hkl:ks.length<=1000)(hs:s.size<=1000):
 Calls Tryz.prog 155 #[v,.string s,iI x] w fun e w'=> ∃v,e= .returned v/\PTX (exE x) (exY ks (txt s) x) w' v/\Bw w w':=by
 unfold exE exY
 by_cases h1:x<0
 ·rw[if_pos h1,if_pos h1]
  refine(cExpandR_neg v s x w h1).mono ?_
  rintro e w' ⟨rfl,hB⟩
  exact⟨_,rfl,PTX_nil w' 2 (by have:=hB.size;omega),hB⟩
 ·rw[if_neg h1,if_neg h1]
  by_cases h2:8160<x
  ·rw[if_pos h2,if_pos h2]
   refine(cExpandR_big v s x w h2).mono ?_
   rintro e w' ⟨rfl,hB⟩
   exact⟨_,rfl,PTX_nil w' 3 (by have:=hB.size;omega),hB⟩
  ·rw[if_neg h2,if_neg h2]
   obtain⟨n,rfl⟩: ∃n:Nat,x=(n:Int):=⟨x.toNat,by omega⟩
   refine(cExpandR_core v s n (exT (whl ks) (txt s)) (exS (whl ks) (txt s)) w (by omega) hs rfl (exT_B _ _) (fun k=>(exT_m _ _ k).2) rfl (fun _=>rfl) (exS_len _ _) (fun k u z hB hz=>?_)).mono ?_
   ·have hm:=(exT_m (whl ks) (txt s) k)
    have e:exT (whl ks) (txt s) (k+1)=mac ks (exT (whl ks) (txt s) k++txt s++[(k+1)%256]):=rfl
    rw[e]
    obtain⟨a,ea⟩: ∃a,exT (whl ks) (txt s) k=a:=⟨_,rfl⟩
    rw[ea] at hz hm⊢
    have htl:=Ub s
    exact cMacR ks (a++txt s++[(k+1)%256]) v z u ((hin.below hB).mono hB.size) hz hk (fun y hy=>by
     rcases List.mem_append.1 hy with hy | hy
     ·rcases List.mem_append.1 hy with hy | hy
      ·exact hm.1 y hy
      ·exact txt_m s y hy
     ·simp at hy;omega) hkl (by
     rw[List.length_append,List.length_append,htl]
     show _+1<=_
     omega)
   ·rintro e w' ⟨v,rfl,⟨k,h3,h4⟩,hB⟩
    rw[exN_of _ _ k n h3] at h4
    rw[Int.toNat_natCast]
    exact⟨v,rfl,h4,hB⟩
end Go.Proofs.YtmoimodkopjeeaaGreatDoor
