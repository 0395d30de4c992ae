import Derived.Test.YtclafkfelkmigaaGreatDoorCTA
namespace Go.Proofs.YtclafkfelkmigaaGreatDoor
set_option linter.unusedVariables false
set_option linter.unusedSimpArgs false
set_option maxRecDepth 100000
set_option maxHeartbeats 4000000
section
open Go.RowKit
theorem smB_iff{x:Int}:smB x=true↔Sm x:=by simp[smB]
theorem crB_pr{cs:List (Int×Int×Int)}(hin: ∀j,j<cs.length->In (cat cs j).1/\In (cat cs j).2.1/\In (cat cs j).2.2): ∀k,k<cs.length->crB cs (k+1)=true->Pr (cat cs k).1.toNat
 | 0,hk,h=>by
  rw[crB,Bool.and_eq_true,Bool.and_eq_true] at h
  have hs:smB (cat cs 0).2.1=true:=h.2.1
  exact(stB_iff.1 h.2.2).pr (hin 0 hk).2.2.1 (smB_iff.1 hs).pr
 | k+1,hk,h=>by
  rw[crB,Bool.and_eq_true,Bool.and_eq_true] at h
  have ih:=crB_pr hin k (by omega) h.1
  have e:(cat cs (k+1)).2.1=(cat cs k).1:=by have:=h.2.1;rw[knB] at this;simpa using this
  exact(stB_iff.1 h.2.2).pr (hin (k+1) hk).2.2.1 (by rw[e];exact ih)
theorem cfB_pr{cs:List (Int×Int×Int)}(hin: ∀j,j<cs.length->In (cat cs j).1/\In (cat cs j).2.1/\In (cat cs j).2.2)(h:cfB cs=true):0<cs.length/\Pr (cat cs (cs.length -1)).1.toNat:=by
 rw[cfB,Bool.and_eq_true] at h
 have h0:0<cs.length:=by simpa using h.2
 refine⟨h0,crB_pr hin _ (by omega) ?_⟩
 rw[show cs.length -1+1=cs.length by omega];exact h.1
theorem bdX(x:Int)(h0:0<=x)(h1:x<18446744073709551616)(w:World):(Instr.build 36 [(0,.int .u64 x)].toArray).run Tryz.prog w= .ok (NV x) w:=by
 rw[Xz h0 h1];kernel_rfl
theorem Sm.not{x d:Int}(h2:2<=d)(hd:d<x)(hr:x%d=0): ¬Sm x:=fun h=>by
 have hp:=h.pr
 have:d.toNat∣x.toNat:=by
  have e:(d:Int)∣x:=Int.dvd_of_emod_eq_zero hr
  rw[<-Int.toNat_of_nonneg (show 0<=d by omega),<-Int.toNat_of_nonneg (show 0<=x by omega)] at e
  exact Int.ofNat_dvd.1 e
 rcases hp.2 _ this with e | e<;>omega
theorem nrCompare(n m:Int)(w:World)(hn:In n)(hm:In m):CC 38 #[NV n,NV m] w (.int .i64 (cmpI n m)):=by
 have k:=V6 _ _ _ _ _ _ _ _ w (W_D0 n) (W_D1 n) (W_D2 n) (W_D3 n) (W_D0 m) (W_D1 m) (W_D2 m) (W_D3 m)
 simp only[V_In hn,V_In hm] at k
 exact k
theorem Zn:EnT 38:=fun _ _=>by kernel_rfl
theorem D0_odd(n:Int):D0 n%2=n%2:=by unfold D0;omega
theorem cmp_lt0(n m:Int):decide (cmpI n m<0)=decide (n<m):=by
 unfold cmpI;split
 ·simp[*]
 ·split<;>simp[*]<;>omega
end
section
open Go.ChangeShapes Go.WideShapes Go.ChangeAt Go.RowKit
abbrev GE(p q g h:Int):List Value:=[iU (D0 p),iU (D1 p),iU (D2 p),iU (D3 p),iU (D0 q),iU (D1 q),iU (D2 q),iU (D3 q),iU (D0 g),iU (D1 g),iU (D2 g),iU (D3 g),iU (D0 h),iU (D1 h),iU (D2 h),iU (D3 h)]
abbrev GX(p q g h:Int):Value:= .agg #[iU (D0 p),iU (D1 p),iU (D2 p),iU (D3 p),iU (D0 q),iU (D1 q),iU (D2 q),iU (D3 q),iU (D0 g),iU (D1 g),iU (D2 g),iU (D3 g),iU (D0 h),iU (D1 h),iU (D2 h),iU (D3 h)]
theorem flC_at: ∀(cs:List (Int×Int×Int)) (j:Nat) (v:Value),(flC cs)[j]?=some v->j/12<cs.length/\(CE (cat cs (j/12)).1 (cat cs (j/12)).2.1 (cat cs (j/12)).2.2)[j%12]?=some v
 | [],j,v,h=>by simp[flC] at h
 | n::r,j,v,h=>by
  rw[flC] at h
  by_cases hj:j<12
  ·rw[List.getElem?_append_left (by show j<12;exact hj)] at h
   rw[show j/12=0 by omega,show j%12=j by omega]
   exact⟨by simp,by simpa [cat] using h⟩
  ·rw[List.getElem?_append_right (by show 12<=j;omega)] at h
   have h:(flC r)[j -12]?=some v:=h
   have:=flC_at r (j -12) v h
   rw[show j/12=(j -12)/12+1 by omega,show j%12=(j -12)%12 by omega]
   exact⟨by simpa using this.1,by simpa [cat] using this.2⟩
theorem SCt.of{w:World}{g o:Nat}{cs:List (Int×Int×Int)}(h: ∀i,i<cs.length-> ∀c v,(CE (cat cs i).1 (cat cs i).2.1 (cat cs i).2.2)[c]?=some v->w.cell? ⟨g,o+(i*12+c),none⟩=some v):SCt w g o cs:=fun j v hj=>by
 obtain⟨h1,h2⟩:=flC_at cs j v hj
 have:=h _ h1 _ v h2
 rwa [show j/12*12+j%12=j by omega] at this
end
section
open Go.RowKit
abbrev L0g:List Value:=[.int .u64 0,.int .u64 0,.int .u64 0,.int .u64 0,.int .u64 0,.int .u64 0,.int .u64 0,.int .u64 0,.int .u64 0,.int .u64 0,.int .u64 0,.int .u64 0,.int .u64 0,.int .u64 0,.int .u64 0,.int .u64 0]
theorem T9(w:World):(Instr.alloc 43 true (.tuple #[])).run Tryz.prog w= .ok (.pointer (some ⟨w.heap.size,0,none⟩)) (w.alloc (.cells L0g.toArray 43)):=by kernel_rfl
theorem Z0:(Tryz.prog.info? 43).map (·.size)=some 16:=by kernel_rfl
theorem fdG0(b:Nat)(w:World):(Instr.fieldAt 43 (.pointer (some ⟨b,0,none⟩)) 0).run Tryz.prog w= .ok (.pointer (some ⟨b,0,none⟩)) w:=by go_simp
theorem fdG1(b:Nat)(w:World):(Instr.fieldAt 43 (.pointer (some ⟨b,0,none⟩)) 1).run Tryz.prog w= .ok (.pointer (some ⟨b,4,none⟩)) w:=by go_simp
theorem fdG2(b:Nat)(w:World):(Instr.fieldAt 43 (.pointer (some ⟨b,0,none⟩)) 2).run Tryz.prog w= .ok (.pointer (some ⟨b,8,none⟩)) w:=by go_simp
theorem fdG3(b:Nat)(w:World):(Instr.fieldAt 43 (.pointer (some ⟨b,0,none⟩)) 3).run Tryz.prog w= .ok (.pointer (some ⟨b,12,none⟩)) w:=by go_simp
def xt(x:Nat):Nat:=if 256<=2*x then (2*x)^^^283 else 2*x
def tmL:Nat->Nat->Nat->Nat->Nat
 | 0,o,_,_=>o
 | n+1,o,x,y=>tmL n (if y%2=1 then o^^^x else o) (xt x) (y/2)
def tm(a b:Nat):Nat:=tmL 8 0 a b
def sbT:List Nat:=[99,124,119,123,242,107,111,197,48,1,103,43,254,215,171,118,202,130,201,125,250,89,71,240,173,212,162,175,156,164,114,192,183,253,147,38,54,63,247,204,52,165,229,241,113,216,49,21,4,199,35,195,24,150,5,154,7,18,128,226,235,39,178,117,9,131,44,26,27,110,90,160,82,59,214,179,41,227,47,132,83,209,0,237,32,252,177,91,106,203,190,57,74,76,88,207,208,239,170,251,67,77,51,133,69,249,2,127,80,60,159,168,81,163,64,143,146,157,56,245,188,182,218,33,16,255,243,210,205,12,19,236,95,151,68,23,196,167,126,61,100,93,25,115,96,129,79,220,34,42,144,136,70,238,184,20,222,94,11,219,224,50,58,10,73,6,36,92,194,211,172,98,145,149,228,121,231,200,55,109,141,213,78,169,108,86,244,234,101,122,174,8,186,120,37,46,28,166,180,198,232,221,116,31,75,189,139,138,112,62,181,102,72,3,246,14,97,53,87,185,134,193,29,158,225,248,152,17,105,217,142,148,155,30,135,233,206,85,40,223,140,161,137,13,191,230,66,104,65,153,45,15,176,84,187,22]
structure BY(n:Nat)(l:List Nat):Prop where
 len:l.length=n
 lt: ∀j,l.getD j 0<256
theorem gset(l:List Nat)(i j x:Nat):(l.set i x).getD j 0=if i=j/\j<l.length then x else l.getD j 0:=by
 rw[List.getD_eq_getElem?_getD,List.getD_eq_getElem?_getD,List.getElem?_set]
 by_cases h:i=j
 ·subst h
  by_cases h2:i<l.length
  ·simp[h2]
  ·simp[h2]
 ·simp[h]
theorem BY.set{n:Nat}{l:List Nat}(h:BY n l)(i x:Nat)(hx:x<256):BY n (l.set i x) where
 len:=by rw[List.length_set];exact h.len
 lt j:=by
  rw[gset];split
  ·exact hx
  ·exact h.lt j
def rcn:Nat->Nat
 | 0=>1
 | i+1=>tm (rcn i) 2
def lsK(w:List Nat)(n p k:Nat):Nat:=
 if n%4=0 then sbT.getD (w.getD (4*n+12+(k+1)%4) 0) 0^^^(if k=0 then p else 0) else w.getD (4*n+12+k) 0
def kw(key:List Nat):Nat->List Nat
 | 0=>key
 | n+1=>kw key n++[(kw key n).getD (4*n) 0^^^lsK (kw key n) n (rcn ((n+3)/4)) 0,(kw key n).getD (4*n+1) 0^^^lsK (kw key n) n (rcn ((n+3)/4)) 1,
  (kw key n).getD (4*n+2) 0^^^lsK (kw key n) n (rcn ((n+3)/4)) 2,(kw key n).getD (4*n+3) 0^^^lsK (kw key n) n (rcn ((n+3)/4)) 3]
theorem gapp1{a b:List Nat}{j:Nat}(h:j<a.length):(a++b).getD j 0=a.getD j 0:=by
 rw[List.getD_eq_getElem?_getD,List.getD_eq_getElem?_getD,List.getElem?_append_left h]
theorem gapp2{a b:List Nat}{j:Nat}(h:a.length<=j):(a++b).getD j 0=b.getD (j -a.length) 0:=by
 rw[List.getD_eq_getElem?_getD,List.getD_eq_getElem?_getD,List.getElem?_append_right h]
theorem BY.app{n m:Nat}{a b:List Nat}(ha:BY n a)(hb:BY m b):BY (n+m) (a++b):=⟨by rw[List.length_append,ha.len,hb.len],fun j=>by
 by_cases h:j<a.length
 ·rw[gapp1 h];exact ha.lt j
 ·rw[gapp2 (by omega)];exact hb.lt _⟩
theorem gtake(l:List Nat)(n:Nat){j:Nat}(h:j<n):(l.take n).getD j 0=l.getD j 0:=by
 rw[List.getD_eq_getElem?_getD,List.getD_eq_getElem?_getD,List.getElem?_take_of_lt h]
theorem gdrop(l:List Nat)(n j:Nat):(l.drop n).getD j 0=l.getD (n+j) 0:=by
 rw[List.getD_eq_getElem?_getD,List.getD_eq_getElem?_getD,List.getElem?_drop]
theorem gout{l:List Nat}{j:Nat}(h:l.length<=j):l.getD j 0=0:=by
 rw[List.getD_eq_getElem?_getD,List.getElem?_eq_none h];rfl
theorem BY.take{m:Nat}{l:List Nat}(h:BY m l)(n:Nat)(hn:n<=m):BY n (l.take n):=⟨by rw[List.length_take,h.len];omega,fun j=>by
 by_cases hj:j<n
 ·rw[gtake l n hj];exact h.lt j
 ·rw[gout (by rw[List.length_take];omega)];decide⟩
theorem BY.drop{m:Nat}{l:List Nat}(h:BY m l)(n:Nat):BY (m -n) (l.drop n):=⟨by rw[List.length_drop,h.len],fun j=>by rw[gdrop];exact h.lt _⟩
abbrev Fld:=Nat×List Nat
def putF:List Fld->List Nat
 | []=>[]
 | (t,b)::l=>t::b.length/256::b.length%256::(b++putF l)
theorem two(n:Nat):256*(n/256)+n%256=n:=by omega
def num8:List Nat->Nat:=List.foldl (fun n b=>256*n+b) 0
theorem NW_full2{u:World}{b n cap:Nat}{xs:List Nat}{zs:List Value}(hl:xs.length=n)(h:CV u b (U8 xs++zs)):NW n (U8 xs) u (.slice (some ⟨b,0,none⟩) n cap):=
 ⟨_,cap,rfl,.inr ⟨_,rfl,fun j v hj=>by rw[Addr.add0];exact(h.pre2 j v hj).1⟩⟩
theorem cExpandR_core(kv:Value)(s:ByteArray)(n:Nat)(tS oS:Nat->List Nat)(w:World)(hn:n<=8160)(hs:s.size<=1000)(ht0:Hid (tS 0=[]))(htB:Hid (∀k,BB 32 (tS (k+1))))(htl:Hid (∀k,(tS k).length<=32))(ho0:Hid (oS 0=[]))(hos:Hid (∀k,oS (k+1)=oS k++tS (k+1)))(hol:Hid (∀k,(oS k).length=32*k))
 (hSu:Hid (∀(k:Nat) (u:World) (z:Value),Bw w u->IN u u.heap.size z ((tS k++txt s)++[(k+1)%256])->CC 140 #[kv,z] u (.agg (U8 (tS (k+1))).toArray))):
 Calls Tryz.prog 116 #[kv,.string s,iI (n:Int)] w fun e w'=> ∃v,e= .returned v/\(∃k,n<=32*k/\PTX 0 ((oS k).take n) w' v)/\Bw w w':=by
 have hbs:=bs0b
 have hn0: ¬(n:Int)<0:=by omega
 have hn1: ¬(8160:Int)<(n:Int):=by omega
 go_enter Tryz.func116,Tryz.ntmps116
 go_wp2_with fail
 go_loopw [10,9,8] (fun s10 s9 s8 wr=> ∃(k bo co:Nat) (zs:List Value),s10=iI ((k+1:Nat):Int)/\s8= .slice (some ⟨bo,0,none⟩) (32*k) co/\32*k<=co/\zs.length=co -32*k/\w.heap.size<=bo/\bo<wr.heap.size/\Hid (CV wr bo (U8 (oS k)++zs))/\Hid (INb wr bo s9 (tS k))/\k<=255/\Bw w wr) (fun _ _ s8 _=>n -lenV s8)
 case atStart=>
  exact⟨0,w.heap.size,0,[],rfl,rfl,by omega,rfl,Nat.le_refl _,by simp;omega,(by rw[ho0.out];exact fun j v h=>by simp[U8] at h),(by rw[ht0.out];exact⟨_,0,w.heap.size+1,0,rfl,Nat.le_refl _,.inl rfl,by simp,by omega,fun j hj=>by simp at hj⟩),by omega,Z1 (Z1 (Z5 w) _) _⟩
 case round=>
  obtain⟨k,bo,co,zs,rfl,rfl,hco,hzl,hbo,hlo,Ko,hlv,hk,HBr⟩:=hrel
  by_cases hj:32*k<n
  ·have hl1:decide (((32*k:Nat):Int)<(n:Int))=true:=by simp;omega
   have hl2:(32:Int)*(k:Int)<(n:Int):=by omega
   have hS:=hSu.out k
   have hT:=htl.out k
   have hTn:=htB.out k
   have hO:=hos.out k
   have hOl:=hol.out k
   obtain⟨tk,etk⟩: ∃x,tS k=x:=⟨_,rfl⟩
   obtain⟨tn,etn⟩: ∃x,tS (k+1)=x:=⟨_,rfl⟩
   obtain⟨ol,eol⟩: ∃x,oS k=x:=⟨_,rfl⟩
   obtain⟨ib,eib⟩: ∃x,(k+1)%256=x:=⟨_,rfl⟩
   rw[etk] at hS hT hlv
   rw[etn] at hS hTn hO
   rw[eol] at hO hOl Ko
   rw[eib] at hS
   have e8:IntKind.u8.wrap ((k:Int)+1)=(ib:Int):=by
    rw[<-eib];simp[IntKind.wrap,IntKind.signed,IntKind.bits]
   have e1:IntKind.i64.wrap ((k:Int)+1+1)=(k:Int)+1+1:=by rw[IntKind.wrap_i64];omega
   have hts:=Ul s
   obtain⟨v1,u1,r1,rB1,rp1⟩:=round_a (INb.inn hlv.out) (by omega)
   have hcv:=fun(u:World)=>Lib.run_convert_string_bytes (P:=Tryz.prog) u 9 91 5 s Tryz.underlying9 Tryz.underlying91 Tryz.underlying5
   obtain⟨v2,u2,r2,rB2,rp2⟩:=round_b rB1 rp1 (by omega) hs
   obtain⟨v3,u3,r3,rB3,rp3⟩:=round_c (x:=ib) rB2 rp2 (by rw[List.length_append,hts];omega)
   have hc3:=hS u3 v3 (Z2 HBr rB3) rp3
   have hst:=sc32 tn hTn.len
   have hU:(U8 tn).length=32:=by rw[Zc];exact hTn.len
   have hS:Hid _:=hS
   have hO:Hid _:=hO
   have hTn:Hid _:=hTn
   have hOl:Hid _:=hOl
   have etn:Hid _:=etn
   clear rp1 rp2 rp3 etk eol eib hT
   go_upto_region 10 with(first | (at_builtin;refine Y6 rfl _ _ 91 rfl _ _ _ rfl rfl r1 ?_;clear r1) | (at_builtin;refine Y6 rfl _ _ 91 rfl _ _ _ rfl rfl r2 ?_;clear r2) | (at_builtin;refine Y6 rfl _ _ 91 rfl _ _ _ rfl rfl r3 ?_;clear r3) | (go_at_call 140;refine hc3.mono ?_;rintro e u4 ⟨rfl,hB4⟩;clear hc3))
   have hBA:Bw wr u4:=Z2 rB3 hB4
   have K0:=bk32 tn hTn.out.len wr.heap.size u4 hBA.size
   have HB0:Bw wr ((u4.alloc (.cells #[.int .u8 0,.int .u8 0,.int .u8 0,.int .u8 0,.int .u8 0,.int .u8 0,.int .u8 0,.int .u8 0,.int .u8 0,.int .u8 0,.int .u8 0,.int .u8 0,.int .u8 0,.int .u8 0,.int .u8 0,.int .u8 0,.int .u8 0,.int .u8 0,.int .u8 0,.int .u8 0,.int .u8 0,.int .u8 0,.int .u8 0,.int .u8 0,.int .u8 0,.int .u8 0,.int .u8 0,.int .u8 0,.int .u8 0,.int .u8 0,.int .u8 0,.int .u8 0] 168)).setCells u4.heap.size 0 (U8 tn)):=Zt hBA.size (U8 tn) 0 _ (Z1 hBA _)
   generalize hC:((u4.alloc (.cells #[.int .u8 0,.int .u8 0,.int .u8 0,.int .u8 0,.int .u8 0,.int .u8 0,.int .u8 0,.int .u8 0,.int .u8 0,.int .u8 0,.int .u8 0,.int .u8 0,.int .u8 0,.int .u8 0,.int .u8 0,.int .u8 0,.int .u8 0,.int .u8 0,.int .u8 0,.int .u8 0,.int .u8 0,.int .u8 0,.int .u8 0,.int .u8 0,.int .u8 0,.int .u8 0,.int .u8 0,.int .u8 0,.int .u8 0,.int .u8 0,.int .u8 0,.int .u8 0] 168)).setCells u4.heap.size 0 (U8 tn))=v0 at *
   have hsz4:=hBA.size
   have hc0:=K0.cv 0
   have hl0:=K0.lt 0
   clear hst hcv hB4 rB3 rB2 rB1 hBA hC K0
   obtain⟨v4,u5,r4,rB4,b4,c4,z4,rfl,g1,g2,g3,g4,g5⟩:=round_a (wr:=v0) (lv:= .slice (some ⟨u4.heap.size,0,none⟩) 32 32) (tk:=tn) (CV_in hTn.out.len hc0 hl0) (by rw[hTn.out.len];omega)
   rw[hTn.out.len] at r4 g3 g4
   rw[Nat.mul_one] at g4
   have hB5:Bw wr u5:=Z2 HB0 rB4
   obtain⟨v5,u6,r5,rg5,b6,c6,z6,rfl,f1,f2,f3,f4,f5⟩:=app_row (ty:=91) (Ko.out.below hB5 hlo) (Nat.lt_of_lt_of_le hlo hB5.size) hOl.out hTn.out.len hco hzl (by omega) (NW_full2 (n:=32) (cap:=c4) (zs:=z4) hTn.out.len g5)
   rw[Nat.mul_one] at f4
   rw[<-hO.out] at f5
   have f5:Hid _:=f5
   have g5:Hid _:=g5
   have h32:32*k+32=32*(k+1):=by omega
   rw[h32] at r5 f3 f4
   have hw6:32*(k+1)<=c6:=f3
   go_wp2_with (first | (at_builtin;refine Y6 rfl _ _ 91 rfl _ _ _ rfl rfl r4 ?_;clear r4) | (at_builtin;refine Y6 rfl _ _ 91 rfl _ _ _ rfl rfl r5 ?_;clear r5))
   have hs1:=HBr.size
   have hs2:=HB0.size
   have hs3:=hB5.size
   have hBw:Bw w u6:=(Z2 HBr hB5).grown rg5 (by omega) (fun j e=>by cases e;exact hbo)
   have hb4:b4≠bo:=by omega
   have hin4:INb u6 b6 (.slice (some ⟨b4,0,none⟩) 32 c4) tn:=by
    refine⟨_,c4,b4,0,by rw[hTn.out.len],by rw[hTn.out.len];exact g3,.inr rfl,Nat.lt_of_lt_of_le g2 rg5.size,by omega,fun j hj=>?_⟩
    have hk:u6.heap[b4]?=u5.heap[b4]?:=rg5.block _ g2 (fun e=>hb4 (by cases e;rfl))
    rw[Nat.zero_add,World.cell?_of_block (a:=⟨b4,j,none⟩) hk]
    exact((CV.pre2 g5.out) j _ (Yr tn j hj)).1
   refine⟨⟨k+1,b6,c6,z6,by simp,rfl,hw6,by omega,by omega,f2,f5,(by rw[etn.out];exact hin4),by omega,hBw⟩,?_⟩
   simp[lenV];omega
  ·have hl1:decide (((32*k:Nat):Int)<(n:Int))=false:=by simp;omega
   have hl2: ¬(32:Int)*(k:Int)<(n:Int):=by omega
   have hnk:n<=32*k:=by omega
   have hnc:(n:Int)<=(co:Int):=by omega
   have hsl:=fun(u:World)=>slHB (some ⟨bo,0,none⟩) (32*k) co n hnk hco (fun e=>by cases e) u
   go_wp2
   have hOl:=hol.out k
   have hnl:((oS k).take n).length=n:=by rw[List.length_take,hOl];omega
   refine bodyPost_ret (v:= .tuple #[.slice (some ⟨bo,0,none⟩) n co,iI 0]) (by simp[results,Tryz.results116,go_sem]) rfl ⟨_,rfl,⟨k,hnk,_,rfl,_,co,bo,0,by rw[hnl],by rw[hnl];omega,.inr rfl,hlo,fun j hj=>?_⟩,HBr⟩
   rw[hnl] at hj
   rw[Nat.zero_add,List.getD_eq_getElem?_getD,List.getElem?_take_of_lt hj,<-List.getD_eq_getElem?_getD]
   exact((CV.pre2 Ko.out) j _ (Yr (oS k) j (by omega))).1
theorem cExpandR_neg(kv:Value)(s:ByteArray)(x:Int)(w:World)(hx:x<0):CC 116 #[kv,.string s,iI x] w (.tuple #[.slice none 0 0,iI 2]):=by
 go_enter Tryz.func116,Tryz.ntmps116
 go_wp2
 exact bodyPost_ret (v:= .tuple #[.slice none 0 0,iI 2]) (by simp[results,Tryz.results116,go_sem]) rfl ⟨rfl,Below.refl _ _⟩
theorem cExpandR_big(kv:Value)(s:ByteArray)(x:Int)(w:World)(hx:8160<x):CC 116 #[kv,.string s,iI x] w (.tuple #[.slice none 0 0,iI 3]):=by
 have h0: ¬x<0:=by omega
 go_enter Tryz.func116,Tryz.ntmps116
 go_wp2
 exact bodyPost_ret (v:= .tuple #[.slice none 0 0,iI 3]) (by simp[results,Tryz.results116,go_sem]) rfl ⟨rfl,Below.refl _ _⟩
def exE(x:Int):Int:=if x<0 then 2 else if 8160<x then 3 else 0
def exY(ks tx:List Nat)(x:Int):List Nat:=if x<0 then [] else if 8160<x then [] else exN (whl ks) tx x.toNat
theorem exY_m(ks tx:List Nat)(x:Int): ∀y∈exY ks tx x,y<256:=by
 unfold exY
 split
 ·simp
 ·split
  ·simp
  ·exact exN_m _ _ _
theorem PTX_nil(u:World)(e:Int)(h:0<u.heap.size):PTX e [] u (.tuple #[.slice none 0 0,iI e]):=⟨_,rfl,IN_nil u h⟩
theorem cExpandRX(ks:List Nat)(v:Value)(s:ByteArray)(x:Int)(w:World)(hz:0<w.heap.size)(hin:IN w w.heap.size v ks)(hk: ∀x∈ks,x<256)(hkl:ks.length<=1000)(hs:s.size<=1000):
 Calls Tryz.prog 116 #[v,.string s,iI x] w fun e w'=> ∃v,e= .returned v/\PTX (exE x) (exY ks (txt s) x) w' v/\Bw w w':=by
 unfold exE exY
 by_cases h1:x<0
 ·rw[if_pos h1,if_pos h1]
  refine(cExpandR_neg v s x w h1).mono ?_
  rintro e w' ⟨rfl,hB⟩
  exact⟨_,rfl,PTX_nil w' 2 (by have:=hB.size;omega),hB⟩
 ·rw[if_neg h1,if_neg h1]
  by_cases h2:8160<x
  ·rw[if_pos h2,if_pos h2]
   refine(cExpandR_big v s x w h2).mono ?_
   rintro e w' ⟨rfl,hB⟩
   exact⟨_,rfl,PTX_nil w' 3 (by have:=hB.size;omega),hB⟩
  ·rw[if_neg h2,if_neg h2]
   obtain⟨n,rfl⟩: ∃n:Nat,x=(n:Int):=⟨x.toNat,by omega⟩
   refine(cExpandR_core v s n (exT (whl ks) (txt s)) (exS (whl ks) (txt s)) w (by omega) hs rfl (exT_B _ _) (fun k=>(exT_m _ _ k).2) rfl (fun _=>rfl) (exS_len _ _) (fun k u z hB hz=>?_)).mono ?_
   ·have hm:=(exT_m (whl ks) (txt s) k)
    have e:exT (whl ks) (txt s) (k+1)=mac ks (exT (whl ks) (txt s) k++txt s++[(k+1)%256]):=rfl
    rw[e]
    obtain⟨a,ea⟩: ∃a,exT (whl ks) (txt s) k=a:=⟨_,rfl⟩
    rw[ea] at hz hm⊢
    have htl:=Ul s
    exact cMacR ks (a++txt s++[(k+1)%256]) v z u ((hin.below hB).mono hB.size) hz hk (fun y hy=>by
     rcases List.mem_append.1 hy with hy | hy
     ·rcases List.mem_append.1 hy with hy | hy
      ·exact hm.1 y hy
      ·exact txt_m s y hy
     ·simp at hy;omega) hkl (by
     rw[List.length_append,List.length_append,htl]
     show _+1<=_
     omega)
   ·rintro e w' ⟨v,rfl,⟨k,h3,h4⟩,hB⟩
    rw[exN_of _ _ k n h3] at h4
    rw[Int.toNat_natCast]
    exact⟨v,rfl,h4,hB⟩
end
section
theorem Wh(n m:Int)(k:Nat):(n%m)^k%m=n^k%m:=by
 induction k with
 | zero=>rw[Int.pow_zero,Int.pow_zero]
 | succ k ih=>rw[Int.pow_succ,Int.pow_succ,Int.mul_emod,ih,Int.emod_emod,<-Int.mul_emod]
theorem mul_powG(a b:Int)(k:Nat):(a*b)^k=a^k*b^k:=by
 induction k with
 | zero=>rw[Int.pow_zero,Int.pow_zero,Int.pow_zero,Int.one_mul]
 | succ k ih=>rw[Int.pow_succ,Int.pow_succ,Int.pow_succ,ih];grind
def gOk(p q:Int):Prop:=p=2*q+1/\7<=p
def Mb(p q x:Int):Prop:=0<x/\x<p/\x^q.toNat%p=1
instance (p q:Int):Decidable (gOk p q):=by unfold gOk;infer_instance
instance (p q x:Int):Decidable (Mb p q x):=by unfold Mb;infer_instance
theorem gOk.q3{p q:Int}(h:gOk p q):3<=q:=by have:=h.1;have:=h.2;omega
theorem pow_red{x p:Int}{Q:Nat}(h1:1<p)(h:x^Q%p=1)(n:Nat):x^n%p=x^(n%Q)%p:=by
 have e:x^n=(x^Q)^(n/Q)*x^(n%Q):=by rw[<-Int.pow_mul,<-Int.pow_add,Nat.div_add_mod]
 rw[e,Int.mul_emod,<-Wh,h,Int.one_pow,<-Int.mul_emod,Int.one_mul]
theorem one_mod{p:Int}(h:1<p):(1:Int)%p=1:=Int.emod_eq_of_lt (by omega) h
theorem Mb.nz{p q x:Int}(hg:gOk p q)(h:x^q.toNat%p=1):x%p≠0:=fun e=>by
 have h3:=hg.q3
 have h2:(x%p)^q.toNat%p=1:=by rw[Wh];exact h
 obtain⟨k,hk⟩: ∃k,q.toNat=k+1:=⟨q.toNat -1,by omega⟩
 rw[e,hk,Int.pow_succ,Int.mul_zero,Int.zero_emod] at h2
 cases h2
theorem Mb.of{p q x:Int}(hg:gOk p q)(h:x^q.toNat%p=1):Mb p q (x%p):=by
 have h7:=hg.2
 have h1:=Int.emod_nonneg x (show p≠0 by omega)
 have h2:=Int.emod_lt_of_pos x (show 0<p by omega)
 have h3:=Mb.nz hg h
 exact⟨by omega,h2,by rw[Wh];exact h⟩
theorem Mb.mul{p q x y:Int}(hg:gOk p q)(hx:Mb p q x)(hy:Mb p q y):Mb p q (x*y%p):=by
 refine Mb.of hg ?_
 rw[mul_powG,Int.mul_emod,hx.2.2,hy.2.2,Int.one_mul]
 exact one_mod (by have:=hg.2;omega)
theorem Mb.pow{p q x:Int}(hg:gOk p q)(hx:Mb p q x)(n:Nat):Mb p q (x^n%p):=by
 refine Mb.of hg ?_
 rw[<-Int.pow_mul,Nat.mul_comm,Int.pow_mul,<-Wh,hx.2.2,Int.one_pow]
 exact one_mod (by have:=hg.2;omega)
theorem IsInv.gcd{a m x:Int}(h:IsInv a m x)(ha:0<=a)(hm:0<m):gI m a=1:=by
 obtain⟨c,hc⟩:=h.2.2
 have h0:=h.1
 have hd1:((Nat.gcd m.toNat a.toNat:Nat):Int)∣m:=by
  have:=Int.ofNat_dvd.2 (Nat.gcd_dvd_left m.toNat a.toNat)
  rwa [Int.toNat_of_nonneg (by omega)] at this
 have hd2:((Nat.gcd m.toNat a.toNat:Nat):Int)∣a:=by
  have:=Int.ofNat_dvd.2 (Nat.gcd_dvd_right m.toNat a.toNat)
  rwa [Int.toNat_of_nonneg ha] at this
 have hd:((Nat.gcd m.toNat a.toNat:Nat):Int)∣1:=by
  have e:(1:Int)=x*a -m*c:=by omega
  rw[e]
  exact Int.dvd_sub (Int.dvd_mul_of_dvd_right hd2) (Int.dvd_mul_of_dvd_left hd1)
 unfold gI
 have:=Int.le_of_dvd (by decide) hd
 have hp:0<Nat.gcd m.toNat a.toNat:=Nat.gcd_pos_of_pos_left _ (by omega)
 omega
theorem Mb.sum{p q x:Int}(hg:gOk p q)(hx:Mb p q x)(a b:Int)(ha:0<=a)(hb:0<=b):x^(a%q).toNat%p*(x^(b%q).toNat%p)%p=x^((a+b)%q).toNat%p:=by
 have h3:=hg.q3
 have e: ∀n:Int,0<=n->(n%q).toNat=n.toNat%q.toNat:=fun n hn=>by
  have h1:((n.toNat%q.toNat:Nat):Int)=n%q:=by rw[Int.natCast_emod,Int.toNat_of_nonneg hn,Int.toNat_of_nonneg (by omega)]
  omega
 have h1:1<p:=by have:=hg.2;omega
 rw[e a ha,e b hb,e (a+b) (by omega),<-pow_red h1 hx.2.2,<-pow_red h1 hx.2.2,<-pow_red h1 hx.2.2,<-Int.mul_emod,<-Int.pow_add,Int.toNat_add ha hb]
end
section
open Go.RowKit
theorem Y3:EnT 16:=fun _ _=>by kernel_rfl
theorem Y0:EnT 35:=fun _ _=>by kernel_rfl
theorem Yn:EnT 66:=fun _ _=>by kernel_rfl
theorem Zy:EnT 36:=fun _ _=>by kernel_rfl
theorem In_7:In 7:=⟨by omega,by omega⟩
def chE(p q:Int):Int:=if gOk p q then 0 else 90
theorem xchk_k(p q g h:Int)(w:World)(hp:In p)(hq:In q)(i2:In (q+q))(i3:In (q+q+1))(d0:0<=D0 p)(d1:D0 p<18446744073709551616)(h2:q+q<0x10000000000000000000000000000000000000000000000000000000000000000)(h3:q+q+1<0x10000000000000000000000000000000000000000000000000000000000000000)(h4:decide (q+q+1=p)=!false)(h5:decide (cmpI p 7<0)=false)(h6:(D0 p%2==0)=false):
 CC 16 #[GX p q g h] w (iI 0):=by
 go_enter Tryz.func16,Tryz.ntmps16
 go_upto_region 1 with fail
 obtain⟨v0,hC,HB0,K0⟩:=bx1 w (GE p q g h) 43
 rw[hC]
 clear hC
 refine Rp K0 HB0 [] [(8,3,L0s,some (9,LN (q+q)))] (cG 0 8 [_,_,_,_,_] [(5,7,_),(6,13,_),(7,14,_),(10,4,_)]) [(9,8)] [] [] (Od8 (g_fd (fdG1 _)) (g_lo 0 4 uN iN) (g_fd (fdG1 _)) (g_lo 0 4 uN iN) (g_cl Zo (fun uZ=>nrAdd_lt q q uZ hq hq h2)) g_mv g_ex g_ex<|Oc3 (g_al 0 aN) (g_sn 0 iN) g_as) fun u1 b1_8 HB1 _ K1=>?_
 simp only[sQ] at K1⊢
 go_upto_region 2 with fail
 refine Rp K1 HB1 [] [(6,5,L0s,some (7,LN (q+q+1)))] (cG 0 16 [_,_,_] [(3,15,_),(4,19,_),(5,20,_),(8,6,_)]) [(7,6)] [] [true,false] (Oc9 (g_ld 1 uN iN) (g_bd (fun uZ=>bdX 1 (by omega) (by omega) uZ)) (g_cl Zo (fun uZ=>nrAdd_lt (q+q) 1 uZ i2 In_1 h3)) g_mv g_ex g_ex (g_al 0 aN) (g_sn 0 iN) g_as) fun u2 b2_6 HB2 _ K2=>?_
 simp only[sQ] at K2⊢
 go_upto_region 3 with fail
 refine Rp K2 HB2 [] [] (cG 0 21 [_,_,_,_,_,_,_,_,_,_,_,_,_,_,_,_,_,_,_,_,_,_,_,_] []) [] [] [false,false] (Od8 g_mv g_mv g_mv g_pk g_mv (g_ld 1 uN iN) (g_fd (fdG0 _)) (g_lo 0 0 uN iN)<|Od8 (g_bn (Tb _ _ i3 hp _ h4)) g_pk g_mv (g_fd (fdG0 _)) (g_lo 0 0 uN iN) (g_bd (fun uZ=>bdX 7 (by omega) (by omega) uZ)) (g_cl Zn (fun uZ=>nrCompare p 7 uZ hp In_7)) (g_bn (fun uZ=>Z8 _ _ (cmpI p 7) 0 _ uZ h5))<|Oc8 g_pk g_mv (g_fd (fdG0 _)) (g_ix (jN 0)) (g_lc 0 0 lU) (g_bn (fun uZ=>rem_u _ _ (D0 p) 2 (D0 p%2) uZ d0 d1 (by omega) rfl)) (g_bn (fun uZ=>eql_u _ _ _ (D0 p%2) 0 _ uZ h6)) g_pk) fun u3 HB3 _ K3=>?_
 simp only[sQ] at K3⊢
 go_upto_region 5 with fail
 refine Rn K3 HB3 [(0,2,_)] (Oc1 g_as) fun u4 HB4 _ K4=>?_
 simp only[sQ] at K4⊢
 go_wp2
 refine bodyPost_ret (v:=iI 0) (by simp[results,Tryz.results16,go_sem,]) rfl ⟨rfl,HB4⟩
theorem Uj(p q g h:Int)(w:World)(hp:In p)(hq:In q)(c:gOk p q):CC 16 #[GX p q g h] w (iI 0):=by
 have hq0:=hq.1
 have hp1:=hp.2
 obtain⟨c1,c2⟩:=c
 have hd:0<=D0 p/\D0 p<18446744073709551616:=by unfold D0;omega
 exact xchk_k p q g h w hp hq ⟨by omega,by omega⟩ ⟨by omega,by omega⟩ hd.1 hd.2 (by omega) (by omega) (by simp;omega) (by rw[cmp_lt0];simp only[show ¬p<7 by omega,decide_false]) (by rw[D0_odd];simp;omega)
theorem xis_g(p q g h x:Int)(w:World)(hp:In p)(hq:In q)(hx:In x)(hC:Hid (∀u,CC 16 #[GX p q g h] u (iI 0)))(b:Bool)(h1:decide (x=0)=false)(h2:decide (0<=cmpI x p)=false)(hp0:p≠0)(h3:decide (x^q.toNat%p=1)=b):
 CC 35 #[GX p q g h,NV x] w (.bool b):=by
 go_enter Tryz.func35,Tryz.ntmps35
 go_upto_region 1 with fail
 obtain⟨v0,hC,HB0,K0⟩:=bx2 w (GE p q g h) 43 (LN x) 36
 rw[hC]
 clear hC
 refine Rn K0 HB0 (cG 0 7 [_,_,_,_,_,_,_,_,_,_,_,_,_,_,_] []) (Od8 (g_ld 0 Tryz.underlying43 Z0) (g_cl Y3 hC.out) (g_bn (fun uZ=>Ys _ _ _ 0 0 _ uZ rfl)) g_mv (g_ld 1 uN iN) (g_bd zN) (g_bn (eql_0 _ _ hx _ h1)) g_pk<|Oc7 g_mv (g_ld 1 uN iN) (g_fd (fdG0 _)) (g_lo 0 0 uN iN) (g_cl Zn (fun uZ=>nrCompare x p uZ hx hp)) (g_bn (fun uZ=>Xn _ _ (cmpI x p) 0 _ uZ h2)) g_pk) fun u1 HB1 _ K1=>?_
 simp only[sQ] at K1⊢
 go_upto_region 3 with fail
 refine Rp K1 HB1 [] [(9,5,L0s,some (10,LN (x^q.toNat%p)))] (cG 0 23 [_,_,_,_,_,_] [(6,22,_),(7,29,_),(8,30,_),(11,6,_)]) [(10,9)] [] [false,false] (Od8 (g_ld 1 uN iN) (g_fd (fdG1 _)) (g_lo 0 4 uN iN) (g_fd (fdG0 _)) (g_lo 0 0 uN iN) (g_cl Yx (fun uZ=>xExp x q p uZ hx hq hp hp0)) g_mv g_ex<|Oc4 g_ex (g_al 0 aN) (g_sn 0 iN) g_as) fun u2 b2_9 HB2 _ K2=>?_
 simp only[sQ] at K2⊢
 go_upto_region 4 with fail
 refine Rp K2 HB2 [] [] (cG 0 31 [_,_,_] [(3,4,_)]) [] [] [false] (Oc4 (g_ld 0 uN iN) (g_bd (fun uZ=>bdX 1 (by omega) (by omega) uZ)) (g_bn (eql_n _ _ (Zg hp hp0) In_1 _ h3)) g_as) fun u3 HB3 _ K3=>?_
 simp only[sQ] at K3⊢
 go_wp2
 refine bodyPost_ret (v:= .bool b) (by simp[results,Tryz.results35,go_sem,]) rfl ⟨rfl,HB3⟩
def isB(p q x:Int):Bool:=decide (gOk p q/\Mb p q x)
theorem xIsK(p q g h x:Int)(w:World)(hp:In p)(hq:In q)(hx:In x)(hb:isB p q x=true):CC 35 #[GX p q g h,NV x] w (.bool true):=by
 obtain⟨hg,h1,h2,h3⟩:=of_decide_eq_true hb
 have hC:Hid (∀u,CC 16 #[GX p q g h] u (iI 0)):=fun u=>Uj p q g h u hp hq hg
 exact xis_g p q g h x w hp hq hx hC true (by simp;omega) (by rw[cmp_ge];simp only[show ¬p<=x by omega,decide_false]) (by have:=hg.2;omega) (by simp[h3])
theorem xPower(p q g h x e:Int)(w:World)(hp:In p)(hq:In q)(hx:In x)(he:In e)(hp0:p≠0)(hq0:q≠0):
 CC 66 #[GX p q g h,NV x,NV e] w (NV (x^(e%q).toNat%p)):=by
 go_enter Tryz.func66,Tryz.ntmps66
 go_upto_region 1 with fail
 obtain⟨v0,hC,HB0,K0⟩:=bx4 w (GE p q g h) 43 (LN x) 36 (LN e) 36 L0s 36
 rw[hC]
 clear hC
 refine Rd K0 HB0 [] [(8,7,L0s,some (9,LN (e%q)))] (cG 0 12 [_,_,_,_,_] [(5,11,_),(6,17,_),(7,18,_),(10,8,_)]) [(9,8)] [] [true,true,false] (Od8 (g_ld 2 uN iN) (g_cl Z6 (fun uZ=>Vx e uZ he)) (g_fd (fdG1 _)) (g_lo 0 4 uN iN) (g_cl Z4 (fun uZ=>Wc e q uZ he.wide hq hq0)) g_mv g_ex g_ex<|Oc3 (g_al 0 aN) (g_sn 0 iN) g_as) fun u1 b1_8 HB1 _ K1=>?_
 simp only[sQ] at K1⊢
 go_upto_region 2 with fail
 refine Rp K1 HB1 [] [(8,9,L0s,some (9,LN (x^(e%q).toNat%p)))] (cG 0 20 [_,_,_,_,_] [(5,19,_),(6,25,_),(7,26,_),(10,10,_)]) [(9,8)] [] [false,false,true,false] (Od8 (g_ld 1 uN iN) (g_ld 3 uN iN) (g_fd (fdG0 _)) (g_lo 0 0 uN iN) (g_cl Yx (fun uZ=>xExp x (e%q) p uZ hx (Zg hq hq0) hp hp0)) g_mv g_ex g_ex<|Oc3 (g_al 0 aN) (g_sn 0 iN) g_as) fun u2 b2_8 HB2 _ K2=>?_
 simp only[sQ] at K2⊢
 go_upto_region 3 with fail
 refine Rp K2 HB2 [.all 1 (LN (x^(e%q).toNat%p))] [] [(0,27,_)] [] [] [true,false] (Oc2 (g_ld 1 uN iN) (g_st 0 iN)) fun u3 HB3 _ K3=>?_
 simp only[sQ] at K3⊢
 have c6:=(K3.cv 0).n4
 go_wp2
 refine bodyPost_ret (v:=NV (x^(e%q).toNat%p)) (by simp[results,Tryz.results66,go_sem,c6]) rfl ⟨rfl,HB3⟩
theorem xPair(p q g h s t:Int)(w:World)(hp:In p)(hq:In q)(hg:In g)(hh:In h)(hs:In s)(ht:In t)(hp0:p≠0)(hq0:q≠0):
 CC 36 #[GX p q g h,NV s,NV t] w (NV (g^(s%q).toNat%p*(h^(t%q).toNat%p)%p)):=by
 go_enter Tryz.func36,Tryz.ntmps36
 go_upto_region 1 with fail
 obtain⟨v0,hC,HB0,K0⟩:=bx4 w (GE p q g h) 43 (LN s) 36 (LN t) 36 L0s 36
 rw[hC]
 clear hC
 refine Rd K0 HB0 [] [(16,7,L0s,some (17,LN (g^(s%q).toNat%p*(h^(t%q).toNat%p)%p)))] (cG 0 10 [_,_,_,_,_,_,_,_,_,_,_,_,_] [(13,9,_),(14,23,_),(15,24,_),(18,8,_)]) [(17,16)] [] [false,false,false] (Od8 (g_ld 0 Tryz.underlying43 Z0) (g_fd (fdG2 _)) (g_lo 0 8 uN iN) (g_ld 1 uN iN) (g_cl Yn (fun uZ=>xPower p q g h g s uZ hp hq hg hs hp0 hq0)) (g_ld 0 Tryz.underlying43 Z0) (g_fd (fdG3 _)) (g_lo 0 12 uN iN)<|Od8 (g_ld 2 uN iN) (g_cl Yn (fun uZ=>xPower p q g h h t uZ hp hq hh ht hp0 hq0)) (g_fd (fdG0 _)) (g_lo 0 0 uN iN) (g_cl Z9 (fun uZ=>xMul (g^(s%q).toNat%p) (h^(t%q).toNat%p) p uZ (Zg hp hp0) (Zg hp hp0) hp hp0)) g_mv g_ex g_ex<|Oc3 (g_al 0 aN) (g_sn 0 iN) g_as) fun u1 b1_16 HB1 _ K1=>?_
 simp only[sQ] at K1⊢
 go_upto_region 2 with fail
 refine Rp K1 HB1 [.all 1 (LN (g^(s%q).toNat%p*(h^(t%q).toNat%p)%p))] [] [(0,25,_)] [] [] [true,false] (Oc2 (g_ld 1 uN iN) (g_st 0 iN)) fun u2 HB2 _ K2=>?_
 simp only[sQ] at K2⊢
 have c6:=(K2.cv 0).n4
 go_wp2
 refine bodyPost_ret (v:=NV (g^(s%q).toNat%p*(h^(t%q).toNat%p)%p)) (by simp[results,Tryz.results36,go_sem,c6]) rfl ⟨rfl,HB2⟩
def exPE(p q x:Int):Int:=if isB p q x then 0 else 90
def exPX(p q x e:Int):Int:=if isB p q x then x^(e%q).toNat%p else 0
theorem Vj{p q x:Int}(h:isB p q x=true):gOk p q/\Mb p q x:=of_decide_eq_true h
theorem xcom_k(p q g h s t c:Int)(w:World)(hp:In p)(hq:In q)(hg:In g)(hh:In h)(hI:Hid (∀u,CC 35 #[GX p q g h,NV g] u (.bool true)))(hJ:Hid (∀u,CC 35 #[GX p q g h,NV h] u (.bool true)))(hP:Hid (∀u,CC 36 #[GX p q g h,NV s,NV t] u (NV c))):
 CC 33 #[GX p q g h,NV s,NV t] w (.tuple #[NV c,iI 0]):=by
 go_enter Tryz.func33,Tryz.ntmps33
 go_upto_region 1 with fail
 obtain⟨v0,hC,HB0,K0⟩:=bx4 w (GE p q g h) 43 (LN s) 36 (LN t) 36 L0s 36
 rw[hC]
 clear hC
 refine Rn K0 HB0 (cG 0 8 [GX p q g h,.pointer (some ⟨w.heap.size,8,none⟩),NV g,.bool true,.bool false,.bool false,GX p q g h,.pointer (some ⟨w.heap.size,12,none⟩),NV h,.bool true,.bool false,.bool false] []) (Od8 (g_ld 0 Tryz.underlying43 Z0) (g_fd (fdG2 _)) (g_lo 0 8 uN iN) (g_cl Y0 hI.out) (g_un (fun uZ=>rfl)) g_mv (g_ld 0 Tryz.underlying43 Z0) (g_fd (fdG3 _))<|Oc4 (g_lo 0 12 uN iN) (g_cl Y0 hJ.out) (g_un (fun uZ=>rfl)) g_pk) fun u1 HB1 _ K1=>?_
 simp only[sQ] at K1⊢
 go_upto_region 3 with fail
 refine Rp K1 HB1 [.no,.no,.no,.all 4 (LN c)] [] (cG 0 21 [GX p q g h,NV s,NV t,NV c] [(5,7,(Go.Value.int Go.IntKind.i64 0))]) [] [] [false,false,false] (Oc6 (g_ld 0 Tryz.underlying43 Z0) (g_ld 1 uN iN) (g_ld 2 uN iN) (g_cl Zy hP.out) (g_st 3 iN) g_as) fun u2 HB2 _ K2=>?_
 simp only[sQ] at K2⊢
 have c6:=(K2.cv 0).n4
 go_wp2
 refine bodyPost_ret (v:= .tuple #[NV c,iI 0]) (by simp[results,Tryz.results33,go_sem,c6]) rfl ⟨rfl,HB2⟩
def coE(p q g h:Int):Int:=if isB p q g&&isB p q h then 0 else 90
def coX(p q g h s t:Int):Int:=if isB p q g&&isB p q h then g^(s%q).toNat%p*(h^(t%q).toNat%p)%p else 0
theorem xCommitK(p q g h s t:Int)(w:World)(hp:In p)(hq:In q)(hg:In g)(hh:In h)(hs:In s)(ht:In t)(hb:isB p q g=true)(hb2:isB p q h=true):
 CC 33 #[GX p q g h,NV s,NV t] w (.tuple #[NV (coX p q g h s t),iI 0]):=by
 unfold coX
 have h3:=(Vj hb).1.q3
 have h7:=(Vj hb).1.2
 rw[hb,hb2,show (true&&true)=true from rfl,if_pos rfl]
 exact xcom_k p q g h s t _ w hp hq hg hh (fun u=>xIsK p q g h g u hp hq hg hb) (fun u=>xIsK p q g h h u hp hq hh hb2) (fun u=>xPair p q g h s t u hp hq hg hh hs ht (by omega) (by omega))
theorem lI{b c:Nat}{v:Int}(w:World)(h:w.cell? ⟨b,c,none⟩=some (iI v)):(Instr.loadAt 3 (.pointer (some ⟨b,c,none⟩))).run Tryz.prog w= .ok (iI v) w:=by go_simp
abbrev SE(n s t:Int):List Value:=[iI n,iU (D0 s),iU (D1 s),iU (D2 s),iU (D3 s),iU (D0 t),iU (D1 t),iU (D2 t),iU (D3 t)]
abbrev SX(n s t:Int):Value:= .agg #[iI n,iU (D0 s),iU (D1 s),iU (D2 s),iU (D3 s),iU (D0 t),iU (D1 t),iU (D2 t),iU (D3 t)]
abbrev L0h:List Value:=[iI 0,iU 0,iU 0,iU 0,iU 0,iU 0,iU 0,iU 0,iU 0]
abbrev DE(d:Int)(v:Value):List Value:=[iI d,v]
abbrev DX(d:Int)(v:Value):Value:= .agg #[iI d,v]
abbrev L0d:List Value:=[iI 0,.slice none 0 0]
def ndB(n:Int):Bool:=decide (1<=n/\n<=16)
def shB(n m:Nat):Bool:=decide (n=m/\1<=n/\n<=6)
theorem fdD0(b:Nat)(w:World):(Instr.fieldAt 29 (.pointer (some ⟨b,0,none⟩)) 0).run Tryz.prog w= .ok (.pointer (some ⟨b,0,none⟩)) w:=by go_simp
theorem fdD1(b:Nat)(w:World):(Instr.fieldAt 29 (.pointer (some ⟨b,0,none⟩)) 1).run Tryz.prog w= .ok (.pointer (some ⟨b,1,none⟩)) w:=by go_simp
theorem Z7:(Tryz.prog.info? 29).map (·.size)=some 2:=by kernel_rfl
theorem Zr:(Tryz.prog.info? 38).map (·.size)=some 9:=by kernel_rfl
theorem al_api_Share(w:World):(Instr.alloc 38 true (.tuple #[])).run Tryz.prog w= .ok (.pointer (some ⟨w.heap.size,0,none⟩)) (w.alloc (.cells L0h.toArray 38)):=by kernel_rfl
theorem U2(w:World):(Instr.alloc 29 true (.tuple #[])).run Tryz.prog w= .ok (.pointer (some ⟨w.heap.size,0,none⟩)) (w.alloc (.cells L0d.toArray 29)):=by kernel_rfl
theorem xnode_0(n:Int)(w:World)(h:decide (1<=n)=false):
 CC 18 #[iI n] w (.bool false):=by
 go_enter Tryz.func18,Tryz.ntmps18
 have HB0:Bw w w:=Below.refl _ _
 have K0_1:=Bk.nil (w.heap.size) w
 go_upto_region 1 with fail
 refine Rn K0_1 HB0 (cG 0 3 [_,_,_,undef,undef,_] [(6,2,_)]) (Oc7 g_mv (g_bn (fun uZ=>Xn _ _ n 1 _ uZ h)) g_mv g_sk g_sk g_pk g_as) fun u1 HB1 _ K1=>?_
 simp only[sQ] at K1⊢
 go_wp2
 refine bodyPost_ret (v:= .bool false) (by simp[results,Tryz.results18,go_sem,]) rfl ⟨rfl,HB1⟩
theorem xnode_1(n:Int)(b:Bool)(w:World)(h:decide (1<=n)=true)(h2:decide (n<=16)=b):
 CC 18 #[iI n] w (.bool b):=by
 go_enter Tryz.func18,Tryz.ntmps18
 have HB0:Bw w w:=Below.refl _ _
 have K0_1:=Bk.nil (w.heap.size) w
 go_upto_region 1 with fail
 refine Rn K0_1 HB0 (cG 0 3 [_,_,_,_,_,_] [(6,2,_)]) (Oc7 g_mv (g_bn (fun uZ=>Xn _ _ n 1 _ uZ h)) g_mv g_mv (g_bn (fun uZ=>leq_p _ _ n 16 _ uZ h2)) g_pk g_as) fun u1 HB1 _ K1=>?_
 simp only[sQ] at K1⊢
 go_wp2
 refine bodyPost_ret (v:= .bool b) (by simp[results,Tryz.results18,go_sem,]) rfl ⟨rfl,HB1⟩
theorem xNode(n:Int)(w:World):CC 18 #[iI n] w (.bool (ndB n)):=by
 by_cases h:1<=n
 ·rw[show ndB n=decide (n<=16) by simp[ndB,h]]
  exact xnode_1 n _ w (decide_eq_true h) rfl
 ·rw[show ndB n=false by simp[ndB,h]]
  exact xnode_0 n w (decide_eq_false h)
theorem xshaped_0(sa sb:Option Addr)(n m ca cb:Nat)(w:World)(h:((n:Int)==(m:Int))=false):
 CC 17 #[.slice sa n ca,.slice sb m cb] w (.bool false):=by
 go_enter Tryz.func17,Tryz.ntmps17
 have HB0:Bw w w:=Below.refl _ _
 have K0_1:=Bk.nil (w.heap.size) w
 go_upto_region 1 with fail
 refine Rn K0_1 HB0 (cG 0 5 [_,_,_,_,_,_,undef,undef,undef,_,_,undef,undef,undef,_] [(15,4,_)]) (Od8 g_mv (g_ln Tryz.underlying27) g_mv (g_ln Tryz.underlying27) (g_bn (fun uZ=>Tc _ _ _ (n:Int) (m:Int) _ uZ h)) g_mv g_sk g_sk<|Oc8 g_sk g_pk g_mv g_sk g_sk g_sk g_pk g_as) fun u1 HB1 _ K1=>?_
 simp only[sQ] at K1⊢
 go_wp2
 refine bodyPost_ret (v:= .bool false) (by simp[results,Tryz.results17,go_sem,]) rfl ⟨rfl,HB1⟩
theorem xshaped_1(sa sb:Option Addr)(n m ca cb:Nat)(w:World)(h:((n:Int)==(m:Int))=true)(h1:decide (1<=(n:Int))=false):
 CC 17 #[.slice sa n ca,.slice sb m cb] w (.bool false):=by
 go_enter Tryz.func17,Tryz.ntmps17
 have HB0:Bw w w:=Below.refl _ _
 have K0_1:=Bk.nil (w.heap.size) w
 go_upto_region 1 with fail
 refine Rn K0_1 HB0 (cG 0 5 [_,_,_,_,_,_,_,_,_,_,_,undef,undef,undef,_] [(15,4,_)]) (Od8 g_mv (g_ln Tryz.underlying27) g_mv (g_ln Tryz.underlying27) (g_bn (fun uZ=>Tc _ _ _ (n:Int) (m:Int) _ uZ h)) g_mv g_mv (g_ln Tryz.underlying27)<|Oc8 (g_bn (fun uZ=>Xn _ _ (n:Int) 1 _ uZ h1)) g_pk g_mv g_sk g_sk g_sk g_pk g_as) fun u1 HB1 _ K1=>?_
 simp only[sQ] at K1⊢
 go_wp2
 refine bodyPost_ret (v:= .bool false) (by simp[results,Tryz.results17,go_sem,]) rfl ⟨rfl,HB1⟩
theorem xshaped_2(sa sb:Option Addr)(n m ca cb:Nat)(b:Bool)(w:World)(h:((n:Int)==(m:Int))=true)(h1:decide (1<=(n:Int))=true)(h2:decide ((n:Int)<=6)=b):
 CC 17 #[.slice sa n ca,.slice sb m cb] w (.bool b):=by
 go_enter Tryz.func17,Tryz.ntmps17
 have HB0:Bw w w:=Below.refl _ _
 have K0_1:=Bk.nil (w.heap.size) w
 go_upto_region 1 with fail
 refine Rn K0_1 HB0 (cG 0 5 [_,_,_,_,_,_,_,_,_,_,_,_,_,_,_] [(15,4,_)]) (Od8 g_mv (g_ln Tryz.underlying27) g_mv (g_ln Tryz.underlying27) (g_bn (fun uZ=>Tc _ _ _ (n:Int) (m:Int) _ uZ h)) g_mv g_mv (g_ln Tryz.underlying27)<|Oc8 (g_bn (fun uZ=>Xn _ _ (n:Int) 1 _ uZ h1)) g_pk g_mv g_mv (g_ln Tryz.underlying27) (g_bn (fun uZ=>leq_p _ _ (n:Int) 6 _ uZ h2)) g_pk g_as) fun u1 HB1 _ K1=>?_
 simp only[sQ] at K1⊢
 go_wp2
 refine bodyPost_ret (v:= .bool b) (by simp[results,Tryz.results17,go_sem,]) rfl ⟨rfl,HB1⟩
theorem xShaped(sa sb:Option Addr)(n m ca cb:Nat)(w:World):CC 17 #[.slice sa n ca,.slice sb m cb] w (.bool (shB n m)):=by
 by_cases h:n=m
 ·by_cases h1:1<=n
  ·rw[show shB n m=decide ((n:Int)<=6) by unfold shB;rw[decide_eq_decide];omega]
   exact xshaped_2 sa sb n m ca cb _ w (by subst h;simp) (by simp;omega) rfl
  ·rw[show shB n m=false by unfold shB;rw[decide_eq_false_iff_not];omega]
   exact xshaped_1 sa sb n m ca cb w (by subst h;simp) (by simp;omega)
 ·rw[show shB n m=false by unfold shB;rw[decide_eq_false_iff_not];omega]
  exact xshaped_0 sa sb n m ca cb w (by rw[beq_eq_false_iff_ne];omega)
theorem Zi:EnT 18:=fun _ _=>by kernel_rfl
theorem W6:EnT 63:=fun _ _=>by kernel_rfl
theorem ent_K1:EnT 16:=fun _ _=>by kernel_rfl
theorem ent_K2:EnT 35:=fun _ _=>by kernel_rfl
theorem xdchk_K(p q g h d:Int)(sl:Option Addr)(gb go cap:Nat)(ns:List Int)(w:World)(hC:Hid (∀u,CC 16 #[GX p q g h] u (iI 0)))(hN:Hid (∀u,CC 18 #[iI d] u (.bool true)))(h1:decide ((ns.length:Int)<1)=false)(h6:decide (6<(ns.length:Int))=false)(hp:In p)(hq:In q)(hix:Hid (∀j,j<ns.length-> ∀W,(Instr.indexAt 27 (.slice sl ns.length cap) (iI j)).run Tryz.prog W= .ok (.pointer (some ⟨gb,go+4*j,none⟩)) W))(hg:ns.length=0\/gb<w.heap.size)(hS:Hid (SN w gb go ns))(hn:Hid (∀k,k<ns.length->In (ns.getD k 0)))(hns:ns.length<=1000)(hyes:Hid (∀k,k<ns.length->isB p q (ns.getD k 0)=true)):
 CC 63 #[GX p q g h,DX d (.slice sl ns.length cap)] w (iI 0):=by
 go_enter Tryz.func63,Tryz.ntmps63
 go_upto_region 1 with fail
 obtain⟨v0,hC,HB0,K0⟩:=bx2 w (GE p q g h) 43 (DE d (.slice sl ns.length cap)) 29
 rw[hC]
 clear hC
 refine Rn K0 HB0 (cG 0 6 [_,_,_] []) (Oc3 (g_ld 0 Tryz.underlying43 Z0) (g_cl ent_K1 hC.out) (g_bn (fun uZ=>Ys _ _ _ 0 0 _ uZ rfl))) fun u1 HB1 _ K1=>?_
 simp only[sQ] at K1⊢
 go_upto_region 3 with fail
 refine Rn K1 HB1 (cG 0 9 [_,_,_,_,_,_,_,_,_,_,_,_,_,_,_,_] []) (Od8 (g_fd (fdD0 _)) (g_lc 1 0 lI) (g_cl Zi hN.out) (g_un W1) g_mv (g_fd (fdD1 _)) (g_lc 1 1 lSN) (g_ln Tryz.underlying27)<|Oc8 (g_bn (fun uZ=>Z8 _ _ (ns.length:Int) 1 _ uZ h1)) g_pk g_mv (g_fd (fdD1 _)) (g_lc 1 1 lSN) (g_ln Tryz.underlying27) (g_bn (fun uZ=>gtr_i _ _ (ns.length:Int) 6 _ uZ h6)) g_pk) fun u2 HB2 _ K2=>?_
 simp only[sQ] at K2⊢
 go_upto_region 5 with fail
 refine Rn K2 HB2 [(0,5,_)] (Oc1 g_as) fun u3 HB3 _ K3=>?_
 simp only[sQ] at K3⊢
 go_wp2_with fail
 go_loopw [5] (fun s5 wr=> ∃(k:Nat),k<=ns.length/\s5=iI (k:Int)/\Bw w wr/\CV wr (w.heap.size) (GE p q g h)/\w.heap.size<wr.heap.size/\CV wr (w.heap.size+1) (DE d (.slice sl ns.length cap))/\w.heap.size+1<wr.heap.size) (fun s5 _=>ns.length -(intOf s5).toNat)
 case atStart=>exact⟨0,by omega,rfl,HB3,(K3.cv 0),(K3.lt 0),(K3.cv 1),(K3.lt 1)⟩
 case round=>
  obtain⟨k,hk,rfl,HBr,C0,lC0,C1,lC1⟩:=hrel
  have hnK:=K3.n
  simp at hnK
  by_cases hj:k<ns.length
  ·have hl:decide ((k:Int)<(ns.length:Int))=true:=by simp;omega
   have hX:=hix.out _ hj
   have hX:Hid _:=hX
   have hR:=hS.out.at _ hj
   have hR:Hid _:=hR
   have ix:=hn.out k hj
   have hg':=hg.resolve_left (by omega)
   have hb:=hyes.out k hj
   have hI:Hid (∀u,CC 35 #[GX p q g h,NV (ns.getD k 0)] u (.bool true)):=fun u=>xIsK p q g h _ u hp hq ix hb
   obtain⟨x,ex⟩: ∃x,ns.getD k 0=x:=⟨_,rfl⟩
   rw[ex] at hR ix hI
   clear ex hb
   have K3_1:Bk w.heap.size wr [(false,w.heap.size,GE p q g h),(false,w.heap.size+1,DE d (.slice sl ns.length cap))]:=⟨.c lC0 C0<| .c lC1 C1<|trivial,by simp<;>omega⟩
   go_upto_region 6 with fail
   refine Rn K3_1 HBr (cG 0 25 [_,_,_,_,_] []) (Oc5 g_mv (g_fd (fdD1 _)) (g_lc 1 1 lSN) (g_ln Tryz.underlying27) (g_bn (fun uZ=>Z8 _ _ (k:Int) (ns.length:Int) _ uZ hl))) fun u4 HB4 sz4 K4=>?_
   simp only[sQ] at K4⊢
   go_upto_region 8 with fail
   refine Rm K4 HB4 (cG 0 32 [_,_,_,_,_,_,_,_] []) (Oc8 (g_ld 0 Tryz.underlying43 Z0) (g_fd (fdD1 _)) (g_lc 1 1 lSN) g_mv (g_ix hX.out) (g_lf hR.out hg' uN iN) (g_cl ent_K2 hI.out) (g_un W1)) fun u5 HB5 sz5 K5=>?_
   simp only[sQ] at K5⊢
   go_upto_region 7 with fail
   refine Rp K5 HB5 [] [] [(0,30,_),(1,31,_),(2,5,_)] [(2,0)] [(2,5)] [] (Oc3 g_mv (g_bn (fun uZ=>Zl _ _ (k:Int) 1 ((k+1:Nat):Int) uZ (by omega) (by omega) (by omega))) g_as) fun u6 HB6 _ K6=>?_
   simp only[sQ] at K6⊢
   go_wp2
   refine⟨⟨k+1,by omega,rfl,HB6,(K6.cv 0),(K6.lt 0),(K6.cv 1),(K6.lt 1)⟩,?_⟩
   simp[intOf]<;>omega
  ·have hl:decide ((k:Int)<(ns.length:Int))=false:=by simp;omega
   have K3_1:Bk w.heap.size wr [(false,w.heap.size,GE p q g h),(false,w.heap.size+1,DE d (.slice sl ns.length cap))]:=⟨.c lC0 C0<| .c lC1 C1<|trivial,by simp<;>omega⟩
   go_upto_region 6 with fail
   refine Rn K3_1 HBr (cG 0 25 [_,_,_,_,_] []) (Oc5 g_mv (g_fd (fdD1 _)) (g_lc 1 1 lSN) (g_ln Tryz.underlying27) (g_bn (fun uZ=>Z8 _ _ (k:Int) (ns.length:Int) _ uZ hl))) fun u4 HB4 sz4 K4=>?_
   simp only[sQ] at K4⊢
   go_upto_region 10 with fail
   refine Rn K4 HB4 [(0,4,_)] (Oc1 g_as) fun u5 HB5 sz5 K5=>?_
   simp only[sQ] at K5⊢
   go_wp2
   exact bodyPost_ret (v:=iI 0) (by simp[results,Tryz.results63,go_sem]) rfl ⟨rfl,HB5⟩
def dcE(p q d:Int)(ns:List Int):Int:=if gOk p q then (if ndB d&&decide (1<=ns.length/\ns.length<=6)&&ns.all (isB p q) then 0 else 110) else 90
theorem all_get{ns:List Int}{f:Int->Bool}:ns.all f=true↔ ∀k,k<ns.length->f (ns.getD k 0)=true:=by
 rw[List.all_eq_true]
 constructor
 ·exact fun h k hk=>h _ (by simp[List.getElem?_eq_getElem hk])
 ·intro h x hx
  obtain⟨k,hk,rfl⟩:=List.mem_iff_getElem.1 hx
  have:=h k hk
  simpa [List.getElem?_eq_getElem hk] using this
theorem xCheckDK(p q g h d:Int)(ns:List Int)(v:Value)(w:World)(hp:In p)(hq:In q)(hv:NL w v ns)(hns: ∀z∈ns,In z)(hl:ns.length<=256)(hg:gOk p q)(hd:ndB d=true)(hb:ns.length<=6/\1<=ns.length)(ha: ∀k,k<ns.length->isB p q (ns.getD k 0)=true):CC 63 #[GX p q g h,DX d v] w (iI 0):=by
 obtain⟨sl,gb,go,cap,rfl,h2,h3,h4,h5,h6⟩:=hv
 have hN:=fun u=>xNode d u
 rw[hd] at hN
 exact xdchk_K p q g h d sl gb go cap ns w (fun u=>Uj p q g h u hp hq hg) hN (by simp;omega) (by simp;omega) hp hq (NL.ix (u:=w) h4) h5 h6 (Ye hns) (by omega) ha
end
end Go.Proofs.YtclafkfelkmigaaGreatDoor
