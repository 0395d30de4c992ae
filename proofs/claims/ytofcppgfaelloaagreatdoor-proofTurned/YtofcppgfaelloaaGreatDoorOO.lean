import Derived.Test.YtofcppgfaelloaaGreatDoorRows
import Derived.Test.YtofcppgfaelloaaGreatDoorCTD
import Derived.Lib.SmallJoins
namespace Go.Proofs.YtofcppgfaelloaaGreatDoor
set_option linter.unusedVariables false
set_option linter.unusedSimpArgs false
set_option maxRecDepth 100000
set_option maxHeartbeats 4000000
section
open Go.ChangeShapes Go.WideShapes Go.ChangeAt Go.RowKit
theorem Tryz.cells24:Tryz.prog.cellsOf 24=4:=by kernel_rfl
theorem Tryz.cells22:Tryz.prog.cellsOf 22=1:=by kernel_rfl
theorem Zz {x:Int} (h:(Lit.int .u64 x).wf=true):W64 x:=by
 simp[Lit.wf,IntKind.min,IntKind.max,IntKind.signed,IntKind.bits] at h
 exact⟨by omega,by omega⟩
abbrev N4 {H:Type} (a b c d:Int):DataW H:= .agg [.lit (.int .u64 a),.lit (.int .u64 b),.lit (.int .u64 c),.lit (.int .u64 d)]
theorem Yn {H:Type} {enc:TypeId×Value->H} {W:World} {bs base:Nat} {sp:Nat->Bool} {held:Bool} {v:Value} {x:DataW H} {p:List MemPlace}
 (hv:Value.okWide Tryz.prog W .any base 24 v) (h:DataW.Trod enc Tryz.prog W bs sp held 24 v x p):
 ∃a b c d:Int,v=A4 a b c d/\x=N4 a b c d/\p=[]/\W64 a/\W64 b/\W64 c/\W64 d:=by
 obtain⟨cs,rfl,hsz,_⟩: ∃cs,v= .agg cs/\cs.size=Tryz.prog.cellsOf 24/\Row.okWide Tryz.prog W .any base 24 cs:=by
  simpa [Value.okWide,Tryz.underlying24] using hv
 rw[Tryz.cells24] at hsz
 obtain⟨c0,c1,c2,c3,rfl⟩:=Go.Joins.array4 hsz
 obtain⟨fuel,hf⟩:=h
 obtain⟨y0,y1,y2,y3,m,hx,hy0,hy1,hy2,hy3⟩:=trod_array4 Tryz.underlying24 Tryz.cells22 hf
 obtain⟨x0,e0,rfl,w0⟩:=DataW.trod_int Tryz.underlying22 hy0
 obtain⟨x1,e1,rfl,w1⟩:=DataW.trod_int Tryz.underlying22 hy1
 obtain⟨x2,e2,rfl,w2⟩:=DataW.trod_int Tryz.underlying22 hy2
 obtain⟨x3,e3,rfl,w3⟩:=DataW.trod_int Tryz.underlying22 hy3
 simp at e0 e1 e2 e3
 subst e0 e1 e2 e3
 simp only[Prod.mk.injEq] at hx
 obtain⟨rfl,rfl⟩:=hx
 exact⟨x0,x1,x2,x3,rfl,rfl,rfl,Zz w0,Zz w1,Zz w2,Zz w3⟩
section
section
variable {H:Type} {enc:TypeId×Value->H} {P:Program} {w:World} {base:Nat} {spare:Nat->Bool} {held:Bool}
theorem Tc {t0 t1 t2 t3 t4:TypeId} {args:Array Value} {ds:List (DataW H)} {ps:List MemPlace} (h:DataW.TrodAll enc P w base spare held [t0,t1,t2,t3,t4] args.toList ds ps):
 ∃v0 v1 v2 v3 v4 d0 d1 d2 d3 d4 p0 p1 p2 p3 p4,args=#[v0,v1,v2,v3,v4]/\ds=[d0,d1,d2,d3,d4]/\ps=p0++(p1++(p2++(p3++p4)))/\DataW.Trod enc P w base spare held t0 v0 d0 p0/\DataW.Trod enc P w base spare held t1 v1 d1 p1/\DataW.Trod enc P w base spare held t2 v2 d2 p2/\DataW.Trod enc P w base spare held t3 v3 d3 p3/\DataW.Trod enc P w base spare held t4 v4 d4 p4:=by
 obtain⟨v0,r0,d0,e0,p0,q0,hargs,rfl,rfl,k0,h0⟩:=trodAll_cons h
 obtain⟨v1,r1,d1,e1,p1,q1,rfl,rfl,rfl,k1,h1⟩:=trodAll_cons h0
 obtain⟨v2,r2,d2,e2,p2,q2,rfl,rfl,rfl,k2,h2⟩:=trodAll_cons h1
 obtain⟨v3,r3,d3,e3,p3,q3,rfl,rfl,rfl,k3,h3⟩:=trodAll_cons h2
 obtain⟨v4,r4,d4,e4,p4,q4,rfl,rfl,rfl,k4,h4⟩:=trodAll_cons h3
 obtain⟨rfl,rfl,rfl⟩:=trodAll_nil h4
 exact⟨v0,v1,v2,v3,v4,d0,d1,d2,d3,d4,p0,p1,p2,p3,p4,by cases args;simp_all,rfl,by simp,k0,k1,k2,k3,k4⟩
theorem Xv {t0 t1 t2 t3 t4:TypeId} {v0 v1 v2 v3 v4:Value} {d0 d1 d2 d3 d4:DataW H} {p0 p1 p2 p3 p4:List MemPlace} (h0:DataW.Trod enc P w base spare held t0 v0 d0 p0) (h1:DataW.Trod enc P w base spare held t1 v1 d1 p1) (h2:DataW.Trod enc P w base spare held t2 v2 d2 p2) (h3:DataW.Trod enc P w base spare held t3 v3 d3 p3) (h4:DataW.Trod enc P w base spare held t4 v4 d4 p4):
 DataW.TrodAll enc P w base spare held [t0,t1,t2,t3,t4] [v0,v1,v2,v3,v4] [d0,d1,d2,d3,d4] (p0++(p1++(p2++(p3++p4)))):=⟨p0,_,h0,trodAll_mk4 h1 h2 h3 h4,rfl⟩
end
theorem open_word {H:Type} {enc:TypeId×Value->H} {W:World} {bs base:Nat} {sp:Nat->Bool} {held:Bool} {v:Value} {x:DataW H} {p:List MemPlace} (hv:Value.okWide Tryz.prog W .any base 22 v) (h:DataW.Trod enc Tryz.prog W bs sp held 22 v x p):
 ∃a:Int,v= .int .u64 a/\x= .lit (.int .u64 a)/\p=[]/\W64 a:=by
 obtain⟨a,h1,h2,h3,h4⟩:=open_int Tryz.underlying22 hv h
 exact⟨a,h1,h2,h3,Zz h4⟩
end
theorem LN_V {x0 x1 x2 x3:Int} (w0:W64 x0) (w1:W64 x1) (w2:W64 x2) (w3:W64 x3):LN (V x0 x1 x2 x3)=[iU x0,iU x1,iU x2,iU x3]:=by
 have:=NV_V w0 w1 w2 w3
 unfold NV A4 at this
 injection this with this
 have:=congrArg Array.toList this
 simpa using this
theorem trodN {H:Type} {enc:TypeId×Value->H} {W:World} {bs fuel:Nat} {sp:Nat->Bool} {held:Bool} {c0 c1 c2 c3:Value} {x:DataW H×List MemPlace} (h:DataW.trod enc Tryz.prog W bs sp held fuel 24 [c0,c1,c2,c3]=some x):
 ∃z,In z/\[c0,c1,c2,c3]=LN z:=by
 obtain⟨y0,y1,y2,y3,m,hx,hy0,hy1,hy2,hy3⟩:=trod_array4 Tryz.underlying24 Tryz.cells22 h
 obtain⟨x0,e0,rfl,w0⟩:=DataW.trod_int Tryz.underlying22 hy0
 obtain⟨x1,e1,rfl,w1⟩:=DataW.trod_int Tryz.underlying22 hy1
 obtain⟨x2,e2,rfl,w2⟩:=DataW.trod_int Tryz.underlying22 hy2
 obtain⟨x3,e3,rfl,w3⟩:=DataW.trod_int Tryz.underlying22 hy3
 simp at e0 e1 e2 e3
 subst e0 e1 e2 e3
 exact⟨V x0 x1 x2 x3,In_V (Zz w0) (Zz w1) (Zz w2) (Zz w3),(LN_V (Zz w0) (Zz w1) (Zz w2) (Zz w3)).symm⟩
abbrev GE (p q g h:Int):List Value:=[iU (D0 p),iU (D1 p),iU (D2 p),iU (D3 p),iU (D0 q),iU (D1 q),iU (D2 q),iU (D3 q),iU (D0 g),iU (D1 g),iU (D2 g),iU (D3 g),iU (D0 h),iU (D1 h),iU (D2 h),iU (D3 h)]
abbrev GX (p q g h:Int):Value:= .agg #[iU (D0 p),iU (D1 p),iU (D2 p),iU (D3 p),iU (D0 q),iU (D1 q),iU (D2 q),iU (D3 q),iU (D0 g),iU (D1 g),iU (D2 g),iU (D3 g),iU (D0 h),iU (D1 h),iU (D2 h),iU (D3 h)]
theorem flC_at: ∀(cs:List (Int×Int×Int)) (j:Nat) (v:Value),(flC cs)[j]?=some v->j/12<cs.length/\(CE (cat cs (j/12)).1 (cat cs (j/12)).2.1 (cat cs (j/12)).2.2)[j%12]?=some v
 | [],j,v,h=>by simp[flC] at h
 | n::r,j,v,h=>by
  rw[flC] at h
  by_cases hj:j<12
  ·rw[List.getElem?_append_left (by show j<12;exact hj)] at h
   rw[show j/12=0 by omega,show j%12=j by omega]
   exact⟨by simp,by simpa [cat] using h⟩
  ·rw[List.getElem?_append_right (by show 12<=j;omega)] at h
   have h:(flC r)[j -12]?=some v:=h
   have:=flC_at r (j -12) v h
   rw[show j/12=(j -12)/12+1 by omega,show j%12=(j -12)%12 by omega]
   exact⟨by simpa using this.1,by simpa [cat] using this.2⟩
theorem SCt.of {w:World} {g o:Nat} {cs:List (Int×Int×Int)} (h: ∀i,i<cs.length-> ∀c v,(CE (cat cs i).1 (cat cs i).2.1 (cat cs i).2.2)[c]?=some v->w.cell? ⟨g,o+(i*12+c),none⟩=some v):SCt w g o cs:=fun j v hj=>by
 obtain⟨h1,h2⟩:=flC_at cs j v hj
 have:=h _ h1 _ v h2
 rwa [show j/12*12+j%12=j by omega] at this
end
section
open Go.RowKit
abbrev L0g:List Value:=[.int .u64 0,.int .u64 0,.int .u64 0,.int .u64 0,.int .u64 0,.int .u64 0,.int .u64 0,.int .u64 0,.int .u64 0,.int .u64 0,.int .u64 0,.int .u64 0,.int .u64 0,.int .u64 0,.int .u64 0,.int .u64 0]
theorem Tm (w:World):(Instr.alloc 26 true (.tuple #[])).run Tryz.prog w= .ok (.pointer (some ⟨w.heap.size,0,none⟩)) (w.alloc (.cells L0g.toArray 26)):=by kernel_rfl
theorem Z0:(Tryz.prog.info? 26).map (·.size)=some 16:=by kernel_rfl
theorem fdG0 (b:Nat) (w:World):(Instr.fieldAt 26 (.pointer (some ⟨b,0,none⟩)) 0).run Tryz.prog w= .ok (.pointer (some ⟨b,0,none⟩)) w:=by go_simp
theorem fdG1 (b:Nat) (w:World):(Instr.fieldAt 26 (.pointer (some ⟨b,0,none⟩)) 1).run Tryz.prog w= .ok (.pointer (some ⟨b,4,none⟩)) w:=by go_simp
theorem fdG2 (b:Nat) (w:World):(Instr.fieldAt 26 (.pointer (some ⟨b,0,none⟩)) 2).run Tryz.prog w= .ok (.pointer (some ⟨b,8,none⟩)) w:=by go_simp
theorem fdG3 (b:Nat) (w:World):(Instr.fieldAt 26 (.pointer (some ⟨b,0,none⟩)) 3).run Tryz.prog w= .ok (.pointer (some ⟨b,12,none⟩)) w:=by go_simp
def xt (x:Nat):Nat:=if 256<=2*x then (2*x)^^^283 else 2*x
def tmL:Nat->Nat->Nat->Nat->Nat
 | 0,o,_,_=>o
 | n+1,o,x,y=>tmL n (if y%2=1 then o^^^x else o) (xt x) (y/2)
def tm (a b:Nat):Nat:=tmL 8 0 a b
def sbT:List Nat:=[99,124,119,123,242,107,111,197,48,1,103,43,254,215,171,118,202,130,201,125,250,89,71,240,173,212,162,175,156,164,114,192,183,253,147,38,54,63,247,204,52,165,229,241,113,216,49,21,4,199,35,195,24,150,5,154,7,18,128,226,235,39,178,117,9,131,44,26,27,110,90,160,82,59,214,179,41,227,47,132,83,209,0,237,32,252,177,91,106,203,190,57,74,76,88,207,208,239,170,251,67,77,51,133,69,249,2,127,80,60,159,168,81,163,64,143,146,157,56,245,188,182,218,33,16,255,243,210,205,12,19,236,95,151,68,23,196,167,126,61,100,93,25,115,96,129,79,220,34,42,144,136,70,238,184,20,222,94,11,219,224,50,58,10,73,6,36,92,194,211,172,98,145,149,228,121,231,200,55,109,141,213,78,169,108,86,244,234,101,122,174,8,186,120,37,46,28,166,180,198,232,221,116,31,75,189,139,138,112,62,181,102,72,3,246,14,97,53,87,185,134,193,29,158,225,248,152,17,105,217,142,148,155,30,135,233,206,85,40,223,140,161,137,13,191,230,66,104,65,153,45,15,176,84,187,22]
structure BY (n:Nat) (l:List Nat):Prop where
 len:l.length=n
 lt: ∀j,l.getD j 0<256
theorem gset (l:List Nat) (i j x:Nat):(l.set i x).getD j 0=if i=j/\j<l.length then x else l.getD j 0:=by
 rw[List.getD_eq_getElem?_getD,List.getD_eq_getElem?_getD,List.getElem?_set]
 by_cases h:i=j
 ·subst h
  by_cases h2:i<l.length
  ·simp[h2]
  ·simp[h2]
 ·simp[h]
theorem BY.set {n:Nat} {l:List Nat} (h:BY n l) (i x:Nat) (hx:x<256):BY n (l.set i x) where
 len:=by rw[List.length_set];exact h.len
 lt j:=by
  rw[gset];split
  ·exact hx
  ·exact h.lt j
def rcn:Nat->Nat
 | 0=>1
 | i+1=>tm (rcn i) 2
def lsK (w:List Nat) (n p k:Nat):Nat:=
 if n%4=0 then sbT.getD (w.getD (4*n+12+(k+1)%4) 0) 0^^^(if k=0 then p else 0) else w.getD (4*n+12+k) 0
def kw (key:List Nat):Nat->List Nat
 | 0=>key
 | n+1=>kw key n++[(kw key n).getD (4*n) 0^^^lsK (kw key n) n (rcn ((n+3)/4)) 0,(kw key n).getD (4*n+1) 0^^^lsK (kw key n) n (rcn ((n+3)/4)) 1,
  (kw key n).getD (4*n+2) 0^^^lsK (kw key n) n (rcn ((n+3)/4)) 2,(kw key n).getD (4*n+3) 0^^^lsK (kw key n) n (rcn ((n+3)/4)) 3]
theorem gapp1 {a b:List Nat} {j:Nat} (h:j<a.length):(a++b).getD j 0=a.getD j 0:=by
 rw[List.getD_eq_getElem?_getD,List.getD_eq_getElem?_getD,List.getElem?_append_left h]
theorem gapp2 {a b:List Nat} {j:Nat} (h:a.length<=j):(a++b).getD j 0=b.getD (j -a.length) 0:=by
 rw[List.getD_eq_getElem?_getD,List.getD_eq_getElem?_getD,List.getElem?_append_right h]
theorem BY.app {n m:Nat} {a b:List Nat} (ha:BY n a) (hb:BY m b):BY (n+m) (a++b):=⟨by rw[List.length_append,ha.len,hb.len],fun j=>by
 by_cases h:j<a.length
 ·rw[gapp1 h];exact ha.lt j
 ·rw[gapp2 (by omega)];exact hb.lt _⟩
theorem gtake (l:List Nat) (n:Nat) {j:Nat} (h:j<n):(l.take n).getD j 0=l.getD j 0:=by
 rw[List.getD_eq_getElem?_getD,List.getD_eq_getElem?_getD,List.getElem?_take_of_lt h]
theorem gdrop (l:List Nat) (n j:Nat):(l.drop n).getD j 0=l.getD (n+j) 0:=by
 rw[List.getD_eq_getElem?_getD,List.getD_eq_getElem?_getD,List.getElem?_drop]
theorem gout {l:List Nat} {j:Nat} (h:l.length<=j):l.getD j 0=0:=by
 rw[List.getD_eq_getElem?_getD,List.getElem?_eq_none h];rfl
theorem BY.take {m:Nat} {l:List Nat} (h:BY m l) (n:Nat) (hn:n<=m):BY n (l.take n):=⟨by rw[List.length_take,h.len];omega,fun j=>by
 by_cases hj:j<n
 ·rw[gtake l n hj];exact h.lt j
 ·rw[gout (by rw[List.length_take];omega)];decide⟩
theorem BY.drop {m:Nat} {l:List Nat} (h:BY m l) (n:Nat):BY (m -n) (l.drop n):=⟨by rw[List.length_drop,h.len],fun j=>by rw[gdrop];exact h.lt _⟩
abbrev Fld:=Nat×List Nat
def putF:List Fld->List Nat
 | []=>[]
 | (t,b)::l=>t::b.length/256::b.length%256::(b++putF l)
theorem two (n:Nat):256*(n/256)+n%256=n:=by omega
def num8:List Nat->Nat:=List.foldl (fun n b=>256*n+b) 0
end
end Go.Proofs.YtofcppgfaelloaaGreatDoor
