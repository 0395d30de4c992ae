import Derived.Test.YtmoimodkopjeeaaGreatDoorGR
namespace Go.Proofs.YtmoimodkopjeeaaGreatDoor
set_option linter.unusedVariables false
set_option linter.unusedSimpArgs false
set_option maxRecDepth 100000
set_option maxHeartbeats 4000000
open Go.RowKit
def xt(x:Nat):Nat:=if 256<=2*x then (2*x)^^^283 else 2*x
def tmL:Nat->Nat->Nat->Nat->Nat
 | 0,o,_,_=>o
 | n+1,o,x,y=>tmL n (if y%2=1 then o^^^x else o) (xt x) (y/2)
def tm(a b:Nat):Nat:=tmL 8 0 a b
def sbT:List Nat:=[99,124,119,123,242,107,111,197,48,1,103,43,254,215,171,118,202,130,201,125,250,89,71,240,173,212,162,175,156,164,114,192,183,253,147,38,54,63,247,204,52,165,229,241,113,216,49,21,4,199,35,195,24,150,5,154,7,18,128,226,235,39,178,117,9,131,44,26,27,110,90,160,82,59,214,179,41,227,47,132,83,209,0,237,32,252,177,91,106,203,190,57,74,76,88,207,208,239,170,251,67,77,51,133,69,249,2,127,80,60,159,168,81,163,64,143,146,157,56,245,188,182,218,33,16,255,243,210,205,12,19,236,95,151,68,23,196,167,126,61,100,93,25,115,96,129,79,220,34,42,144,136,70,238,184,20,222,94,11,219,224,50,58,10,73,6,36,92,194,211,172,98,145,149,228,121,231,200,55,109,141,213,78,169,108,86,244,234,101,122,174,8,186,120,37,46,28,166,180,198,232,221,116,31,75,189,139,138,112,62,181,102,72,3,246,14,97,53,87,185,134,193,29,158,225,248,152,17,105,217,142,148,155,30,135,233,206,85,40,223,140,161,137,13,191,230,66,104,65,153,45,15,176,84,187,22]
structure BY(n:Nat)(l:List Nat):Prop where
 len:l.length=n
 lt: ∀j,l.getD j 0<256
theorem gset(l:List Nat)(i j x:Nat):(l.set i x).getD j 0=if i=j/\j<l.length then x else l.getD j 0:=by
 rw[List.getD_eq_getElem?_getD,List.getD_eq_getElem?_getD,List.getElem?_set]
 by_cases h:i=j
 ·subst h
  by_cases h2:i<l.length
  ·simp[h2]
  ·simp[h2]
 ·simp[h]
theorem BY.set{n:Nat}{l:List Nat}(h:BY n l)(i x:Nat)(hx:x<256):BY n (l.set i x) where
 len:=by rw[List.length_set];exact h.len
 lt j:=by
  rw[gset];split
  ·exact hx
  ·exact h.lt j
def rcn:Nat->Nat
 | 0=>1
 | i+1=>tm (rcn i) 2
def lsK(w:List Nat)(n p k:Nat):Nat:=
 if n%4=0 then sbT.getD (w.getD (4*n+12+(k+1)%4) 0) 0^^^(if k=0 then p else 0) else w.getD (4*n+12+k) 0
def kw(key:List Nat):Nat->List Nat
 | 0=>key
 | n+1=>kw key n++[(kw key n).getD (4*n) 0^^^lsK (kw key n) n (rcn ((n+3)/4)) 0,(kw key n).getD (4*n+1) 0^^^lsK (kw key n) n (rcn ((n+3)/4)) 1,
  (kw key n).getD (4*n+2) 0^^^lsK (kw key n) n (rcn ((n+3)/4)) 2,(kw key n).getD (4*n+3) 0^^^lsK (kw key n) n (rcn ((n+3)/4)) 3]
theorem gapp1{a b:List Nat}{j:Nat}(h:j<a.length):(a++b).getD j 0=a.getD j 0:=by
 rw[List.getD_eq_getElem?_getD,List.getD_eq_getElem?_getD,List.getElem?_append_left h]
theorem gapp2{a b:List Nat}{j:Nat}(h:a.length<=j):(a++b).getD j 0=b.getD (j -a.length) 0:=by
 rw[List.getD_eq_getElem?_getD,List.getD_eq_getElem?_getD,List.getElem?_append_right h]
theorem BY.app{n m:Nat}{a b:List Nat}(ha:BY n a)(hb:BY m b):BY (n+m) (a++b):=⟨by rw[List.length_append,ha.len,hb.len],fun j=>by
 by_cases h:j<a.length
 ·rw[gapp1 h];exact ha.lt j
 ·rw[gapp2 (by omega)];exact hb.lt _⟩
theorem gtake(l:List Nat)(n:Nat){j:Nat}(h:j<n):(l.take n).getD j 0=l.getD j 0:=by
 rw[List.getD_eq_getElem?_getD,List.getD_eq_getElem?_getD,List.getElem?_take_of_lt h]
theorem gdrop(l:List Nat)(n j:Nat):(l.drop n).getD j 0=l.getD (n+j) 0:=by
 rw[List.getD_eq_getElem?_getD,List.getD_eq_getElem?_getD,List.getElem?_drop]
theorem gout{l:List Nat}{j:Nat}(h:l.length<=j):l.getD j 0=0:=by
 rw[List.getD_eq_getElem?_getD,List.getElem?_eq_none h];rfl
theorem BY.take{m:Nat}{l:List Nat}(h:BY m l)(n:Nat)(hn:n<=m):BY n (l.take n):=⟨by rw[List.length_take,h.len];omega,fun j=>by
 by_cases hj:j<n
 ·rw[gtake l n hj];exact h.lt j
 ·rw[gout (by rw[List.length_take];omega)];decide⟩
theorem BY.drop{m:Nat}{l:List Nat}(h:BY m l)(n:Nat):BY (m -n) (l.drop n):=⟨by rw[List.length_drop,h.len],fun j=>by rw[gdrop];exact h.lt _⟩
abbrev Fld:=Nat×List Nat
def putF:List Fld->List Nat
 | []=>[]
 | (t,b)::l=>t::b.length/256::b.length%256::(b++putF l)
def num8:List Nat->Nat:=List.foldl (fun n b=>256*n+b) 0
end Go.Proofs.YtmoimodkopjeeaaGreatDoor
