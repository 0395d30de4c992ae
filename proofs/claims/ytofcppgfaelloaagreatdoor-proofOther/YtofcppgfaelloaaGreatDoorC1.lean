import Derived.Test.YtofcppgfaelloaaGreatDoorU0
import Derived.Stop.Asserts
namespace Go.Proofs.YtofcppgfaelloaaGreatDoor
set_option linter.unusedVariables false
set_option linter.unusedSimpArgs false
set_option maxRecDepth 100000
set_option maxHeartbeats 4000000
section
open Go.RowKit
def SBL (w:World) (g o:Nat) (xs:List Int):Prop:= ∀j,j<xs.length->w.cell? ⟨g,o+j,none⟩=some (.int .u8 (xs.getD j 0))
theorem SBL.below {w w':World} {m g o:Nat} {xs:List Int} (h:SBL w g o xs) (hb:Below m w w') (hg:g<m):SBL w' g o xs:=fun j hj=>(hb.cell (p:=⟨g,o+j,none⟩) hg).trans (h j hj)
theorem Read_any (g o cap:Nat) (xs:List Int) (w:World) (hn:xs.length<=32) (hx:Vj xs) (hg:g<w.heap.size) (hS:SBL w g o xs):
 CC 81 #[.slice (some ⟨g,o,none⟩) xs.length cap] w (.tuple #[A4 (Tk xs 0 xs.length) (Tk xs 1 xs.length) (Tk xs 2 xs.length) (Tk xs 3 xs.length),iI 0]):=by
 obtain⟨n,en⟩: ∃n,xs.length=n:=⟨_,rfl⟩
 have hn': ¬(32:Int)<(n:Int):=by omega
 have hn2:(n:Int)<=32:=by omega
 rw[en]
 have EN:Hid _:=en
 clear en
 go_enter Tryz.func81,Tryz.ntmps81
 go_wp2
 go_loopw [12] (fun i wr=> ∃k:Nat,k<=n/\i=iI k/\Bw w wr/\w.heap.size+1<wr.heap.size/\C4 wr w.heap.size 0 0 0 0/\C4 wr (w.heap.size+1) (Tk xs 0 k) (Tk xs 1 k) (Tk xs 2 k) (Tk xs 3 k)) (fun i _=>n -(intOf i).toNat)
 case atStart=>
  refine⟨0,by omega,rfl,?_,by simp,by unfold C4;simp[go_sem],by unfold C4;simp[go_sem,Tk]⟩
  iterate 6 all_goals (go_grown<;>try with_reducible refine below_drewN ?_ _)
 case round=>
  obtain⟨k,hk,rfl,hB,hs,hR,hA⟩:=hrel
  by_cases hlt:k<n
  ·have hlt':(k:Int)<(n:Int):=by omega
   have hA':=hA
   obtain⟨⟨ac0,ac1,ac2,ac3⟩,af0,af1,af2,af3⟩:=hA'
   have hc:=(hS.below hB hg) (n -1 -k) (by have:=EN.out;omega)
   have hxe:xs.getD (n -1 -k) 0=bv xs k:=by unfold bv;rw[EN.out]
   have hxb:=bv_bd xs hx k
   rw[hxe] at hc
   have T0:Hid _:=fun hq=>Tk_or xs hx k 0 hq
   have T1:Hid _:=fun hq=>Tk_or xs hx k 1 hq
   have T2:Hid _:=fun hq=>Tk_or xs hx k 2 hq
   have T3:Hid _:=fun hq=>Tk_or xs hx k 3 hq
   obtain⟨x,ex⟩: ∃x,bv xs k=x:=⟨_,rfl⟩
   rw[ex] at hc hxb
   obtain⟨x0,x1⟩:=hxb
   have EX:Hid _:=ex
   clear hxe ex
   have hq:k/8=0\/k/8=1\/k/8=2\/k/8=3:=by omega
   rcases hq with hq | hq | hq | hq
   ·have hq':(k:Int)/8=0:=by omega
    have HQ:Hid _:=hq
    clear hq
    generalize wr=u at *
    go_wp2
    go_region
    go_wp2
    refine⟨⟨k+1,by omega,by go_num,?_,by simpa using hs,hR.other _ (by simp<;>omega) _,?_⟩,by simp[intOf];omega⟩
    ·iterate 6 all_goals (go_grown<;>try with_reducible refine below_drewN ?_ _)
    ·have ht:=T0.out HQ.out
     rw[EX.out] at ht
     have hf:=HQ.out
     rw[<-ht,Xn xs k 1 (by omega),Xn xs k 2 (by omega),Xn xs k 3 (by omega)]
     exact(hA.set0 _)
   ·have hq':(k:Int)/8=1:=by omega
    have HQ:Hid _:=hq
    clear hq
    generalize wr=u at *
    go_wp2
    go_region
    go_wp2
    refine⟨⟨k+1,by omega,by go_num,?_,by simpa using hs,hR.other _ (by simp<;>omega) _,?_⟩,by simp[intOf];omega⟩
    ·iterate 6 all_goals (go_grown<;>try with_reducible refine below_drewN ?_ _)
    ·have ht:=T1.out HQ.out
     rw[EX.out] at ht
     have hf:=HQ.out
     rw[<-ht,Xn xs k 0 (by omega),Xn xs k 2 (by omega),Xn xs k 3 (by omega)]
     exact(hA.set1 _)
   ·have hq':(k:Int)/8=2:=by omega
    have HQ:Hid _:=hq
    clear hq
    generalize wr=u at *
    go_wp2
    go_region
    go_wp2
    refine⟨⟨k+1,by omega,by go_num,?_,by simpa using hs,hR.other _ (by simp<;>omega) _,?_⟩,by simp[intOf];omega⟩
    ·iterate 6 all_goals (go_grown<;>try with_reducible refine below_drewN ?_ _)
    ·have ht:=T2.out HQ.out
     rw[EX.out] at ht
     have hf:=HQ.out
     rw[<-ht,Xn xs k 0 (by omega),Xn xs k 1 (by omega),Xn xs k 3 (by omega)]
     exact(hA.set2 _)
   ·have hq':(k:Int)/8=3:=by omega
    have HQ:Hid _:=hq
    clear hq
    generalize wr=u at *
    go_wp2
    go_region
    go_wp2
    refine⟨⟨k+1,by omega,by go_num,?_,by simpa using hs,hR.other _ (by simp<;>omega) _,?_⟩,by simp[intOf];omega⟩
    ·iterate 6 all_goals (go_grown<;>try with_reducible refine below_drewN ?_ _)
    ·have ht:=T3.out HQ.out
     rw[EX.out] at ht
     have hf:=HQ.out
     rw[<-ht,Xn xs k 0 (by omega),Xn xs k 1 (by omega),Xn xs k 2 (by omega)]
     exact(hA.set3 _)
  ·have hkn:k=n:=by omega
   subst hkn
   obtain⟨⟨ac0,ac1,ac2,ac3⟩,_⟩:=hA
   obtain⟨⟨rc0,rc1,rc2,rc3⟩,rf0,rf1,rf2,rf3⟩:=hR
   have y0:w.heap.size<wr.heap.size:=by omega
   go_wp2
   refine bodyPost_ret (v:= .tuple #[A4 (Tk xs 0 k) (Tk xs 1 k) (Tk xs 2 k) (Tk xs 3 k),iI 0]) (by simp[results,Tryz.results81,go_sem, *]) rfl ⟨rfl,?_⟩
   iterate 6 all_goals (go_grown<;>try with_reducible refine below_drewN ?_ _)
def LI (d:List Nat):List Int:=d.map fun(x:Nat)=>(x:Int)
theorem LI_len (d:List Nat):(LI d).length=d.length:=List.length_map _
theorem LI_get (d:List Nat) (j:Nat):(LI d).getD j 0=((d.getD j 0:Nat):Int):=by
 unfold LI
 rw[List.getD_eq_getElem?_getD,List.getD_eq_getElem?_getD,List.getElem?_map]
 cases d[j]?<;>rfl
theorem SB_L {u:World} {g o:Nat} {d:List Nat} (h:SB u g o d):SBL u g o (LI d):=fun j hj=>by
 rw[LI_len] at hj
 rw[h j hj,LI_get]
theorem B8_L {d:List Nat} (h: ∀x∈d,x<256):Vj (LI d):=fun x hx=>by
 obtain⟨y,hy,rfl⟩:=List.mem_map.1 hx
 have:=h y hy
 omega
theorem nRead (d:List Nat) (g o c:Nat) (w:World) (hd:d.length=32) (hb: ∀x∈d,x<256) (hg:g<w.heap.size) (hS:SB w g o d):
 CC 81 #[.slice (some ⟨g,o,none⟩) 32 c] w (.tuple #[NV (V (Tk (LI d) 0 32) (Tk (LI d) 1 32) (Tk (LI d) 2 32) (Tk (LI d) 3 32)),iI 0]):=by
 have hl:(LI d).length=32:=by rw[LI_len,hd]
 have hx:=B8_L hb
 have:=Read_any g o c (LI d) w (by omega) hx hg (SB_L hS)
 rw[hl] at this
 rw[NV_V (Tk_W _ hx _ _) (Tk_W _ hx _ _) (Tk_W _ hx _ _) (Tk_W _ hx _ _)]
 exact this
theorem Tk_num (d:List Nat) (hd:d.length=32): ∀k,k<=32->V (Tk (LI d) 0 k) (Tk (LI d) 1 k) (Tk (LI d) 2 k) (Tk (LI d) 3 k)=((num8 (d.drop (32 -k)):Nat):Int)
 | 0,_=>by rw[List.drop_of_length_le (by omega)];rfl
 | k+1,h=>by
  have ih:=Tk_num d hd k (by omega)
  have hb:bv (LI d) k=((d.getD (31 -k) 0:Nat):Int):=by unfold bv;rw[LI_len,hd,LI_get]
  have e1:d.drop (32 -(k+1))=[d.getD (31 -k) 0]++d.drop (32 -k):=by
   rw[show 32 -(k+1)=31 -k by omega,List.drop_eq_getElem_cons (by omega),List.getD_eq_getElem?_getD,List.getElem?_eq_getElem (by omega),show 31 -k+1=32 -k by omega];rfl
  rw[e1,nu_app,List.length_drop,hd,show 32 -(32 -k)=k by omega]
  have e2:num8 [d.getD (31 -k) 0]=d.getD (31 -k) 0:=by simp[num8]
  rw[e2]
  generalize d.getD (31 -k) 0=y at hb
  generalize num8 (d.drop (32 -k))=n at ih
  have e3:(((y*256^k+n:Nat)):Int)=(y:Int)*256^k+(n:Int):=by rw[Int.natCast_add,Int.natCast_mul,Int.natCast_pow];rfl
  rw[e3,<-ih]
  have hk:k<32:=by omega
  have s: ∀q,Tk (LI d) q (k+1)=Tk (LI d) q k+if k/8=q then (y:Int)*2^(k%8*8) else 0:=fun q=>by rw[Tk,hb]
  rw[s,s,s,s]
  clear s hb e3 ih e1 e2 h
  generalize Tk (LI d) 0 k=t0
  generalize Tk (LI d) 1 k=t1
  generalize Tk (LI d) 2 k=t2
  generalize Tk (LI d) 3 k=t3
  have hc: ∃q r,q<4/\r<8/\k=8*q+r:=⟨k/8,k%8,by omega,by omega,by omega⟩
  obtain⟨q,r,hq,hr,rfl⟩:=hc
  rw[show (8*q+r)/8=q by omega,show (8*q+r)%8=r by omega]
  unfold V
  clear hk
  match q,hq,r,hr with
  | 0,_,0,_ | 0,_,1,_ | 0,_,2,_ | 0,_,3,_ | 0,_,4,_ | 0,_,5,_ | 0,_,6,_ | 0,_,7,_=>simp<;>omega
  | 1,_,0,_ | 1,_,1,_ | 1,_,2,_ | 1,_,3,_ | 1,_,4,_ | 1,_,5,_ | 1,_,6,_ | 1,_,7,_=>simp<;>omega
  | 2,_,0,_ | 2,_,1,_ | 2,_,2,_ | 2,_,3,_ | 2,_,4,_ | 2,_,5,_ | 2,_,6,_ | 2,_,7,_=>simp<;>omega
  | 3,_,0,_ | 3,_,1,_ | 3,_,2,_ | 3,_,3,_ | 3,_,4,_ | 3,_,5,_ | 3,_,6,_ | 3,_,7,_=>simp<;>omega
theorem cReadN (d:List Nat) (g o c:Nat) (w:World) (hd:d.length=32) (hb: ∀x∈d,x<256) (hg:g<w.heap.size) (hS:SB w g o d):
 CC 81 #[.slice (some ⟨g,o,none⟩) 32 c] w (.tuple #[NV (num8 d:Nat),iI 0]):=by
 have:=nRead d g o c w hd hb hg hS
 rw[Tk_num d hd 32 (by omega),Nat.sub_self,List.drop_zero] at this
 exact this
theorem num_lt (d:List Nat) (hd:d.length=32) (hb: ∀x∈d,x<256):In (num8 d:Nat):=by
 have hx:=B8_L hb
 have:=Tk_num d hd 32 (by omega)
 rw[Nat.sub_self,List.drop_zero] at this
 rw[<-this]
 exact In_V (Tk_W _ hx _ _) (Tk_W _ hx _ _) (Tk_W _ hx _ _) (Tk_W _ hx _ _)
theorem WV_cat (lo hi:Int) (hl:In lo) (hh:In hi):WV (lo+hi*0x10000000000000000000000000000000000000000000000000000000000000000)=A8 (D0 lo) (D1 lo) (D2 lo) (D3 lo) (D0 hi) (D1 hi) (D2 hi) (D3 hi):=by
 have h0:=hl.1
 have h1:=hl.2
 have e4:D4 (lo+hi*0x10000000000000000000000000000000000000000000000000000000000000000)=hi:=by unfold D4;omega
 have e0:D0 (lo+hi*0x10000000000000000000000000000000000000000000000000000000000000000)=D0 lo:=by unfold D0;omega
 have e1:D1 (lo+hi*0x10000000000000000000000000000000000000000000000000000000000000000)=D1 lo:=by unfold D1;omega
 have e2:D2 (lo+hi*0x10000000000000000000000000000000000000000000000000000000000000000)=D2 lo:=by unfold D2;omega
 have e3:D3 (lo+hi*0x10000000000000000000000000000000000000000000000000000000000000000)=D3 lo:=by unfold D3;omega
 rw[WV,e4,e0,e1,e2,e3]
end
section
open Go.RowKit Go.Extern.Stop Go.Stop Go.Extern Go.Extern.Rtype
inductive EW (n:Int):Value->Prop
 | leaf:EW n (.iface 31 (iI n))
 | wrap (s:ByteArray) (k:Value):EW n k->EW n (.iface 106 (.agg #[.string s,k]))
theorem EW.some {n:Int} {v:Value} (h:EW n v): ∃T x,v= .iface T x:=by
 cases h with
 | leaf=>exact⟨_,_,rfl⟩
 | wrap s k _=>exact⟨_,_,rfl⟩
theorem cUnFG (s:ByteArray) (k:Value) (w:World) (hk: ∃T x,k= .iface T x):CC 189 #[.agg #[.string s,k]] w k:=by
 obtain⟨T,x,rfl⟩:=hk
 go_enter Tryz.func189,Tryz.ntmps189
 go_wp2
 exact bodyPost_ret (v:= .iface T x) (by simp[results,Tryz.results189,go_sem]) rfl ⟨rfl,Z2 (Zm w) _⟩
theorem Tryz.noIsEG (v:Value) (xT:TypeId) (w:World):(Instr.typeAssert (.iface 31 v) xT 141 true).run Tryz.prog w= .ok (.tuple #[.nilIface,.bool false]) w:=run_typeAssert_lacksB Tryz.underlying141 (by kernel_rfl) (by kernel_rfl) v xT w
theorem Tryz.noIsFG (v:Value) (xT:TypeId) (w:World):(Instr.typeAssert (.iface 106 v) xT 141 true).run Tryz.prog w= .ok (.tuple #[.nilIface,.bool false]) w:=run_typeAssert_lacksB Tryz.underlying141 (by kernel_rfl) (by kernel_rfl) v xT w
theorem Tryz.noUnEG (v:Value) (xT:TypeId) (w:World):(Instr.typeAssert (.iface 31 v) xT 144 true).run Tryz.prog w= .ok (.tuple #[.nilIface,.bool false]) w:=run_typeAssert_lacksB Tryz.underlying144 (by kernel_rfl) (by kernel_rfl) v xT w
theorem Tryz.noUsEG (v:Value) (xT:TypeId) (w:World):(Instr.typeAssert (.iface 31 v) xT 146 true).run Tryz.prog w= .ok (.tuple #[.nilIface,.bool false]) w:=run_typeAssert_lacksB Tryz.underlying146 (by kernel_rfl) (by kernel_rfl) v xT w
theorem Tryz.unFG (v:Value) (xT:TypeId) (w:World):(Instr.typeAssert (.iface 106 v) xT 144 true).run Tryz.prog w= .ok (.tuple #[.iface 106 v,.bool true]) w:=run_typeAssert_hasB Tryz.underlying144 (by kernel_rfl) v xT w
theorem infoEG:(Tryz.prog.info? 31).map (·.comparable)=some true:=by kernel_rfl
theorem eqlEG (a b:Int) (w:World):(binOp .eql 81 (.iface 31 (iI a)) (.iface 31 (iI b))).run Tryz.prog w= .ok (.bool (a==b)) w:=by
 obtain⟨i,hi,hc⟩:=Option.map_eq_some_iff.1 infoEG
 have h1:=run_underlying (w:=w) Tryz.underlying81
 have h2:=run_underlying (w:=w) Tryz.underlying31
 have h3: ∀d,(Op.equalIn (d+2) 81 (.iface 31 (iI a)) (.iface 31 (iI b))).run Tryz.prog w= .ok (a==b) w:=fun d=>by
  simp[Op.equalIn,h1,h2,typeInfo,hi,hc]
 simp only[binOp]
 simp[Op.equal,Op.maxDepth,h3 9998]
theorem cIs0G (t n:Int) (w:World) (v:Value) (h:EW n v) (r:Bool) (er:(n==t)=r):
 CC 99 #[v,.iface 31 (iI t),.bool true] w (.bool r):=by
 have nE:=Tryz.noIsEG
 have nF:=Tryz.noIsFG
 have uE:=Tryz.noUnEG
 have sE:=Tryz.noUsEG
 have uF:=Tryz.unFG
 have qE:=fun(a:Int) (u:World)=>eqlEG a t u
 have qF:=fun(x:Value) (u:World)=>run_eql_iface_types (P:=Tryz.prog) 106 31 x (iI t) Tryz.underlying81 (by decide) u
 go_enter Tryz.func99,Tryz.ntmps99
 go_wp2_with fail
 go_loopw [0] (fun s0 wr=>EW n s0/\Bw w wr) (fun s0 _=>SizeOf.sizeOf s0)
 case atStart=>exact⟨h,Below.refl _ _⟩
 case round=>
  obtain⟨hv,HBr⟩:=hrel
  cases hv with
  | leaf=>
   cases r with
   | true=>
    go_wp2
    exact bodyPost_ret (v:= .bool true) (by simp[results,Tryz.results99,go_sem]) rfl ⟨rfl,HBr⟩
   | false=>
    go_wp2
    exact bodyPost_ret (v:= .bool false) (by simp[results,Tryz.results99,go_sem]) rfl ⟨rfl,HBr⟩
  | wrap s k hk=>
   obtain⟨T,x,rfl⟩:=hk.some
   have hU:=cUnFG s (.iface T x) wr ⟨_,_,rfl⟩
   have hk:Hid _:=hk
   go_wp2_with (go_at_call 189;refine hU.mono ?_;clear hU;rintro e ua ⟨rfl,hBa⟩)
   refine⟨⟨hk.out,Yu HBr hBa⟩,?_⟩
   simp;omega
theorem Tryz.isTypeOfG (v:Value) (w:World):(Extern.ReflectliteType.typeOf #[.iface 31 v]).run Tryz.prog w= .ok (.iface 139 (.agg #[.pointer (some ⟨7,31,none⟩)])) w:=by kernel_rfl
def cmpXG:Array Value->Sem Value:=Extern.ReflectliteType.method fun t=>do noPackHeld "Comparable" t;pure (.bool (<-typeInfo t).comparable)
theorem Tryz.isComparableG (w:World):(cmpXG #[.agg #[.pointer (some ⟨7,31,none⟩)]]).run Tryz.prog w= .ok (.bool true) w:=by kernel_rfl
theorem cIsGq (t n:Int) (w:World) (v:Value) (h:EW n v) (r:Bool) (er:(n==t)=r):CC 79 #[v,.iface 31 (iI t)] w (.bool r):=by
 have h8:= @run_callFunc_extern Tryz.prog 98 _ Extern.ReflectliteType.typeOf Tryz.func98 (by kernel_rfl) (by kernel_rfl) (by kernel_rfl) (by kernel_rfl)
 have h32:= @run_callFunc_extern Tryz.prog 193 _ cmpXG Tryz.func193 (by kernel_rfl) (by kernel_rfl) (by kernel_rfl) (by kernel_rfl)
 have tT:=Tryz.isTypeOfG
 have cT:=Tryz.isComparableG
 have hI:=cIs0G t n w v h r er
 obtain⟨T,x,rfl⟩:=h.some
 go_enter Tryz.func79,Tryz.ntmps79
 go_wp2_with (go_at_call 99;refine hI.mono ?_;clear hI;rintro e ub ⟨rfl,hBb⟩)
 exact bodyPost_ret (v:= .bool r) (by simp[results,Tryz.results79,go_sem]) rfl ⟨rfl,hBb⟩
theorem ixE0 (u:World):(Instr.index 107 (.agg #[iI 2,iI 90]) (iI 0)).run Tryz.prog u= .ok (iI 2) u:=by kernel_rfl
theorem ixE1 (u:World):(Instr.index 107 (.agg #[iI 2,iI 90]) (iI 1)).run Tryz.prog u= .ok (iI 90) u:=by kernel_rfl
theorem gTold_core (v:Value) (f2 f9:Bool) (m:Int) (w:World) (hv:v= .nilIface\/ ∃T x,v= .iface T x) (hm:m=if f2 then 2 else if f9 then 90 else 0)
 (hI:Hid (∀u,CC 79 #[v,.iface 31 (iI 2)] u (.bool f2)))
 (hJ:Hid (∀u,CC 79 #[v,.iface 31 (iI 90)] u (.bool f9))):
 CC 56 #[v] w (iI m):=by
 have hm:Hid _:=hm
 have u3:=Tryz.underlying31
 have a3:=Tryz.isAgg31
 have z3:=Tryz.sizeOf31
 have x0:=fun u:World=>ixE0 u
 have x1:=fun u:World=>ixE1 u
 rcases hv with rfl | ⟨T,x,rfl⟩
 all_goals
  go_enter Tryz.func56,Tryz.ntmps56
  go_wp2_with fail
  go_loopw [6] (fun s6 wr=>(s6=iI 0\/(s6=iI 1/\f2=false)\/(s6=iI 2/\f2=false/\f9=false))/\Bw w wr) (fun s6 _=>2 -(intOf s6).toNat)
  case atStart=>exact⟨.inl rfl,Below.refl _ _⟩
  case round=>
   obtain⟨h,HBr⟩:=hrel
   rcases h with rfl | ⟨rfl,hf⟩ | ⟨rfl,hf,hg⟩
   ·have hI:=hI.out wr
    cases f2 with
    | true=>
     go_wp2_with (go_at_call 79;refine hI.mono ?_;clear hI;rintro e ua ⟨rfl,hBa⟩)
     have hm2:=hm.out
     simp at hm2
     subst hm2
     exact bodyPost_ret (v:=iI 2) (by simp[results,Tryz.results56,go_sem]) rfl ⟨rfl,Yu HBr hBa⟩
    | false=>
     go_wp2_with (go_at_call 79;refine hI.mono ?_;clear hI;rintro e ua ⟨rfl,hBa⟩)
     exact⟨⟨.inr (.inl ⟨by simp,by simp⟩),Yu HBr hBa⟩,by simp[intOf]⟩
   ·subst hf
    have hJ:=hJ.out wr
    cases f9 with
    | true=>
     go_wp2_with (go_at_call 79;refine hJ.mono ?_;clear hJ;rintro e ua ⟨rfl,hBa⟩)
     have hm2:=hm.out
     simp at hm2
     subst hm2
     exact bodyPost_ret (v:=iI 90) (by simp[results,Tryz.results56,go_sem]) rfl ⟨rfl,Yu HBr hBa⟩
    | false=>
     go_wp2_with (go_at_call 79;refine hJ.mono ?_;clear hJ;rintro e ua ⟨rfl,hBa⟩)
     exact⟨⟨.inr (.inr ⟨by simp,by simp,by simp⟩),Yu HBr hBa⟩,by simp[intOf]⟩
   ·subst hf hg
    go_wp2
    have hm2:=hm.out
    simp at hm2
    subst hm2
    exact bodyPost_ret (v:=iI 0) (by simp[results,Tryz.results56,go_sem]) rfl ⟨rfl,HBr⟩
theorem gTold9 (v:Value) (w:World) (h:EW 90 v):CC 56 #[v] w (iI 90):=
 gTold_core _ false true 90 w (.inr h.some) rfl (fun u=>cIsGq 2 90 u v h _ rfl) (fun u=>cIsGq 90 90 u v h _ rfl)
end
end Go.Proofs.YtofcppgfaelloaaGreatDoor
