import Derived.Test.YtgieoghechekpaaDoorAP5
namespace Go.Proofs.YtgieoghechekpaaDoor
set_option linter.unusedVariables false
set_option linter.unusedSimpArgs false
set_option maxRecDepth 100000
set_option maxHeartbeats 4000000
section
open Go.RowKit
def INb(u:World)(b:Nat)(v:Value)(p:List Nat):Prop:= ∃(sl:Option Addr) (cap gb go:Nat),v= .slice sl p.length cap/\p.length<=cap/\(p.length=0\/sl=some ⟨gb,go,none⟩)/\gb<u.heap.size/\gb≠b/\SB u gb go p
theorem INb.inn{u:World}{b:Nat}{v:Value}{p:List Nat}(h:INb u b v p):IN u u.heap.size v p:=by
 obtain⟨sl,cap,gb,go,e,h1,h2,h3,_,h5⟩:=h
 exact⟨sl,cap,gb,go,e,h1,h2,h3,h5⟩
theorem INb.below{u u':World}{b:Nat}{v:Value}{p:List Nat}(h:INb u b v p)(hB:Bw u u'):INb u' b v p:=by
 obtain⟨sl,cap,gb,go,e,h1,h2,h3,h4,h5⟩:=h
 exact⟨sl,cap,gb,go,e,h1,h2,Nat.lt_of_lt_of_le h3 hB.size,h4,h5.below hB h3⟩
theorem IN.nb{u:World}{m b:Nat}{v:Value}{p:List Nat}(h:IN u m v p)(hm:m<=b)(hs:m<=u.heap.size):INb u b v p:=by
 obtain⟨sl,cap,gb,go,e,h1,h2,h3,h5⟩:=h
 exact⟨sl,cap,gb,go,e,h1,h2,by omega,by omega,h5⟩
theorem INb.put{u:World}{b:Nat}{v:Value}{p:List Nat}(h:INb u b v p)(o:Nat)(ws:List Value):INb (u.setCells b o ws) b v p:=by
 obtain⟨sl,cap,gb,go,e,h1,h2,h3,h4,h5⟩:=h
 refine⟨sl,cap,gb,go,e,h1,h2,by rw[Z1];exact h3,h4,fun j hj=>?_⟩
 have hk:=World.heap_setCells_other u b o ws h3 h4
 rw[World.cell?_of_block (a:=⟨gb,go+j,none⟩) hk];exact h5 j hj
theorem CV.oth{u:World}{b b' o:Nat}{l ws:List Value}(h:CV u b l)(hne:b≠b')(hb:b<u.heap.size):CV (u.setCells b' o ws) b l:=fun j v hj=>by
 have hk:=World.heap_setCells_other u b' o ws hb hne
 rw[World.cell?_of_block (a:=⟨b,j,none⟩) hk,World.frozen?_of_block (a:=⟨b,j,none⟩) hk]
 exact h j v hj
theorem CV.all{u:World}{b:Nat}{ys ds:List Value}(h:CV u b ys)(hl:ys.length=ds.length):CV (u.setCells b 0 ds) b ds:=by
 have h2:CV u b ([]++ys++[]):=by simpa using h
 have:=h2.mid (o:=0) (news:=ds) rfl hl
 simpa using this
theorem c8:Tryd.prog.cellsOf 5=1:=by kernel_rfl
theorem Y0{P:Program}{w w':World}{ops:Array Oper}{rest:List Oper}{o:Oper}{a:Act}{Q:Exit->Act->World->Prop}(hgd:o.guard=none)(s x:Operand)(t:TypeId)(ho:o.op= .call {callee:= .builtin .append,args:=#[s,x],argTypes:=#[t,t]})(vs vx v:Value)(hs:a.eval s=vs)(hx:a.eval x=vx)(hr:(Builtin.append_ #[t,t] o.type #[vs,vx]).run P w= .ok v w')(h:wpList P ops Q rest (a.put o.dst v) w'):wpList P ops Q (o::rest) a w:=by
 refine wpList_plain hgd fun K hK=>?_
 unfold Oper.wp execOp
 simp only[ho,resolve,invoke,builtin,Sem.run_bind,Sem.run_pure,Result.andThen_ok,List.map_toArray,List.map_cons,List.map_nil,hs,hx,hr]
 exact hK _ _ h
end
section
open Go.RowKit Go.Extern.Stop Go.Stop Go.Extern
def pkE(xs:Nat->Value)(b:Nat->Bool):Nat->List Value
 | 0=>[]
 | i+1=>if b i then pkE xs b i++[xs i] else pkE xs b i
def PJ(l:List Value)(u:World)(y:Value):Prop:=(l=[]/\y= .nilIface)\/ ∃(J bo m co:Nat) (zs:List Value),y= .iface 60 (.pointer (some ⟨J,0,none⟩))/\J<u.heap.size/\bo<u.heap.size/\l.length=m/\0<m/\CV u J [.slice (some ⟨bo,0,none⟩) m co]/\CV u bo (l++zs)
theorem infoEr:(Tryd.prog.info? 43).map (fun i=>(i.zero,i.size,i.bytes))=some (some .nilIface,1,16):=by kernel_rfl
theorem mkEr(n:Nat)(hn:n<=1000000)(w:World):(Instr.makeSlice 59 (.int .i64 0) (.int .i64 (n:Int))).run Tryd.prog w= .ok (.slice (some ⟨w.heap.size,0,none⟩) 0 n) (w.alloc (.cells (List.replicate n Value.nilIface).toArray 43)):=by
 obtain⟨i,hi,hi2⟩:=Option.map_eq_some_iff.1 infoEr
 simp only[Prod.mk.injEq] at hi2
 obtain⟨hz,hs,hb⟩:=hi2
 have:=run_makeSlice (P:=Tryd.prog) w 59 43 i .nilIface Tryd.underlying59 hi hz .i64 .i64 0 n (by omega) (by omega) (by rw[hs];omega) (by rw[hb];omega) (by omega)
 rw[this,hs]
 simp only[Int.toNat_natCast,Nat.mul_one]
 congr 3
 apply Array.ext'
 simp[madeCells,Value.cells]
 apply List.ext_getElem
 ·simp
 ·intro j h1 h2;simp[Nat.mod_one]
theorem CV.blk{u u2:World}{b:Nat}{l:List Value}(h:CV u b l)(hk:u2.heap[b]?=u.heap[b]?):CV u2 b l:=fun j x hj=>by
 rw[World.cell?_of_block (a:=⟨b,j,none⟩) hk,World.frozen?_of_block (a:=⟨b,j,none⟩) hk];exact h j x hj
theorem bsEr1(T:TypeId)(x:Value)(w:World):(Instr.buildSlice 59 1 #[(0,.iface T x)]).run Tryd.prog w= .ok (.slice (some ⟨w.heap.size,0,none⟩) 1 1) (w.alloc (.cells #[.iface T x] 43)):=by kernel_rfl
theorem app_er{u:World}{bo m co:Nat}{vs zs:List Value}{T:TypeId}{x:Value}{ty:TypeId}(hc:CV u bo (vs++zs))(hb:bo<u.heap.size)(hvl:vs.length=m)(hmc:m<=co)(hz:zs.length=co -m)(hl:m<=1000000):
 ∃v u',(Builtin.append_ #[59,59] ty #[.slice (some ⟨bo,0,none⟩) m co,.slice (some ⟨u.heap.size,0,none⟩) 1 1]).run Tryd.prog (u.alloc (.cells #[.iface T x] 43))= .ok v u'/\(u.alloc (.cells #[.iface T x] 43)).grownBy u' (some bo)/\PH (u.alloc (.cells #[.iface T x] 43)).heap.size bo 1 (m+1) (vs++[.iface T x]) u' v:=by
 obtain⟨ti,hti,htm⟩:=Option.map_eq_some_iff.1 infoEr
 simp only[Prod.mk.injEq] at htm
 obtain⟨hzv,hsz,hby⟩:=htm
 have hss:u.heap.size<=(u.alloc (.cells #[.iface T x] 43)).heap.size:=by simp
 obtain⟨v',u',hr,hg,hp⟩:=run_app (P:=Tryd.prog) (u.alloc (.cells #[.iface T x] 43)) (ty:=ty) Tryd.underlying59 hti hzv (by rw[hsz];rfl) (base:=(u.alloc (.cells #[.iface T x] 43)).heap.size) (n:=m) (cap:=co) (m:=1) (news:=[.iface T x]) (y:= .slice (some ⟨u.heap.size,0,none⟩) 1 1) (hc.below (Z0 (Z2 u) _) hb) (Nat.lt_of_lt_of_le hb hss) (by rw[hsz];omega) (by rw[hsz];omega) hmc (Nat.le_refl _) ⟨_,1,rfl,.inr ⟨_,rfl,fun j v hj=>by rw[Addr.add0];exact(CV.new u [.iface T x] 43 j v hj).1⟩⟩ (by rw[hsz];rfl) (fun v hv=>by simp at hv;subst hv;rfl) (by rw[hby];omega) (by omega)
 rw[hsz] at hp
 exact⟨v',u',hr,hg,hp⟩
theorem join_core(n gcap:Nat)(gsl:Option Addr)(xs:Nat->Value)(b:Nat->Bool)(w:World)(hn:n<=1000000)(hrow:Hid (0<n-> ∃g o,gsl=some ⟨g,o,none⟩/\g<w.heap.size/\ ∀i,i<n->w.cell? ⟨g,o+i,none⟩=some (xs i)))(hb:Hid (∀i,i<n->b i=false/\xs i= .nilIface\/b i=true/\ ∃T x,xs i= .iface T x))(hpl:Hid (∀i,(pkE xs b i).length<=i)):
 Calls Tryd.prog 12 #[.slice gsl n gcap] w fun r u'=> ∃y,r= .returned y/\PJ (pkE xs b n) u' y/\Bw w u':=by
 go_enter Tryd.func12,Tryd.ntmps12
 go_wp2_with fail
 go_loopw [11,3] (fun s11 s3 wr=> ∃i:Nat,i<=n/\s11= .int .i64 (i:Int)/\s3= .int .i64 (((pkE xs b i).length:Nat):Int)/\Bw w wr) (fun s11 _ _=>n -(intOf s11).toNat)
 case atStart=>exact⟨0,by omega,rfl,rfl,Below.refl _ _⟩
 case round=>
  obtain⟨i,hi,rfl,rfl,HBr⟩:=hrel
  by_cases hj:i<n
  ·have hl2:(i:Int)<(n:Int):=by omega
   obtain⟨g,o,rfl,hg,hcl⟩:=hrow.out (by omega)
   have hc:wr.cell? ⟨g,o+i,none⟩=some (xs i):=(HBr.cell (p:=⟨g,o+i,none⟩) hg).trans (hcl i hj)
   have hP:=hpl.out i
   have e1:IntKind.i64.wrap ((i:Int)+1)=((i+1:Nat):Int):=wrap1 i n hj hn
   rcases hb.out i hj with⟨b1,b2⟩ | ⟨b1,T,x,b2⟩
   ·rw[b2] at hc
    have e2:pkE xs b (i+1)=pkE xs b i:=by rw[pkE,b1];rfl
    obtain⟨q,eq⟩: ∃q,(pkE xs b i).length=q:=⟨_,rfl⟩
    rw[eq]
    clear hcl
    go_wp2
    refine⟨⟨i+1,by omega,by simp,by rw[e2,eq],HBr⟩,?_⟩
    simp[intOf];omega
   ·rw[b2] at hc
    have e2:pkE xs b (i+1)=pkE xs b i++[xs i]:=by rw[pkE,b1];rfl
    obtain⟨q,eq⟩: ∃q,(pkE xs b i).length=q:=⟨_,rfl⟩
    have e3:IntKind.i64.wrap ((q:Int)+1)=((q+1:Nat):Int):=by rw[IntKind.wrap_i64];omega
    rw[eq]
    clear hcl
    go_wp2
    refine⟨⟨i+1,by omega,by simp,by rw[e2,List.length_append,eq];simp,HBr⟩,?_⟩
    simp[intOf];omega
  ·have hl2: ¬(i:Int)<(n:Int):=by omega
   have hin:i=n:=by omega
   subst hin
   obtain⟨m,em⟩: ∃m,(pkE xs b i).length=m:=⟨_,rfl⟩
   rw[em]
   by_cases hm:m=0
   ·subst hm
    go_wp2
    exact bodyPost_ret (v:= .nilIface) (by simp[results,Tryd.results12,go_sem]) rfl ⟨_,rfl,.inl ⟨List.eq_nil_of_length_eq_zero em,rfl⟩,HBr⟩
   ·have hm2: ¬(m:Int)=0:=by omega
    have hmk:=mkEr m (by have:=hpl.out i;omega)
    have hbe:=bsEr1
    obtain⟨wo,rfl⟩: ∃x,x=wr:=⟨_,rfl⟩
    have hK1:CV ((wo.alloc (.cells (List.replicate m Value.nilIface).toArray 43)).alloc (.cells [Value.slice (some ⟨wo.heap.size,0,none⟩) 0 m].toArray 62)) (wo.heap.size+1) [.slice (some ⟨wo.heap.size,0,none⟩) 0 m]:=CV.newAt _ _ _ _ (by simp)
    have hK2:CV ((wo.alloc (.cells (List.replicate m Value.nilIface).toArray 43)).alloc (.cells [Value.slice (some ⟨wo.heap.size,0,none⟩) 0 m].toArray 62)) wo.heap.size (List.replicate m Value.nilIface):=(CV.new wo _ _).below (Z0 (Z2 _) _) (by simp)
    have hBn:Bw w ((wo.alloc (.cells (List.replicate m Value.nilIface).toArray 43)).alloc (.cells [Value.slice (some ⟨wo.heap.size,0,none⟩) 0 m].toArray 62)):=Z0 (Z0 HBr _) _
    have hso:=HBr.size
    simp only[List.toArray_replicate] at hK1 hK2 hBn
    have hK1:Hid _:=hK1
    have hK2:Hid _:=hK2
    go_wp2_with fail
    go_loopw [28] (fun s28 wx=> ∃(j bo co:Nat) (zs:List Value),j<=i/\s28= .int .i64 (j:Int)/\Hid (CV wx (wo.heap.size+1) [.slice (some ⟨bo,0,none⟩) (pkE xs b j).length co])/\(pkE xs b j).length<=co/\zs.length=co -(pkE xs b j).length/\w.heap.size<=bo/\bo<wx.heap.size/\bo≠wo.heap.size+1/\wo.heap.size+1<wx.heap.size/\Hid (CV wx bo (pkE xs b j++zs))/\Bw w wx) (fun s28 _=>i -(intOf s28).toNat)
    case atStart=>exact⟨0,wo.heap.size,m,List.replicate m .nilIface,by omega,rfl,hK1.out,Nat.zero_le _,by simp[pkE],by omega,by (simp<;>omega),by omega,by (simp<;>omega),hK2.out,hBn⟩
    case round=>
     obtain⟨j,bo,co,zs,hji,rfl,CJ,hmc,hzl,hlo,hlt,hne,hJ,CB,HBx⟩:=hrel
     clear hK1 hK2 hBn
     obtain⟨q,eq⟩: ∃q,(pkE xs b j).length=q:=⟨_,rfl⟩
     rw[eq] at CJ hmc hzl
     by_cases hj:j<i
     ·have hl3:(j:Int)<(i:Int):=by omega
      obtain⟨g,o,rfl,hg,hcl⟩:=hrow.out (by omega)
      have hc:wr.cell? ⟨g,o+j,none⟩=some (xs j):=(HBx.cell (p:=⟨g,o+j,none⟩) hg).trans (hcl j hj)
      have hP:=hpl.out j
      have e1:IntKind.i64.wrap ((j:Int)+1)=((j+1:Nat):Int):=wrap1 j i hj hn
      rcases hb.out j hj with⟨b1,b2⟩ | ⟨b1,T,x,b2⟩
      ·rw[b2] at hc
       have e2:pkE xs b (j+1)=pkE xs b j:=by rw[pkE,b1];rfl
       clear hcl
       go_wp2
       refine⟨⟨j+1,bo,co,zs,by omega,by simp,by rw[e2,eq];exact CJ,by rw[e2,eq];exact hmc,by rw[e2,eq];exact hzl,hlo,hlt,hne,hJ,by rw[e2];exact CB,HBx⟩,?_⟩
       simp[intOf];omega
      ·rw[b2] at hc
       have e2:pkE xs b (j+1)=pkE xs b j++[.iface T x]:=by rw[pkE,b1,b2];rfl
       obtain⟨v2,ub,r2,rg2,b5,c5,z5,rfl,f1,f2,f3,f4,f5⟩:=app_er (ty:=59) (T:=T) (x:=x) CB.out hlt eq hmc hzl (by omega)
       have hJc:=(CJ.out 0 _ rfl).1
       have hBa:Bw w (wr.alloc (.cells #[.iface T x] 43)):=Z0 HBx _
       have hBb:Bw w ub:=hBa.grown rg2 hBa.size (fun k e=>by cases e;exact hlo)
       have hsa:wr.heap.size<=(wr.alloc (.cells #[.iface T x] 43)).heap.size:=by simp
       have CJ2:CV ub (wo.heap.size+1) [.slice (some ⟨bo,0,none⟩) q co]:=(CJ.out.below (Z0 (Z2 wr) (.cells #[.iface T x] 43)) hJ).blk (rg2.block _ (Nat.lt_of_lt_of_le hJ hsa) (fun e=>hne (by cases e;rfl)))
       have hJd:=(CJ2 0 _ rfl).1
       have hJf:=(CJ2 0 _ rfl).2
       have hsu:=rg2.size
       have hb5:w.heap.size<=b5:=by have:=hBa.size;rcases f1 with h | h<;>omega
       have hn5:b5≠wo.heap.size+1:=by rcases f1 with h | h<;>omega
       rw[Nat.mul_one] at f4
       have CJ3:Hid (CV (ub.setCell ⟨wo.heap.size+1,0,none⟩ (.slice (some ⟨b5,0,none⟩) (q+1) c5)) (wo.heap.size+1) [.slice (some ⟨b5,0,none⟩) (q+1) c5]):=CJ2.setC 0 (by simp) _
       have CB3:Hid (CV (ub.setCell ⟨wo.heap.size+1,0,none⟩ (.slice (some ⟨b5,0,none⟩) (q+1) c5)) b5 ((pkE xs b j++[.iface T x])++z5)):=f5.blk (Below.heap_setCell ub ⟨wo.heap.size+1,0,none⟩ _ b5 hn5)
       have hBc:Bw w (ub.setCell ⟨wo.heap.size+1,0,none⟩ (.slice (some ⟨b5,0,none⟩) (q+1) c5)):=hBb.setCell (by show w.heap.size<=wo.heap.size+1;omega) _
       clear hcl CJ2 f5 rg2
       go_wp2_with (at_builtin;refine Y0 rfl _ _ 59 rfl _ _ _ rfl rfl r2 ?_;clear r2)
       refine⟨⟨j+1,b5,c5,z5,by omega,by simp,by rw[e2,List.length_append,eq];exact CJ3,by rw[e2,List.length_append,eq];exact f3,by rw[e2,List.length_append,eq];exact f4,hb5,by simpa using f2,hn5,by simp;omega,by rw[e2];exact CB3,hBc⟩,?_⟩
       simp[intOf];omega
     ·have hl3: ¬(j:Int)<(i:Int):=by omega
      have hin:j=i:=by omega
      subst hin
      go_wp2
      refine bodyPost_ret (v:= .iface 60 (.pointer (some ⟨wo.heap.size+1,0,none⟩))) (by simp[results,Tryd.results12,go_sem]) rfl ⟨_,rfl,.inr ⟨wo.heap.size+1,bo,m,co,zs,rfl,hJ,hlt,em,by omega,?_,CB.out⟩,HBx⟩
      rw[<-em,eq];exact CJ.out
end
end Go.Proofs.YtgieoghechekpaaDoor
