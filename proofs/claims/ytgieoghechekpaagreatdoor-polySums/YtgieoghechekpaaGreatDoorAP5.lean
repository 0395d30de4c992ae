import Derived.Test.YtgieoghechekpaaGreatDoorAP3
import Derived.Stop.Asserts
namespace Go.Proofs.YtgieoghechekpaaGreatDoor
set_option linter.unusedVariables false
set_option linter.unusedSimpArgs false
set_option maxRecDepth 100000
set_option maxHeartbeats 4000000
section
open Go.RowKit
theorem PRw.lo{a b:Nat}{ns:List Int}{u:World}{v:Value}(h:PRw b ns u v)(hab:a<=b):PRw a ns u v:=by
 obtain⟨x,e,h1,h2,h3⟩:=h
 exact⟨x,e,Nat.le_trans hab h1,h2,h3⟩
theorem flN_in: ∀{ns:List Int} {k:Nat},k<ns.length-> ∀j v,(LN (ns.getD k 0))[j]?=some v->(flN ns)[4*k+j]?=some v
 | [],k,h=>by simp at h
 | n::r,0,h=>fun j v hj=>by
  have hl:j<4:=(List.getElem?_eq_some_iff.1 hj).1
  rw[Nat.mul_zero,Nat.zero_add,flN,List.getElem?_append_left (by exact hl)];exact hj
 | n::r,k+1,h=>fun j v hj=>by
  have:=flN_in (ns:=r) (k:=k) (by simpa using h) j v (by simpa using hj)
  rw[flN,List.getElem?_append_right (by show 4<=_;omega),show 4*(k+1)+j -(LN n).length=4*k+j by show _ -4=_;omega];exact this
def smN(q:Int)(fs:List Int)(ps:List (Int×Int)):Nat->Int
 | 0=>0
 | k+1=>(smN q fs ps k+(fs.getD k 0*(ps.getD k (0,0)).2)%q)%q
theorem smN_In{q:Int}{fs:List Int}{ps:List (Int×Int)}(hq:In q)(hq0:q≠0): ∀i,In (smN q fs ps i)
 | 0=>In_0
 | i+1=>Zd hq hq0
theorem sum_core(q t:Int)(sx sd sl:Option Addr)(cx cd gb go cap:Nat)(ns fs:List Int)(ps:List (Int×Int))(w:World)(hq:In q)(hq0:q≠0)(hix:Hid (∀j,j<ps.length-> ∀W,(Instr.indexAt 31 (.slice sl ps.length cap) (.int .i64 j)).run Tryz.prog W= .ok (.pointer (some ⟨gb,go+8*j,none⟩)) W))(hg:ps.length=0\/gb<w.heap.size)(hS:Hid (SN w gb go (flt ps)))(hns:ps.length<=1000)(hF:Hid (∀u,Bw w u->Calls Tryz.prog 41 #[BX q (.slice sx ns.length cx) (.slice sd ns.length cd),NV t] u fun e u'=> ∃y,e= .returned y/\PRw u.heap.size fs u' y/\Bw u u'))(hfl:Hid (fs.length=ps.length))(hnf:Hid (∀k,k<fs.length->In (fs.getD k 0)))(hnp:Hid (∀k,k<ps.length->In (ps.getD k (0,0)).2)):
 CC 46 #[BX q (.slice sx ns.length cx) (.slice sd ns.length cd),NV t,.slice sl ps.length cap] w (NV (smN q fs ps fs.length)):=by
 have hfl2:=hfl.out
 have hfk:fs.length<=1000:=by omega
 clear hfl2
 go_enter Tryz.func46,Tryz.ntmps46
 go_upto_region 1 with fail
 generalize hC:(((w.alloc (.cells (BE q (.slice sx ns.length cx) (.slice sd ns.length cd):List Value).toArray 76)).alloc (.cells (LN t:List Value).toArray 24)).alloc (.cells (L0s:List Value).toArray 24))=v0 at *
 have HB0:Bw w v0:=by rw[<-hC];exact Z0 (Z0 (Z0 (Z2 w) _) _) _
 have K0:Bk w.heap.size v0 [(true,w.heap.size,BE q (.slice sx ns.length cx) (.slice sd ns.length cd)),(true,w.heap.size+1,LN t),(true,w.heap.size+1+1,L0s)]:=by rw[<-hC];exact(Bk.nil _ w).ad.ad.ad
 clear hC
 refine rgP K0 HB0 HB0.size [] [(1,7,L0s,some (2,[.int .u64 (0),.int .u64 (0),.int .u64 (0),.int .u64 (0)]))] [(0,10,A4 (0) (0) (0) (0))] [(2,1)] [] [] ?_ ?_
 ·exact oc (g_bd zN)<|oc (g_al 0 aN)<|oc (g_sn 0 iN) on
 intro u1 b1_1 HB1 sz1 K1
 simp only[sQ] at K1⊢
 clear K0 HB0
 go_upto_region 2 with fail
 refine rgF K1 HB1 HB1.size [] [] [(0,11,BX q (.slice sx ns.length cx) (.slice sd ns.length cd)),(1,12,NV t),(3,14,.int .i64 (fs.length:Int)),(4,15,(Go.Value.int Go.IntKind.i64 0))] [] [] [⟨2,13,none,PRw u1.heap.size fs⟩] [] (.cons (fun _ _ _ h1 h2=>h2.stab h1)<|Stab.nil) ?_ ?_
 ·exact oc (g_ld 0 Tryz.underlying76 Zw)<|oc (g_ld 1 uN iN)<|oc (g_cE 0 (PRw u1.heap.size fs) Yh (fun u hB hs=>(hF.out u hB).mono fun e u2 ⟨v,e1,h1,h2⟩=>⟨v,e1,h1.lo hs,h2⟩))<|oc (g_lE 0 (PRw u1.heap.size fs) Tryz.underlying25 (fun u vs ⟨b,e,_⟩=>⟨_,_,e⟩))<|oc g_mv on
 intro u2 v2_2 hv2_2 HB2 sz2 K2
 simp only[sQ] at K2⊢
 clear HB1
 obtain⟨bf,rfl,o1,o2,o3⟩:=hv2_2 rfl
 have K2xf:=Bk.more3 K1 K2 o1 o2 o3 (by intro x hx;first | (simp at hx;done) | (simp at hx⊢;omega))
 simp only[aK] at K2xf
 clear K2
 go_wp2_with fail
 go_loopw [15] (fun s15 wr=> ∃(k:Nat),k<=fs.length/\s15= .int .i64 (k:Int)/\Bw w wr/\CV wr (w.heap.size) (BE q (.slice sx ns.length cx) (.slice sd ns.length cd))/\w.heap.size<wr.heap.size/\CV wr (w.heap.size+1+1) (L0s)/\w.heap.size+1+1<wr.heap.size/\CV wr b1_1 (LN (smN q fs ps k))/\b1_1<wr.heap.size/\CV wr bf (flN fs)/\bf<wr.heap.size) (fun s15 _=>fs.length -(intOf s15).toNat)
 case atStart=>exact⟨0,by omega,rfl,HB2,(K2xf.cv 0),(K2xf.lt 0),(K2xf.cv 2),(K2xf.lt 2),(K2xf.cv 3),(K2xf.lt 3),(K2xf.cv 4),(K2xf.lt 4)⟩
 case round=>
  obtain⟨k,hk,rfl,HBr,C0,lC0,C1,lC1,C2,lC2,C3,lC3⟩:=hrel
  clear HB2
  have hnK:=K2xf.n
  simp at hnK
  have hoK3:=K2xf.lo 3
  by_cases hj:k<fs.length
  ·have hl:decide ((k:Int)<(fs.length:Int))=true:=by simp;omega
   have hjp:k<ps.length:=by rw[<-hfl.out];exact hj
   have hX:=hix.out _ hjp
   have hX:Hid _:=hX
   have hR:=hS.out.ptY _ hjp
   have hR:Hid _:=hR
   have iy:=hnp.out k hjp
   have ix:=hnf.out k hj
   have hf:=flN_in hj
   have iz:=smN_In (fs:=fs) (ps:=ps) hq hq0 k
   have hA:Hid (smN q fs ps (k+1)=(smN q fs ps k+(fs.getD k 0*(ps.getD k (0,0)).2)%q)%q):=rfl
   have hgb:=hg.resolve_left (by omega)
   have hkl:k<1000:=by omega
   obtain⟨y,ey⟩: ∃y,(ps.getD k (0,0)).2=y:=⟨_,rfl⟩
   rw[ey] at hR iy hA
   clear ey
   obtain⟨x,ex⟩: ∃x,fs.getD k 0=x:=⟨_,rfl⟩
   rw[ex] at ix hf hA
   clear ex
   obtain⟨z,ez⟩: ∃z,smN q fs ps k=z:=⟨_,rfl⟩
   rw[ez] at iz hA C2
   clear ez hjp
   have hf:Hid _:=hf
   have K2_1:Bk w.heap.size wr [(false,w.heap.size,BE q (.slice sx ns.length cx) (.slice sd ns.length cd)),(true,w.heap.size+1+1,L0s),(true,b1_1,LN z),(false,bf,flN fs)]:=⟨.c lC0 C0<| .o lC1 (K2xf.lo 2) C1<| .o lC2 (K2xf.lo 3) C2<| .c lC3 C3<|trivial,by simp<;>omega⟩
   go_upto_region 3 with fail
   refine rgP K2_1 HBr HBr.size [] [] [(0,16,.bool true)] [] [] [] ?_ ?_
   ·exact oc (g_bn (fun uZ=>Zc _ _ (k:Int) (fs.length:Int) _ uZ hl)) on
   intro u3 HB3 sz3 K3
   simp only[sQ] at K3⊢
   go_upto_region 4 with fail
   refine rgP K3 HB3 HB3.size [] [(3,9,L0s,some (5,LN x))] [(0,17,.int .i64 (k:Int)),(1,18,.pointer (some ⟨bf,4*k,none⟩)),(2,19,NV x),(4,8,.int .i64 (k:Int))] [(5,3)] [] [] ?_ ?_
   ·exact oc g_mv<|oc (g_ix (fun uZ=>ixZ _ _ _ k hj uZ))<|oc (g_lR 3 (4*k) (cs:=LN x) (hf.out) uN iN)<|oc (g_al 0 aN)<|oc g_as<|oc (g_sn 0 iN) on
   intro u4 b4_3 HB4 sz4 K4
   simp only[sQ] at K4⊢
   clear K3 HB3
   go_upto_region 5 with fail
   refine rgD K4 HB4 HB4.size [.no,.no,.all 16 (LN ((z+x*y%q)%q))] [] [(0,21,NV z),(1,22,.pointer (some ⟨w.heap.size,0,none⟩)),(2,23,NV q),(3,24,NV x),(4,25,.slice sl ps.length cap),(5,26,.int .i64 (k:Int)),(6,27,.pointer (some ⟨gb,go+8*k,none⟩)),(7,28,.pointer (some ⟨gb,go+8*k+4,none⟩)),(8,29,NV y),(9,30,NV (x*y%q)),(10,31,.pointer (some ⟨w.heap.size,0,none⟩)),(11,32,NV q),(12,33,.tuple #[NV ((z+x*y%q)%q),.int .i64 0]),(13,20,.tuple #[NV ((z+x*y%q)%q),.int .i64 0]),(14,34,NV ((z+x*y%q)%q)),(15,35,.int .i64 0)] [(16,0)] [] [true,true,true,true,false] ?_ ?_
   ·exact oc (g_ld 2 uN iN)<|oc (g_fd (fun uZ=>fdB0 _ uZ))<|oc (g_lo 0 0 uN iN)<|oc (g_ld 4 uN iN)<|oc g_mv<|oc g_mv<|oc (g_ix (fun uZ=>hX.out uZ))<|oc (g_fd (fun uZ=>fdP1 _ _ uZ))<|oc (g_lf hR.out hgb uN iN)<|oc (g_cl Zg (fun uZ=>pTimes q x y uZ ix iy hq hq0))<|oc (g_fd (fun uZ=>fdB0 _ uZ))<|oc (g_lo 0 0 uN iN)<|oc (g_cl Zv (fun uZ=>mAdd z (x*y%q) q uZ iz (Zd hq hq0) hq hq0))<|oc g_mv<|oc g_ex<|oc g_ex<|oc (g_st 2 iN) on
   intro u5 HB5 sz5 K5
   simp only[sQ] at K5⊢
   clear K4 HB4
   go_upto_region 6 with fail
   refine rgP K5 HB5 HB5.size [] [] [(0,36,.int .i64 ((k+1:Nat):Int)),(1,15,.int .i64 ((k+1:Nat):Int))] [(1,0)] [(1,15)] [] ?_ ?_
   ·exact oc (g_bn (fun uZ=>Yt _ _ (k:Int) 1 ((k+1:Nat):Int) uZ (by omega) (by omega) (by omega)))<|oc g_mv on
   intro u6 HB6 sz6 K6
   simp only[sQ] at K6⊢
   clear K5 HB5
   go_wp2
   refine⟨⟨k+1,by omega,rfl,HB6,(K6.cv 0),(K6.lt 0),(K6.cv 1),(K6.lt 1),by rw[hA.out];exact(K6.cv 2),(K6.lt 2),(K6.cv 3),(K6.lt 3)⟩,?_⟩
   simp[intOf]<;>omega
  ·have hl:decide ((k:Int)<(fs.length:Int))=false:=by simp;omega
   have hkn:k=fs.length:=by omega
   have K2_1:Bk w.heap.size wr [(false,w.heap.size,BE q (.slice sx ns.length cx) (.slice sd ns.length cd)),(true,w.heap.size+1+1,L0s),(true,b1_1,LN (smN q fs ps k)),(false,bf,flN fs)]:=⟨.c lC0 C0<| .o lC1 (K2xf.lo 2) C1<| .o lC2 (K2xf.lo 3) C2<| .c lC3 C3<|trivial,by simp<;>omega⟩
   go_upto_region 3 with fail
   refine rgP K2_1 HBr HBr.size [] [] [(0,16,.bool false)] [] [] [] ?_ ?_
   ·exact oc (g_bn (fun uZ=>Zc _ _ (k:Int) (fs.length:Int) _ uZ hl)) on
   intro u3 HB3 sz3 K3
   simp only[sQ] at K3⊢
   go_upto_region 7 with fail
   refine rgP K3 HB3 HB3.size [.no,.all 1 (LN (smN q fs ps k))] [] [(0,37,NV (smN q fs ps k))] [] [] [] ?_ ?_
   ·exact oc (g_ld 2 uN iN)<|oc (g_st 1 iN) on
   intro u4 HB4 sz4 K4
   simp only[sQ] at K4⊢
   clear K3 HB3
   have c6:=(K4.cv 1).n4
   go_wp2
   refine bodyPost_ret (v:=NV (smN q fs ps k)) (by simp[results,Tryz.results46,go_sem,c6]) rfl ⟨by rw[hkn],HB4⟩
end
section
open Go.RowKit Go.Extern.Stop Go.Stop Go.Extern
theorem wrap1(i n:Nat)(h:i<n)(hn:n<=1000000):IntKind.i64.wrap ((i:Int)+1)=((i+1:Nat):Int):=by rw[IntKind.wrap_i64];omega
end
section
open Go.RowKit
theorem geq_i(p q:Operand)(x y:Int)(b:Bool)(w:World)(h:decide (y<=x)=b):(do eqGuard .geq 3 p q (.int .i64 x) (.int .i64 y);binOp .geq 3 (.int .i64 x) (.int .i64 y):Sem Value).run Tryz.prog w= .ok (.bool b) w:=by
 subst h;go_simp
def INb(u:World)(b:Nat)(v:Value)(p:List Nat):Prop:= ∃(sl:Option Addr) (cap gb go:Nat),v= .slice sl p.length cap/\p.length<=cap/\(p.length=0\/sl=some ⟨gb,go,none⟩)/\gb<u.heap.size/\gb≠b/\SB u gb go p
theorem INb.inn{u:World}{b:Nat}{v:Value}{p:List Nat}(h:INb u b v p):IN u u.heap.size v p:=by
 obtain⟨sl,cap,gb,go,e,h1,h2,h3,_,h5⟩:=h
 exact⟨sl,cap,gb,go,e,h1,h2,h3,h5⟩
theorem INb.below{u u':World}{b:Nat}{v:Value}{p:List Nat}(h:INb u b v p)(hB:Bw u u'):INb u' b v p:=by
 obtain⟨sl,cap,gb,go,e,h1,h2,h3,h4,h5⟩:=h
 exact⟨sl,cap,gb,go,e,h1,h2,Nat.lt_of_lt_of_le h3 hB.size,h4,h5.below hB h3⟩
theorem IN.nb{u:World}{m b:Nat}{v:Value}{p:List Nat}(h:IN u m v p)(hm:m<=b)(hs:m<=u.heap.size):INb u b v p:=by
 obtain⟨sl,cap,gb,go,e,h1,h2,h3,h5⟩:=h
 exact⟨sl,cap,gb,go,e,h1,h2,by omega,by omega,h5⟩
theorem INb.put{u:World}{b:Nat}{v:Value}{p:List Nat}(h:INb u b v p)(o:Nat)(ws:List Value):INb (u.setCells b o ws) b v p:=by
 obtain⟨sl,cap,gb,go,e,h1,h2,h3,h4,h5⟩:=h
 refine⟨sl,cap,gb,go,e,h1,h2,by rw[Z1];exact h3,h4,fun j hj=>?_⟩
 have hk:=World.heap_setCells_other u b o ws h3 h4
 rw[World.cell?_of_block (a:=⟨gb,go+j,none⟩) hk];exact h5 j hj
theorem CV.oth{u:World}{b b' o:Nat}{l ws:List Value}(h:CV u b l)(hne:b≠b')(hb:b<u.heap.size):CV (u.setCells b' o ws) b l:=fun j v hj=>by
 have hk:=World.heap_setCells_other u b' o ws hb hne
 rw[World.cell?_of_block (a:=⟨b,j,none⟩) hk,World.frozen?_of_block (a:=⟨b,j,none⟩) hk]
 exact h j v hj
theorem CV.all{u:World}{b:Nat}{ys ds:List Value}(h:CV u b ys)(hl:ys.length=ds.length):CV (u.setCells b 0 ds) b ds:=by
 have h2:CV u b ([]++ys++[]):=by simpa using h
 have:=h2.mid (o:=0) (news:=ds) rfl hl
 simpa using this
theorem c8:Tryz.prog.cellsOf 5=1:=by kernel_rfl
theorem Yd{P:Program}{w w':World}{ops:Array Oper}{rest:List Oper}{o:Oper}{a:Act}{Q:Exit->Act->World->Prop}(hgd:o.guard=none)(s x:Operand)(t:TypeId)(ho:o.op= .call {callee:= .builtin .append,args:=#[s,x],argTypes:=#[t,t]})(vs vx v:Value)(hs:a.eval s=vs)(hx:a.eval x=vx)(hr:(Builtin.append_ #[t,t] o.type #[vs,vx]).run P w= .ok v w')(h:wpList P ops Q rest (a.put o.dst v) w'):wpList P ops Q (o::rest) a w:=by
 refine wpList_plain hgd fun K hK=>?_
 unfold Oper.wp execOp
 simp only[ho,resolve,invoke,builtin,Sem.run_bind,Sem.run_pure,Result.andThen_ok,List.map_toArray,List.map_cons,List.map_nil,hs,hx,hr]
 exact hK _ _ h
end
section
open Go.RowKit Go.Extern.Stop Go.Stop Go.Extern
def pkE(xs:Nat->Value)(b:Nat->Bool):Nat->List Value
 | 0=>[]
 | i+1=>if b i then pkE xs b i++[xs i] else pkE xs b i
def PJ(l:List Value)(u:World)(y:Value):Prop:=(l=[]/\y= .nilIface)\/ ∃(J bo m co:Nat) (zs:List Value),y= .iface 99 (.pointer (some ⟨J,0,none⟩))/\J<u.heap.size/\bo<u.heap.size/\l.length=m/\0<m/\CV u J [.slice (some ⟨bo,0,none⟩) m co]/\CV u bo (l++zs)
theorem infoEr:(Tryz.prog.info? 63).map (fun i=>(i.zero,i.size,i.bytes))=some (some .nilIface,1,16):=by kernel_rfl
theorem mkEr(n:Nat)(hn:n<=1000000)(w:World):(Instr.makeSlice 98 (.int .i64 0) (.int .i64 (n:Int))).run Tryz.prog w= .ok (.slice (some ⟨w.heap.size,0,none⟩) 0 n) (w.alloc (.cells (List.replicate n Value.nilIface).toArray 63)):=by
 obtain⟨i,hi,hi2⟩:=Option.map_eq_some_iff.1 infoEr
 simp only[Prod.mk.injEq] at hi2
 obtain⟨hz,hs,hb⟩:=hi2
 have:=run_makeSlice (P:=Tryz.prog) w 98 63 i .nilIface Tryz.underlying98 hi hz .i64 .i64 0 n (by omega) (by omega) (by rw[hs];omega) (by rw[hb];omega) (by omega)
 rw[this,hs]
 simp only[Int.toNat_natCast,Nat.mul_one]
 congr 3
 apply Array.ext'
 simp[madeCells,Value.cells]
 apply List.ext_getElem
 ·simp
 ·intro j h1 h2;simp[Nat.mod_one]
theorem CV.blk{u u2:World}{b:Nat}{l:List Value}(h:CV u b l)(hk:u2.heap[b]?=u.heap[b]?):CV u2 b l:=fun j x hj=>by
 rw[World.cell?_of_block (a:=⟨b,j,none⟩) hk,World.frozen?_of_block (a:=⟨b,j,none⟩) hk];exact h j x hj
theorem bsEr1(T:TypeId)(x:Value)(w:World):(Instr.buildSlice 98 1 #[(0,.iface T x)]).run Tryz.prog w= .ok (.slice (some ⟨w.heap.size,0,none⟩) 1 1) (w.alloc (.cells #[.iface T x] 63)):=by kernel_rfl
theorem app_er{u:World}{bo m co:Nat}{vs zs:List Value}{T:TypeId}{x:Value}{ty:TypeId}(hc:CV u bo (vs++zs))(hb:bo<u.heap.size)(hvl:vs.length=m)(hmc:m<=co)(hz:zs.length=co -m)(hl:m<=1000000):
 ∃v u',(Builtin.append_ #[98,98] ty #[.slice (some ⟨bo,0,none⟩) m co,.slice (some ⟨u.heap.size,0,none⟩) 1 1]).run Tryz.prog (u.alloc (.cells #[.iface T x] 63))= .ok v u'/\(u.alloc (.cells #[.iface T x] 63)).grownBy u' (some bo)/\PH (u.alloc (.cells #[.iface T x] 63)).heap.size bo 1 (m+1) (vs++[.iface T x]) u' v:=by
 obtain⟨ti,hti,htm⟩:=Option.map_eq_some_iff.1 infoEr
 simp only[Prod.mk.injEq] at htm
 obtain⟨hzv,hsz,hby⟩:=htm
 have hss:u.heap.size<=(u.alloc (.cells #[.iface T x] 63)).heap.size:=by simp
 obtain⟨v',u',hr,hg,hp⟩:=run_app (P:=Tryz.prog) (u.alloc (.cells #[.iface T x] 63)) (ty:=ty) Tryz.underlying98 hti hzv (by rw[hsz];rfl) (base:=(u.alloc (.cells #[.iface T x] 63)).heap.size) (n:=m) (cap:=co) (m:=1) (news:=[.iface T x]) (y:= .slice (some ⟨u.heap.size,0,none⟩) 1 1) (hc.below (Z0 (Z2 u) _) hb) (Nat.lt_of_lt_of_le hb hss) (by rw[hsz];omega) (by rw[hsz];omega) hmc (Nat.le_refl _) ⟨_,1,rfl,.inr ⟨_,rfl,fun j v hj=>by rw[Addr.add0];exact(CV.new u [.iface T x] 63 j v hj).1⟩⟩ (by rw[hsz];rfl) (fun v hv=>by simp at hv;subst hv;rfl) (by rw[hby];omega) (by omega)
 rw[hsz] at hp
 exact⟨v',u',hr,hg,hp⟩
theorem join_core(n gcap:Nat)(gsl:Option Addr)(xs:Nat->Value)(b:Nat->Bool)(w:World)(hn:n<=1000000)(hrow:Hid (0<n-> ∃g o,gsl=some ⟨g,o,none⟩/\g<w.heap.size/\ ∀i,i<n->w.cell? ⟨g,o+i,none⟩=some (xs i)))(hb:Hid (∀i,i<n->b i=false/\xs i= .nilIface\/b i=true/\ ∃T x,xs i= .iface T x))(hpl:Hid (∀i,(pkE xs b i).length<=i)):
 Calls Tryz.prog 33 #[.slice gsl n gcap] w fun r u'=> ∃y,r= .returned y/\PJ (pkE xs b n) u' y/\Bw w u':=by
 go_enter Tryz.func33,Tryz.ntmps33
 go_wp2_with fail
 go_loopw [11,3] (fun s11 s3 wr=> ∃i:Nat,i<=n/\s11= .int .i64 (i:Int)/\s3= .int .i64 (((pkE xs b i).length:Nat):Int)/\Bw w wr) (fun s11 _ _=>n -(intOf s11).toNat)
 case atStart=>exact⟨0,by omega,rfl,rfl,Below.refl _ _⟩
 case round=>
  obtain⟨i,hi,rfl,rfl,HBr⟩:=hrel
  by_cases hj:i<n
  ·have hl2:(i:Int)<(n:Int):=by omega
   obtain⟨g,o,rfl,hg,hcl⟩:=hrow.out (by omega)
   have hc:wr.cell? ⟨g,o+i,none⟩=some (xs i):=(HBr.cell (p:=⟨g,o+i,none⟩) hg).trans (hcl i hj)
   have hP:=hpl.out i
   have e1:IntKind.i64.wrap ((i:Int)+1)=((i+1:Nat):Int):=wrap1 i n hj hn
   rcases hb.out i hj with⟨b1,b2⟩ | ⟨b1,T,x,b2⟩
   ·rw[b2] at hc
    have e2:pkE xs b (i+1)=pkE xs b i:=by rw[pkE,b1];rfl
    obtain⟨q,eq⟩: ∃q,(pkE xs b i).length=q:=⟨_,rfl⟩
    rw[eq]
    clear hcl
    go_wp2
    refine⟨⟨i+1,by omega,by simp,by rw[e2,eq],HBr⟩,?_⟩
    simp[intOf];omega
   ·rw[b2] at hc
    have e2:pkE xs b (i+1)=pkE xs b i++[xs i]:=by rw[pkE,b1];rfl
    obtain⟨q,eq⟩: ∃q,(pkE xs b i).length=q:=⟨_,rfl⟩
    have e3:IntKind.i64.wrap ((q:Int)+1)=((q+1:Nat):Int):=by rw[IntKind.wrap_i64];omega
    rw[eq]
    clear hcl
    go_wp2
    refine⟨⟨i+1,by omega,by simp,by rw[e2,List.length_append,eq];simp,HBr⟩,?_⟩
    simp[intOf];omega
  ·have hl2: ¬(i:Int)<(n:Int):=by omega
   have hin:i=n:=by omega
   subst hin
   obtain⟨m,em⟩: ∃m,(pkE xs b i).length=m:=⟨_,rfl⟩
   rw[em]
   by_cases hm:m=0
   ·subst hm
    go_wp2
    exact bodyPost_ret (v:= .nilIface) (by simp[results,Tryz.results33,go_sem]) rfl ⟨_,rfl,.inl ⟨List.eq_nil_of_length_eq_zero em,rfl⟩,HBr⟩
   ·have hm2: ¬(m:Int)=0:=by omega
    have hmk:=mkEr m (by have:=hpl.out i;omega)
    have hbe:=bsEr1
    obtain⟨wo,rfl⟩: ∃x,x=wr:=⟨_,rfl⟩
    have hK1:CV ((wo.alloc (.cells (List.replicate m Value.nilIface).toArray 63)).alloc (.cells [Value.slice (some ⟨wo.heap.size,0,none⟩) 0 m].toArray 101)) (wo.heap.size+1) [.slice (some ⟨wo.heap.size,0,none⟩) 0 m]:=CV.newAt _ _ _ _ (by simp)
    have hK2:CV ((wo.alloc (.cells (List.replicate m Value.nilIface).toArray 63)).alloc (.cells [Value.slice (some ⟨wo.heap.size,0,none⟩) 0 m].toArray 101)) wo.heap.size (List.replicate m Value.nilIface):=(CV.new wo _ _).below (Z0 (Z2 _) _) (by simp)
    have hBn:Bw w ((wo.alloc (.cells (List.replicate m Value.nilIface).toArray 63)).alloc (.cells [Value.slice (some ⟨wo.heap.size,0,none⟩) 0 m].toArray 101)):=Z0 (Z0 HBr _) _
    have hso:=HBr.size
    simp only[List.toArray_replicate] at hK1 hK2 hBn
    have hK1:Hid _:=hK1
    have hK2:Hid _:=hK2
    go_wp2_with fail
    go_loopw [28] (fun s28 wx=> ∃(j bo co:Nat) (zs:List Value),j<=i/\s28= .int .i64 (j:Int)/\Hid (CV wx (wo.heap.size+1) [.slice (some ⟨bo,0,none⟩) (pkE xs b j).length co])/\(pkE xs b j).length<=co/\zs.length=co -(pkE xs b j).length/\w.heap.size<=bo/\bo<wx.heap.size/\bo≠wo.heap.size+1/\wo.heap.size+1<wx.heap.size/\Hid (CV wx bo (pkE xs b j++zs))/\Bw w wx) (fun s28 _=>i -(intOf s28).toNat)
    case atStart=>exact⟨0,wo.heap.size,m,List.replicate m .nilIface,by omega,rfl,hK1.out,Nat.zero_le _,by simp[pkE],by omega,by (simp<;>omega),by omega,by (simp<;>omega),hK2.out,hBn⟩
    case round=>
     obtain⟨j,bo,co,zs,hji,rfl,CJ,hmc,hzl,hlo,hlt,hne,hJ,CB,HBx⟩:=hrel
     clear hK1 hK2 hBn
     obtain⟨q,eq⟩: ∃q,(pkE xs b j).length=q:=⟨_,rfl⟩
     rw[eq] at CJ hmc hzl
     by_cases hj:j<i
     ·have hl3:(j:Int)<(i:Int):=by omega
      obtain⟨g,o,rfl,hg,hcl⟩:=hrow.out (by omega)
      have hc:wr.cell? ⟨g,o+j,none⟩=some (xs j):=(HBx.cell (p:=⟨g,o+j,none⟩) hg).trans (hcl j hj)
      have hP:=hpl.out j
      have e1:IntKind.i64.wrap ((j:Int)+1)=((j+1:Nat):Int):=wrap1 j i hj hn
      rcases hb.out j hj with⟨b1,b2⟩ | ⟨b1,T,x,b2⟩
      ·rw[b2] at hc
       have e2:pkE xs b (j+1)=pkE xs b j:=by rw[pkE,b1];rfl
       clear hcl
       go_wp2
       refine⟨⟨j+1,bo,co,zs,by omega,by simp,by rw[e2,eq];exact CJ,by rw[e2,eq];exact hmc,by rw[e2,eq];exact hzl,hlo,hlt,hne,hJ,by rw[e2];exact CB,HBx⟩,?_⟩
       simp[intOf];omega
      ·rw[b2] at hc
       have e2:pkE xs b (j+1)=pkE xs b j++[.iface T x]:=by rw[pkE,b1,b2];rfl
       obtain⟨v2,ub,r2,rg2,b5,c5,z5,rfl,f1,f2,f3,f4,f5⟩:=app_er (ty:=98) (T:=T) (x:=x) CB.out hlt eq hmc hzl (by omega)
       have hJc:=(CJ.out 0 _ rfl).1
       have hBa:Bw w (wr.alloc (.cells #[.iface T x] 63)):=Z0 HBx _
       have hBb:Bw w ub:=hBa.grown rg2 hBa.size (fun k e=>by cases e;exact hlo)
       have hsa:wr.heap.size<=(wr.alloc (.cells #[.iface T x] 63)).heap.size:=by simp
       have CJ2:CV ub (wo.heap.size+1) [.slice (some ⟨bo,0,none⟩) q co]:=(CJ.out.below (Z0 (Z2 wr) (.cells #[.iface T x] 63)) hJ).blk (rg2.block _ (Nat.lt_of_lt_of_le hJ hsa) (fun e=>hne (by cases e;rfl)))
       have hJd:=(CJ2 0 _ rfl).1
       have hJf:=(CJ2 0 _ rfl).2
       have hsu:=rg2.size
       have hb5:w.heap.size<=b5:=by have:=hBa.size;rcases f1 with h | h<;>omega
       have hn5:b5≠wo.heap.size+1:=by rcases f1 with h | h<;>omega
       rw[Nat.mul_one] at f4
       have CJ3:Hid (CV (ub.setCell ⟨wo.heap.size+1,0,none⟩ (.slice (some ⟨b5,0,none⟩) (q+1) c5)) (wo.heap.size+1) [.slice (some ⟨b5,0,none⟩) (q+1) c5]):=CJ2.setC 0 (by simp) _
       have CB3:Hid (CV (ub.setCell ⟨wo.heap.size+1,0,none⟩ (.slice (some ⟨b5,0,none⟩) (q+1) c5)) b5 ((pkE xs b j++[.iface T x])++z5)):=f5.blk (Below.heap_setCell ub ⟨wo.heap.size+1,0,none⟩ _ b5 hn5)
       have hBc:Bw w (ub.setCell ⟨wo.heap.size+1,0,none⟩ (.slice (some ⟨b5,0,none⟩) (q+1) c5)):=hBb.setCell (by show w.heap.size<=wo.heap.size+1;omega) _
       clear hcl CJ2 f5 rg2
       go_wp2_with (at_builtin;refine Yd rfl _ _ 98 rfl _ _ _ rfl rfl r2 ?_;clear r2)
       refine⟨⟨j+1,b5,c5,z5,by omega,by simp,by rw[e2,List.length_append,eq];exact CJ3,by rw[e2,List.length_append,eq];exact f3,by rw[e2,List.length_append,eq];exact f4,hb5,by simpa using f2,hn5,by simp;omega,by rw[e2];exact CB3,hBc⟩,?_⟩
       simp[intOf];omega
     ·have hl3: ¬(j:Int)<(i:Int):=by omega
      have hin:j=i:=by omega
      subst hin
      go_wp2
      refine bodyPost_ret (v:= .iface 99 (.pointer (some ⟨wo.heap.size+1,0,none⟩))) (by simp[results,Tryz.results33,go_sem]) rfl ⟨_,rfl,.inr ⟨wo.heap.size+1,bo,m,co,zs,rfl,hJ,hlt,em,by omega,?_,CB.out⟩,HBx⟩
      rw[<-em,eq];exact CJ.out
end
end Go.Proofs.YtgieoghechekpaaGreatDoor
