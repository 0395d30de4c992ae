import Derived.Test.YtbbohmgjphpfeaaGreatDoorMQ
import Derived.Stop.Asserts
namespace Go.Proofs.YtbbohmgjphpfeaaGreatDoor
set_option linter.unusedVariables false
set_option linter.unusedSimpArgs false
set_option maxRecDepth 100000
set_option maxHeartbeats 4000000
section
open Go.RowKit
def hoN (q x:Int) (ns:List Int):Nat->Int
 | 0=>0
 | i+1=>((hoN q x ns i*x)%q+ns.getD (ns.length -1 -i) 0)%q
theorem hoN_In {q x:Int} {ns:List Int} (hq:In q) (hq0:q≠0): ∀i,In (hoN q x ns i)
 | 0=>In_0
 | i+1=>Zq hq hq0
def dsN (q:Int) (ns:List Int) (i:Nat):Nat->Int
 | 0=>1
 | j+1=>if j=i then dsN q ns i j else (dsN q ns i j*((ns.getD i 0 -ns.getD j 0)%q))%q
theorem pValue_core (q x:Int) (sl:Option Addr) (gb go cap:Nat) (ns:List Int) (w:World) (hq:In q) (hq0:q≠0) (hx:In x) (hix:Hid (∀j,j<ns.length-> ∀W,(Instr.indexAt 27 (.slice sl ns.length cap) (.int .i64 j)).run Tryz.prog W= .ok (.pointer (some ⟨gb,go+4*j,none⟩)) W)) (hg:ns.length=0\/gb<w.heap.size) (hS:Hid (SN w gb go ns)) (hn:Hid (∀k,k<ns.length->In (ns.getD k 0))) (hns:ns.length<=1000):
 CC 69 #[NV q,.slice sl ns.length cap,NV x] w (NV (hoN q x ns ns.length)):=by
 go_enter Tryz.func69,Tryz.ntmps69
 go_upto_region 1 with fail
 obtain⟨v0,hC,HB0,K0⟩:=bx3 w (LN q) 24 (LN x) 24 L0s 24
 rw[hC]
 clear hC
 apply Rp K0 HB0 [] [(1,7,L0s,some (2,[.int .u64 (0),.int .u64 (0),.int .u64 (0),.int .u64 (0)]))] [(0,9,_)] [(2,1)] [] []
 ·exact oc (g_bd zN)<|oc (g_al 0 aN)<|oc (g_sn 0 iN) on
 intro u1 b1_1 HB1 sz1 K1
 simp only[sQ] at K1⊢
 clear K0 HB0
 go_upto_region 2 with fail
 apply Rn K1 HB1 [(0,10,_),(1,11,_),(2,12,_)]
 ·exact oc g_mv<|oc (g_ln Tryz.underlying27)<|oc g_mv on
 intro u2 HB2 sz2 K2
 simp only[sQ] at K2⊢
 clear K1 HB1
 go_wp2_with fail
 go_loopw [12] (fun s12 wr=> ∃(k:Nat),k<=ns.length/\s12= .int .i64 (k:Int)/\Bw w wr/\CV wr (w.heap.size) (LN q)/\w.heap.size<wr.heap.size/\CV wr (w.heap.size+1) (LN x)/\w.heap.size+1<wr.heap.size/\CV wr (w.heap.size+1+1) (L0s)/\w.heap.size+1+1<wr.heap.size/\CV wr (b1_1) (LN (hoN q x ns k))/\b1_1<wr.heap.size) (fun s12 _=>ns.length -(intOf s12).toNat)
 case atStart=>exact⟨0,by omega,rfl,HB2,(K2.cv 0),(K2.lt 0),(K2.cv 1),(K2.lt 1),(K2.cv 2),(K2.lt 2),(K2.cv 3),(K2.lt 3)⟩
 case round=>
  obtain⟨k,hk,rfl,HBr,C0,l0,C1,l1,C2,l2,C3,l3⟩:=hrel
  clear HB2
  have hnK:=K2.n
  simp at hnK
  have hoK3:=K2.lo 3
  by_cases hj:k<ns.length
  ·have hl:decide ((k:Int)<(ns.length:Int))=true:=by simp;omega
   have ik:In (hoN q x ns k):=hoN_In hq hq0 k
   have hjn:ns.length -1 -k<ns.length:=by omega
   have iy:=hn.out _ hjn
   have hX:=hix.out _ hjn
   have hX:Hid _:=hX
   have hR:=hS.out.at _ hjn
   have hR:Hid _:=hR
   have hn2:Hid (hoN q x ns (k+1)=(hoN q x ns k*x%q+ns.getD (ns.length -1 -k) 0)%q):=rfl
   obtain⟨y,ey⟩: ∃y,ns.getD (ns.length -1 -k) 0=y:=⟨_,rfl⟩
   obtain⟨z,ez⟩: ∃z,hoN q x ns k=z:=⟨_,rfl⟩
   rw[ey] at iy hR hn2
   rw[ez] at ik C3 hn2
   clear ey ez
   obtain⟨j,ej⟩: ∃j,ns.length -1 -k=j:=⟨_,rfl⟩
   rw[ej] at hX hR hjn
   have hjk:(ns.length:Int) -1 -k=(j:Int):=by omega
   have EJ:Hid _:=ej
   have HJ:Hid _:=hjk
   clear ej hjk
   have K2_1:Bk w.heap.size wr [(false,w.heap.size,LN q),(false,w.heap.size+1,LN x),(true,w.heap.size+1+1,L0s),(true,b1_1,LN z)]:=⟨.c l0 C0<| .c l1 C1<| .o l2 (K2.lo 2) C2<| .o l3 (K2.lo 3) C3<|trivial,by simp<;>omega⟩
   go_upto_region 3 with fail
   apply Rn K2_1 HBr [(0,13,_)]
   ·exact oc (g_bn (fun uZ=>Zw _ _ (k:Int) (ns.length:Int) _ uZ hl)) on
   intro u3 HB3 sz3 K3
   simp only[sQ] at K3⊢
   go_upto_region 4 with fail
   apply Rn K3 HB3 [(0,14,_),(1,8,_)]
   ·exact oc g_mv<|oc g_as on
   intro u4 HB4 sz4 K4
   simp only[sQ] at K4⊢
   clear K3 HB3
   go_upto_region 5 with fail
   apply Rp K4 HB4 [.no,.no,.no,.all 7 (LN (z*x%q))] [] [(0,16,_),(1,17,_),(2,18,_),(3,19,_),(4,15,_),(5,20,_),(6,21,_)] [(7,0)] [] []
   ·exact oc (g_ld 3 uN iN)<|oc (g_ld 1 uN iN)<|oc (g_ld 0 uN iN)<|oc (g_cl ent_mod_Mul (fun uZ=>mMul z x q uZ ik hx hq hq0))<|oc g_mv<|oc g_ex<|oc g_ex<|oc (g_st 3 iN) on
   intro u5 HB5 sz5 K5
   simp only[sQ] at K5⊢
   clear K4 HB4
   go_upto_region 6 with fail
   apply Rd K5 HB5 [.no,.no,.no,.all 14 (LN ((z*x%q+y)%q))] [] [(0,23,_),(1,24,_),(2,25,_),(3,26,_),(4,27,_),(5,28,_),(6,29,_),(7,30,_),(8,31,_),(9,32,_),(10,33,_),(11,22,_),(12,34,_),(13,35,_)] [(14,0)] [] []
   ·exact oc (g_ld 3 uN iN)<|oc g_mv<|oc g_mv<|oc (g_ln Tryz.underlying27)<|oc (g_bn (fun uZ=>We _ _ (ns.length:Int) 1 _ uZ rfl (by omega) (by omega)))<|oc g_mv<|oc (g_bn (fun uZ=>We _ _ ((ns.length:Int) -1) (k:Int) _ uZ HJ.out (by omega) (by omega)))<|oc (g_ix hX.out)<|oc (g_lf hR.out (hg.resolve_left (by omega)) uN iN)<|oc (g_ld 0 uN iN)<|oc (g_cl ent_mod_Add (fun uZ=>mAdd (z*x%q) y q uZ (Zq hq hq0) iy hq hq0))<|oc g_mv<|oc g_ex<|oc g_ex<|oc (g_st 3 iN) on
   intro u6 HB6 sz6 K6
   simp only[sQ] at K6⊢
   clear K5 HB5
   go_upto_region 7 with fail
   apply Rp K6 HB6 [] [] [(0,36,_),(1,12,_)] [(1,0)] [(1,12)] []
   ·exact oc (g_bn (fun uZ=>Yq _ _ (k:Int) 1 ((k+1:Nat):Int) uZ (by omega) (by omega) (by omega)))<|oc g_mv on
   intro u7 HB7 sz7 K7
   simp only[sQ] at K7⊢
   clear K6 HB6
   go_wp2
   refine⟨⟨k+1,by omega,rfl,HB7,(K7.cv 0),(K7.lt 0),(K7.cv 1),(K7.lt 1),(K7.cv 2),(K7.lt 2),by rw[hn2.out];exact(K7.cv 3),(K7.lt 3)⟩,?_⟩
   simp[intOf]<;>omega
  ·have hl:decide ((k:Int)<(ns.length:Int))=false:=by simp;omega
   have hkn:k=ns.length:=by omega
   have K2_1:Bk w.heap.size wr [(false,w.heap.size,LN q),(false,w.heap.size+1,LN x),(true,w.heap.size+1+1,L0s),(true,b1_1,LN (hoN q x ns k))]:=⟨.c l0 C0<| .c l1 C1<| .o l2 (K2.lo 2) C2<| .o l3 (K2.lo 3) C3<|trivial,by simp<;>omega⟩
   go_upto_region 3 with fail
   apply Rn K2_1 HBr [(0,13,_)]
   ·exact oc (g_bn (fun uZ=>Zw _ _ (k:Int) (ns.length:Int) _ uZ hl)) on
   intro u3 HB3 sz3 K3
   simp only[sQ] at K3⊢
   go_upto_region 8 with fail
   apply Rp K3 HB3 [.no,.no,.all 1 (LN (hoN q x ns k))] [] [(0,37,_)] [] [] []
   ·exact oc (g_ld 3 uN iN)<|oc (g_st 2 iN) on
   intro u4 HB4 sz4 K4
   simp only[sQ] at K4⊢
   clear K3 HB3
   have c6:=(K4.cv 2).n4
   go_wp2
   refine bodyPost_ret (v:=NV (hoN q x ns k)) (by simp[results,Tryz.results69,go_sem,c6]) rfl ⟨by rw[hkn],HB4⟩
end
section
section
section ring
variable {R:Type} [Lean.Grind.CommRing R]
def evPR:List R->R->R
 | [],_=>0
 | c::l,x=>c+x*evPR l x
end ring
end
end
section
open Go.RowKit
abbrev PtE (x y:Int):List Value:=[.int .u64 (D0 x),.int .u64 (D1 x),.int .u64 (D2 x),.int .u64 (D3 x),.int .u64 (D0 y),.int .u64 (D1 y),.int .u64 (D2 y),.int .u64 (D3 y)]
theorem lSN {b c n cap:Nat} {sl:Option Addr} (w:World) (h:w.cell? ⟨b,c,none⟩=some (.slice sl n cap)):(Instr.loadAt 27 (.pointer (some ⟨b,c,none⟩))).run Tryz.prog w= .ok (.slice sl n cap) w:=by go_simp
theorem ixZ (g n cap j:Nat) (h:j<n) (w:World):(Instr.indexAt 27 (.slice (some ⟨g,0,none⟩) n cap) (.int .i64 j)).run Tryz.prog w= .ok (.pointer (some ⟨g,4*j,none⟩)) w:=by
 have:=ixS g 0 n cap j h w
 rwa [Nat.zero_add] at this
theorem ixP (g o n cap j:Nat) (h:j<n) (w:World):(Instr.indexAt 73 (.slice (some ⟨g,o,none⟩) n cap) (.int .i64 j)).run Tryz.prog w= .ok (.pointer (some ⟨g,o+8*j,none⟩)) w:=by
 have hj:(j:Int)<n:=by omega
 go_simp
 all_goals first | omega | (simp[Addr.add];omega) | simp[Addr.add,Nat.mul_comm]
def rowN (vs:List Int) (k:Nat):List Int:=vs.take k++List.replicate (vs.length -k) 0
theorem rowN_0 (vs:List Int):rowN vs 0=List.replicate vs.length 0:=by simp[rowN]
theorem rowN_end (vs:List Int):rowN vs vs.length=vs:=by simp[rowN]
theorem rowN_split {vs:List Int} {k:Nat} (h:k<vs.length):flN (rowN vs k)=flN (vs.take k)++LN 0++flN (List.replicate (vs.length -(k+1)) 0):=by
 rw[rowN,show vs.length -k=(vs.length -(k+1))+1 by omega,List.replicate_succ,flN_app,flN,List.append_assoc]
theorem rowN_next {vs:List Int} {k:Nat} (h:k<vs.length):flN (rowN vs (k+1))=flN (vs.take k)++LN (vs.getD k 0)++flN (List.replicate (vs.length -(k+1)) 0):=by
 rw[rowN,flN_app,List.take_add_one,List.getElem?_eq_getElem h,flN_app]
 simp[flN,List.getElem?_eq_getElem h]
theorem rowN_len {vs:List Int} {k:Nat} (h:k<vs.length):(flN (vs.take k)).length=4*k:=by
 rw[flN_len,List.length_take];omega
theorem infoNt:(Tryz.prog.info? 24).map (fun i=>(i.zero,i.size,i.bytes))=some (some (A4 0 0 0 0),4,32):=by kernel_rfl
theorem flN_zero: ∀n,flN (List.replicate n 0)=List.replicate (4*n) (.int .u64 0)
 | 0=>rfl
 | n+1=>by
  rw[List.replicate_succ,flN,flN_zero n,show 4*(n+1)=4*n+1+1+1+1 by omega,List.replicate_succ,List.replicate_succ,List.replicate_succ,List.replicate_succ]
  have h0:D0 0=0:=by simp[D0]
  have h1:D1 0=0:=by simp[D1]
  have h2:D2 0=0:=by simp[D2]
  have h3:D3 0=0:=by simp[D3]
  rw[LN,h0,h1,h2,h3];rfl
theorem mkNt (n:Nat) (hn:n<=1000) (w:World):(Instr.makeSlice 27 (.int .i64 (n:Int)) (.int .i64 (n:Int))).run Tryz.prog w= .ok (.slice (some ⟨w.heap.size,0,none⟩) n n) (w.alloc (.cells (flN (List.replicate n 0)).toArray 24)):=by
 obtain⟨i,hi,hi2⟩:=Option.map_eq_some_iff.1 infoNt
 simp only[Prod.mk.injEq] at hi2
 obtain⟨hz,hs,hb⟩:=hi2
 have:=run_makeSlice (P:=Tryz.prog) w 27 24 i (A4 0 0 0 0) Tryz.underlying27 hi hz .i64 .i64 n n (by omega) (by omega) (by rw[hs];omega) (by rw[hb];omega) (by omega)
 rw[this,hs,flN_zero]
 simp only[Int.toNat_natCast]
 congr 3
 apply Array.ext'
 simp[madeCells,Value.cells,A4]
 apply List.ext_getElem
 ·simp;omega
 ·intro j h1 h2
  simp
  have:j%4<4:=Nat.mod_lt _ (by omega)
  generalize j%4=m at *
  match m,this with
  | 0,_=>rfl
  | 1,_=>rfl
  | 2,_=>rfl
  | 3,_=>rfl
def PRw (lo:Nat) (ns:List Int) (u:World) (v:Value):Prop:= ∃b,v= .slice (some ⟨b,0,none⟩) ns.length ns.length/\lo<=b/\b<u.heap.size/\CV u b (flN ns)
theorem PRw.stab {lo:Nat} {ns:List Int} {u u2:World} {x:Value} (hB:Bw u u2) (h:PRw lo ns u x):PRw lo ns u2 x:=by
 obtain⟨b,e,h1,h2,h3⟩:=h
 exact⟨b,e,h1,Nat.lt_of_lt_of_le h2 hB.size,h3.below hB h2⟩
theorem PRw.nl {lo:Nat} {ns:List Int} {u:World} {v:Value} (h:PRw lo ns u v):NL u v ns:=by
 obtain⟨b,e,h1,h2,h3⟩:=h
 exact⟨_,b,0,_,e,Nat.le_refl _,(by simp),.inr rfl,.inr h2,fun j v hj=>by rw[Nat.zero_add];exact(h3 j v hj).1⟩
def flt:List (Int×Int)->List Int
 | []=>[]
 | p::l=>p.1::p.2::flt l
theorem flt_len: ∀l,(flt l).length=2*l.length
 | []=>rfl
 | p::l=>by rw[flt,List.length_cons,List.length_cons,flt_len l,List.length_cons];omega
def PtL (u:World) (v:Value) (ps:List (Int×Int)):Prop:= ∃sl gb go cap,v= .slice sl ps.length cap/\ps.length<=cap/\(sl=none->cap=0)/\(ps=[]\/sl=some ⟨gb,go,none⟩)/\(ps.length=0\/gb<u.heap.size)/\SN u gb go (flt ps)
theorem PtL.up {w u:World} {v:Value} {ps:List (Int×Int)} (h:PtL w v ps) (hB:Bw w u):PtL u v ps:=by
 obtain⟨sl,gb,go,cap,h1,h2,h3,h4,h5,h6⟩:=h
 refine⟨sl,gb,go,cap,h1,h2,h3,h4,h5.imp id fun e=>Nat.lt_of_lt_of_le e hB.size,?_⟩
 rcases h5 with h5 | h5
 ·exact SN.empty (by rw[flt_len];omega)
 ·exact h6.below hB h5
def PRp (lo:Nat) (ps:List (Int×Int)) (u:World) (v:Value):Prop:= ∃b,v= .slice (some ⟨b,0,none⟩) ps.length ps.length/\lo<=b/\b<u.heap.size/\CV u b (flN (flt ps))
theorem PRp.stab {lo:Nat} {ps:List (Int×Int)} {u u2:World} {x:Value} (hB:Bw u u2) (h:PRp lo ps u x):PRp lo ps u2 x:=by
 obtain⟨b,e,h1,h2,h3⟩:=h
 exact⟨b,e,h1,Nat.lt_of_lt_of_le h2 hB.size,h3.below hB h2⟩
theorem PRp.pl {lo:Nat} {ps:List (Int×Int)} {u:World} {v:Value} (h:PRp lo ps u v):PtL u v ps:=by
 obtain⟨b,e,h1,h2,h3⟩:=h
 exact⟨_,b,0,_,e,Nat.le_refl _,(by simp),.inr rfl,.inr h2,fun j v hj=>by rw[Nat.zero_add];exact(h3 j v hj).1⟩
section
section
variable {R:Rg} {P:Program} {Q:Exit->Act->World->Prop} {ops:Array Oper} {i:Nat} {o:Oper} {a:Act} {u:World}
theorem wp_mS {K:Act->World->Prop} {T:TypeId} {x y:Operand} {vx vy v:Value} {w':World} (ho:o.op= .makeSlice T x y) (hx:a.eval x=vx) (hy:a.eval y=vy) (hr:(Instr.makeSlice T vx vy).run P u= .ok v w') (hk:K (a.put o.dst v) w'):o.wp P a u K Q:=
 Yn (by
  unfold execOp;rw[ho]
  show Sem.run P (do pure (Next.value (<-Instr.makeSlice T (a.eval x) (a.eval y)))) u=_
  rw[hx,hy,Sem.run_bind,hr,Result.andThen_ok,Sem.run_pure]) hk
theorem g_mS (n:Nat) (p:World->Value->Prop) (m:Nat) (cs:List Value) {T e:TypeId} {x y:Operand} {vx vy:Value} (hr: ∀w,(Instr.makeSlice T vx vy).run P w= .ok (.slice (some ⟨w.heap.size,0,none⟩) m m) (w.alloc (.cells cs.toArray e))) (hp: ∀u:World,R.base<=u.heap.size->p (u.alloc (.cells cs.toArray e)) (.slice (some ⟨u.heap.size,0,none⟩) m m)) (hop:o.op= .makeSlice T x y:=by rfl) (hx:evR R i o x=some vx:=by rfl) (hy:evR R i o y=some vy:=by rfl) (hn:(R.E[n]?).map (·.p)=some p:=by rfl) (hc:R.chkE ops n i o=true:=by rfl):OG R P ops Q i o:=fun f t u a X=>by
 obtain⟨d,q,hd,hq,_,_,_,_,_,_,_,_,hw⟩:=Zt hc
 exact X.go hw fun K hK=>wp_mS hop (X.ev hx) (X.ev hy) (hr u) (hK _ _ (X.putE hc (fun q hq=>by rw[hq] at hn;cases hn;exact hp u X.I.1.sz) (Z3 (Zp u) _)))
end
def PRz (lo n:Nat) (u:World) (v:Value):Prop:= ∃b,v= .slice (some ⟨b,0,none⟩) n n/\lo<=b/\b<u.heap.size/\CV u b (flN (List.replicate n 0))
theorem PRz.stab {lo n:Nat} {u u2:World} {x:Value} (hB:Bw u u2) (h:PRz lo n u x):PRz lo n u2 x:=by
 obtain⟨b,e,h1,h2,h3⟩:=h
 exact⟨b,e,h1,Nat.lt_of_lt_of_le h2 hB.size,h3.below hB h2⟩
theorem PRz.new {lo n:Nat} {T:TypeId} (u:World) (h:lo<=u.heap.size):PRz lo n (u.alloc (.cells (flN (List.replicate n 0)).toArray T)) (.slice (some ⟨u.heap.size,0,none⟩) n n):=
 ⟨_,rfl,h,by simp,CV.new u _ _⟩
def Invs (q:Int) (ns vs:List Int):Prop:=vs.length=ns.length/\ ∀i,i<ns.length->IsInv (dsN q ns i ns.length%q) q (vs.getD i 0)
end
def ahN (q t:Int) (ns:List Int):Nat->Int
 | 0=>1
 | i+1=>(ahN q t ns i*((t -ns.getD i 0)%q))%q
def bhN (q t:Int) (ns:List Int):Nat->Int
 | 0=>1
 | i+1=>(bhN q t ns i*((t -ns.getD (ns.length -1 -i) 0)%q))%q
theorem PRw.lo {a b:Nat} {ns:List Int} {u:World} {v:Value} (h:PRw b ns u v) (hab:a<=b):PRw a ns u v:=by
 obtain⟨x,e,h1,h2,h3⟩:=h
 exact⟨x,e,Nat.le_trans hab h1,h2,h3⟩
def smN (q:Int) (fs:List Int) (ps:List (Int×Int)):Nat->Int
 | 0=>0
 | k+1=>(smN q fs ps k+(fs.getD k 0*(ps.getD k (0,0)).2)%q)%q
end
section
open Go.RowKit Go.Extern.Stop Go.Stop Go.Extern
theorem wrap1 (i n:Nat) (h:i<n) (hn:n<=1000000):IntKind.i64.wrap ((i:Int)+1)=((i+1:Nat):Int):=by rw[IntKind.wrap_i64];omega
end
section
open Go.RowKit
theorem rotr_add (x n:Nat) (hx:x<4294967296) (hn:n<=32):x>>>n+(x<<<(32 -n))%4294967296=rotr x n:=by
 have e1:(x<<<(32 -n))%4294967296=(x%2^n)<<<(32 -n):=by
  rw[Nat.shiftLeft_eq,Nat.shiftLeft_eq]
  have e:(4294967296:Nat)=2^n*2^(32 -n):=by rw[<-Nat.pow_add,show n+(32 -n)=32 by omega]
  rw[e,Nat.mul_mod_mul_right]
 have e2:x>>>n<2^(32 -n):=by
  rw[Nat.shiftRight_eq_div_pow,Nat.div_lt_iff_lt_mul (Nat.two_pow_pos n),<-Nat.pow_add,show 32 -n+n=32 by omega]
  exact hx
 unfold rotr
 rw[e1,<-Nat.shiftLeft_add_eq_or_of_lt e2,Nat.add_comm]
theorem sub_xor {e:Nat} (h:e<4294967296):4294967295 -e=4294967295^^^e:=by
 have h1:=BitVec.toNat_not (x:=BitVec.ofNat 32 e)
 have h2:BitVec.allOnes 32^^^BitVec.ofNat 32 e= ~~~(BitVec.ofNat 32 e):=by ext i hi;simp only[BitVec.getElem_xor,BitVec.getElem_allOnes,BitVec.getElem_not,Bool.true_xor]
 have h3:=congrArg BitVec.toNat h2
 rw[BitVec.toNat_xor,h1,BitVec.toNat_allOnes,BitVec.toNat_ofNat,Nat.mod_eq_of_lt (show e<2^32 from h)] at h3
 exact h3.symm
theorem choice_is {e f g:Nat} (h:e<4294967296):(e&&&f)^^^((4294967295 -e)&&&g)=chN e f g:=by unfold chN;rw[sub_xor h]
def wd (bs:List Nat) (i:Nat):Nat:=bs.getD (4*i) 0*16777216+bs.getD (4*i+1) 0*65536+bs.getD (4*i+2) 0*256+bs.getD (4*i+3) 0
theorem spA_keep (bs:List Nat) (i k:Nat) (h: ¬k/4=i):(spA bs (k+1)).getD i 0=(spA bs k).getD i 0:=by
 rw[spA,Yv,if_neg (fun h'=>h h'.1)]
theorem spA_new (bs:List Nat) (i k:Nat) (hb: ∀j,bs.getD j 0<256) (h:k/4=i) (hi:i<64):(spA bs (k+1)).getD i 0=((spA bs k).getD i 0<<<8)%4294967296 ||| bs.getD k 0:=by
 rw[spA,Yv,if_pos ⟨h,by rw[(spA_W bs hb k).len];exact hi⟩,h]
theorem spA_zero (bs:List Nat) (i:Nat): ∀k,k<=4*i->(spA bs k).getD i 0=0
 | 0,_=>by
  show z64.getD i 0=0
  unfold z64;rw[List.getD_eq_getElem?_getD,List.getElem?_replicate];split<;>rfl
 | k+1,h=>by rw[spA_keep bs i k (by omega)];exact spA_zero bs i k (by omega)
theorem spA_after (bs:List Nat) (i:Nat): ∀d,(spA bs (4*i+4+d)).getD i 0=(spA bs (4*i+4)).getD i 0
 | 0=>rfl
 | d+1=>by rw[show 4*i+4+(d+1)=(4*i+4+d)+1 by omega,spA_keep bs i _ (by omega)];exact spA_after bs i d
theorem shl_or (x b:Nat) (hx:x<16777216) (hb:b<256):(x<<<8)%4294967296 ||| b=x*256+b:=by
 rw[Nat.mod_eq_of_lt (by rw[Nat.shiftLeft_eq];omega),<-Nat.shiftLeft_add_eq_or_of_lt (show b<2^8 from hb),Nat.shiftLeft_eq]
theorem spA_wd (bs:List Nat) (i:Nat) (hb: ∀j,bs.getD j 0<256) (hi:i<16):(spA bs 64).getD i 0=wd bs i:=by
 have e:=spA_after bs i (60 -4*i)
 rw[show 4*i+4+(60 -4*i)=64 by omega] at e
 have h0:=spA_zero bs i (4*i) (Nat.le_refl _)
 have h1:=spA_new bs i (4*i) hb (by omega) (by omega)
 have h2:=spA_new bs i (4*i+1) hb (by omega) (by omega)
 have h3:=spA_new bs i (4*i+2) hb (by omega) (by omega)
 have h4:=spA_new bs i (4*i+3) hb (by omega) (by omega)
 have b0:=hb (4*i)
 have b1:=hb (4*i+1)
 have b2:=hb (4*i+2)
 have b3:=hb (4*i+3)
 unfold wd
 rw[h0,shl_or 0 _ (by omega) b0] at h1
 rw[h1,shl_or _ _ (by omega) b1] at h2
 rw[h2,shl_or _ _ (by omega) b2] at h3
 rw[h3,shl_or _ _ (by omega) b3] at h4
 rw[e,h4]
 omega
theorem spB_keep (ws:List Nat) (k j:Nat) (h:j<k+16): ∀d,(spB ws (k+d)).getD j 0=(spB ws k).getD j 0
 | 0=>rfl
 | d+1=>by rw[show k+(d+1)=(k+d)+1 by omega,spB,Yv,if_neg (by omega),spB_keep ws k j h d]
theorem spread_wd (bs:List Nat) (i:Nat) (hb: ∀j,bs.getD j 0<256) (hi:i<16):(Vm bs).getD i 0=wd bs i:=by
 have:=spB_keep (spA bs 64) 0 i (by omega) 48
 rw[Nat.zero_add] at this
 unfold Vm
 rw[this];exact spA_wd bs i hb hi
theorem spread_sp (bs:List Nat) (t:Nat) (hb: ∀j,bs.getD j 0<256) (h1:16<=t) (h2:t<64):(Vm bs).getD t 0=spS (Vm bs) t:=by
 have hW:=spA_W bs hb 64
 unfold Vm
 obtain⟨ws,ews⟩: ∃ws,spA bs 64=ws:=⟨_,rfl⟩
 rw[ews] at hW⊢
 obtain⟨k,rfl⟩: ∃k,t=k+16:=⟨t -16,by omega⟩
 have e1:=spB_keep ws (k+1) (k+16) (by omega) (47 -k)
 rw[show k+1+(47 -k)=48 by omega] at e1
 have hk: ∀j,j<k+16->(spB ws 48).getD j 0=(spB ws k).getD j 0:=fun j hj=>by
  have:=spB_keep ws k j hj (48 -k)
  rwa [show k+(48 -k)=48 by omega] at this
 rw[e1,spB,Yv,if_pos ⟨rfl,by rw[(spB_W hW k).len];exact h2⟩]
 unfold spS
 rw[hk (k+16 -2) (by omega),hk (k+16 -7) (by omega),hk (k+16 -15) (by omega),hk (k+16 -16) (by omega)]
theorem mod4 (a b c d:Nat):(a+b+c+d)%4294967296=(((a+b)%4294967296+c)%4294967296+d)%4294967296:=by omega
theorem mod5 (a b c d e:Nat):(a+b+c+d+e)%4294967296=((((a+b)%4294967296+c)%4294967296+d)%4294967296+e)%4294967296:=by omega
def sms0 (ss vs:List Nat):Nat->List Nat
 | 0=>z8
 | i+1=>(sms0 ss vs i).set i ((vs.getD i 0+ss.getD i 0)%4294967296)
theorem z8_W:WW 8 z8:=⟨rfl,fun j=>by
 unfold z8;rw[List.getD_eq_getElem?_getD,List.getElem?_replicate];split<;>decide⟩
theorem sms0_W (ss vs:List Nat): ∀i,WW 8 (sms0 ss vs i)
 | 0=>z8_W
 | i+1=>(sms0_W ss vs i).set _ _ (Nat.mod_lt _ (by decide))
theorem sms0_get (ss vs:List Nat) (j:Nat) (hj:j<8): ∀i,(sms0 ss vs i).getD j 0=if j<i then (vs.getD j 0+ss.getD j 0)%4294967296 else 0
 | 0=>by
  show z8.getD j 0=_
  rw[if_neg (by omega)]
  unfold z8;rw[List.getD_eq_getElem?_getD,List.getElem?_replicate];split<;>rfl
 | i+1=>by
  rw[sms0,Yv,(sms0_W ss vs i).len]
  by_cases h:i=j
  ·subst h;rw[if_pos ⟨rfl,hj⟩,if_pos (by omega)]
  ·rw[if_neg (fun h'=>h h'.1),sms0_get ss vs j hj i]
   by_cases h2:j<i
   ·rw[if_pos h2,if_pos (by omega)]
   ·rw[if_neg h2,if_neg (by omega)]
theorem sms_get {ss:List Nat} (hs:WW 8 ss) (vs:List Nat) (j:Nat) (hj:j<8): ∀i,(sms ss vs i).getD j 0=if j<i then (ss.getD j 0+vs.getD j 0)%4294967296 else ss.getD j 0
 | 0=>by rw[if_neg (by omega)];rfl
 | i+1=>by
  rw[sms,Yv,(sms_W hs vs i).len]
  by_cases h:i=j
  ·subst h;rw[if_pos ⟨rfl,hj⟩,if_pos (by omega),sms_get hs vs i hj i,if_neg (by omega)]
  ·rw[if_neg (fun h'=>h h'.1),sms_get hs vs j hj i]
   by_cases h2:j<i
   ·rw[if_pos h2,if_pos (by omega)]
   ·rw[if_neg h2,if_neg (by omega)]
theorem sms0_is {ss:List Nat} (hs:WW 8 ss) (vs:List Nat):sms0 ss vs 8=sms ss vs 8:=by
 refine List.ext_getElem (by rw[(sms0_W ss vs 8).len,(sms_W hs vs 8).len]) fun j a b=>?_
 have hj:j<8:=by rw[(sms0_W ss vs 8).len] at a;exact a
 have e1:=sms0_get ss vs j hj 8
 have e2:=sms_get hs vs j hj 8
 rw[if_pos hj] at e1 e2
 rw[List.getD_eq_getElem?_getD,List.getElem?_eq_getElem a] at e1
 rw[List.getD_eq_getElem?_getD,List.getElem?_eq_getElem b] at e2
 simp only[Option.getD_some] at e1 e2
 rw[e1,e2,Nat.add_comm]
def U64 (l:List Nat):List Value:=l.map fun(x:Nat)=>.int .u64 (x:Int)
theorem Ux (l:List Nat):(U64 l).length=l.length:=List.length_map ..
theorem Xa (l:List Nat) (j:Nat) (h:j<l.length):(U64 l)[j]?=some (.int .u64 ((l.getD j 0:Nat):Int)):=by simp[U64,List.getElem?_eq_getElem h]
theorem U64_app (a b:List Nat):U64 (a++b)=U64 a++U64 b:=by simp[U64]
theorem U64_tk {S:List Nat} {n j:Nat} {zs:List Value} (hj:j<n) (hn:n<=S.length):(U64 (S.take n)++zs)[j]?=some (.int .u64 ((S.getD j 0:Nat):Int)):=by
 have hl:(S.take n).length=n:=by rw[List.length_take];omega
 rw[List.getElem?_append_left (by rw[Ux,hl];exact hj),Xa _ j (by omega),List.getD_eq_getElem?_getD,List.getD_eq_getElem?_getD,List.getElem?_take_of_lt hj]
theorem U64_one {S:List Nat} {n:Nat} (hn:n<S.length):U64 (S.take n)++[.int .u64 ((S.getD n 0:Nat):Int)]=U64 (S.take (n+1)):=by
 have e:S.getD n 0=S[n]:=by rw[List.getD_eq_getElem?_getD,List.getElem?_eq_getElem hn];rfl
 rw[List.take_succ_eq_append_getElem hn,U64_app,e];rfl
theorem infoU:(Tryz.prog.info? 22).map (fun i=>(i.zero,i.size,i.bytes))=some (some (.int .u64 0),1,8):=by kernel_rfl
theorem bs0u (w:World):(Instr.buildSlice 120 0 #[]).run Tryz.prog w= .ok (.slice (some ⟨w.heap.size,0,none⟩) 0 0) (w.alloc (.cells #[] 22)):=by kernel_rfl
theorem bs1u (x:Nat) (w:World):(Instr.buildSlice 120 1 ([0].zip [.int .u64 (x:Int)]).toArray).run Tryz.prog w= .ok (.slice (some ⟨w.heap.size,0,none⟩) 1 1) (w.alloc (.cells [Value.int .u64 (x:Int)].toArray 22)):=by kernel_rfl
theorem ixU (g o n cap j:Nat) (h:j<n) (w:World):(Instr.indexAt 120 (.slice (some ⟨g,o,none⟩) n cap) (.int .i64 j)).run Tryz.prog w= .ok (.pointer (some ⟨g,o+j,none⟩)) w:=by
 have h2:(j:Int)<n:=by omega
 go_simp
theorem P1.nwu {news:List Value} (u:World) (y:Value) (h:P1 news u y):NW 1 news u y:=by
 obtain⟨ad,c,e,h1⟩:=P1.at u y h
 exact⟨_,c,e,.inr ⟨ad,rfl,h1⟩⟩
theorem one_u {x:Nat}: ∀v∈[Value.int .u64 (x:Int)],v.oneCell'=true:=fun v hv=>by simp at hv;subst hv;rfl
theorem bit_and64 (a b:Nat) (ha:a<M64) (hb:b<M64):bits .and .u64 a b=((a&&&b:Nat):Int):=(bits_nat .u64 64 (by decide) W7 a b ha hb).1
theorem bit_xor64 (a b:Nat) (ha:a<M64) (hb:b<M64):bits .xor .u64 a b=((a^^^b:Nat):Int):=by
 have ha':a%2^64=a:=Nat.mod_eq_of_lt ha
 have hb':b%2^64=b:=Nat.mod_eq_of_lt hb
 have h:(BitVec.ofNat 64 a^^^BitVec.ofNat 64 b).toNat=a^^^b:=by rw[BitVec.toNat_xor,BitVec.toNat_ofNat,BitVec.toNat_ofNat,ha',hb']
 show IntKind.u64.wrap ((BitVec.ofInt 64 (a:Int)^^^BitVec.ofInt 64 (b:Int)).toNat:Int)=_
 rw[BitVec.ofInt_natCast,BitVec.ofInt_natCast,h]
 exact W7 _ (Int.natCast_nonneg _) (by exact_mod_cast Nat.xor_lt_two_pow (n:=64) ha hb)
theorem and64 (p q:Operand) (a b:Nat) (w:World) (ha:a<M32) (hb:b<M32):(do eqGuard .and 22 p q (.int .u64 a) (.int .u64 b);binOp .and 22 (.int .u64 a) (.int .u64 b):Sem Value).run Tryz.prog w= .ok (.int .u64 ((a&&&b:Nat):Int)) w:=by
 rw[<-bit_and64 a b (Nat.lt_trans ha (by decide)) (Nat.lt_trans hb (by decide))];go_simp
theorem xor64 (p q:Operand) (a b:Nat) (w:World) (ha:a<M32) (hb:b<M32):(do eqGuard .xor 22 p q (.int .u64 a) (.int .u64 b);binOp .xor 22 (.int .u64 a) (.int .u64 b):Sem Value).run Tryz.prog w= .ok (.int .u64 ((a^^^b:Nat):Int)) w:=by
 rw[<-bit_xor64 a b (Nat.lt_trans ha (by decide)) (Nat.lt_trans hb (by decide))];go_simp
theorem sub64 (p q:Operand) (a b:Nat) (w:World) (h:b<=a) (ha:a<M64):(do eqGuard .sub 22 p q (.int .u64 a) (.int .u64 b);binOp .sub 22 (.int .u64 a) (.int .u64 b):Sem Value).run Tryz.prog w= .ok (.int .u64 ((a -b:Nat):Int)) w:=by
 have ha:a<18446744073709551616:=ha
 have e:IntKind.u64.wrap ((a:Int) -b)=((a -b:Nat):Int):=by rw[W7 _ (by omega) (by omega)];omega
 go_simp
theorem shl64i (p q:Operand) (a n:Nat) (w:World) (hn:n<=64):(do eqGuard .shl 22 p q (.int .u64 a) (.int .i64 n);binOp .shl 22 (.int .u64 a) (.int .i64 n):Sem Value).run Tryz.prog w= .ok (.int .u64 (((a<<<n)%18446744073709551616:Nat):Int)) w:=by
 have e:IntKind.u64.wrap ((a:Int)*2^n)=(a:Int)<<<n%18446744073709551616:=by
  rw[Int.shiftLeft_eq];simp[IntKind.wrap,IntKind.signed,IntKind.bits]
 have e2:min n 64=n:=by omega
 go_simp
 first | done | exact e
theorem cv3264 {o:Oper} {ev:Operand->Value} {x:Operand} {n:Nat} (u:World) (h1:n<M32) (ho:o.op= .convert 227 22 x) (hx:ev x= .int .u32 (n:Int)):(execOp ev o).run Tryz.prog u= .ok (.value (.int .u64 (n:Int))) u:=by
 have e1:IntKind.u64.wrap (n:Int)=(n:Int):=W7 _ (by omega) (by have:n<4294967296:=h1;omega)
 unfold execOp;rw[ho];simp only[hx];go_simp
theorem cv6432 {o:Oper} {ev:Operand->Value} {x:Operand} {n:Nat} (u:World) (h1:n<M32) (ho:o.op= .convert 22 227 x) (hx:ev x= .int .u64 (n:Int)):(execOp ev o).run Tryz.prog u= .ok (.value (.int .u32 (n:Int))) u:=by
 have e1:IntKind.u32.wrap (n:Int)=(n:Int):=wraps_u32 _ (by omega) (by have:n<4294967296:=h1;omega)
 unfold execOp;rw[ho];simp only[hx];go_simp
theorem Zc:EnT 179:=fun _ _=>by kernel_rfl
theorem Yy:EnT 178:=fun _ _=>by kernel_rfl
theorem Z6:EnT 177:=fun _ _=>by kernel_rfl
theorem Xo:EnT 180:=fun _ _=>by kernel_rfl
theorem Wa:EnT 176:=fun _ _=>by kernel_rfl
theorem cWrap (x:Nat) (w:World) (hx:x<18446744073709551616):CC 179 #[.int .u64 ((x:Nat):Int)] w (.int .u64 ((x%4294967296:Nat):Int)):=by
 go_enter Tryz.func179,Tryz.ntmps179
 have HB0:Bw w w:=Below.refl _ _
 have K0_1:=Bk.nil (w.heap.size) w
 go_upto_region 1 with fail
 apply Rn K0_1 HB0 [(0,3,_),(1,4,_),(2,2,_)]
 ·exact oc g_mv<|oc (g_bn (fun uZ=>rem64 _ _ x 4294967296 uZ hx (by decide)))<|oc g_as on
 intro u1 HB1 sz1 K1
 simp only[sQ] at K1⊢
 clear HB0
 go_wp2
 refine bodyPost_ret (v:= .int .u64 ((x%4294967296:Nat):Int)) (by simp[results,Tryz.results179,go_sem,]) rfl ⟨rfl,HB1⟩
theorem cRightR (x n:Nat) (w:World) (hn:n<=64):CC 178 #[.int .u64 ((x:Nat):Int),.int .i64 ((n:Nat):Int)] w (.int .u64 ((x>>>n:Nat):Int)):=by
 go_enter Tryz.func178,Tryz.ntmps178
 have HB0:Bw w w:=Below.refl _ _
 have K0_1:=Bk.nil (w.heap.size) w
 go_upto_region 1 with fail
 apply Rn K0_1 HB0 [(0,5,_),(1,6,_),(2,7,_),(3,4,_)]
 ·exact oc g_mv<|oc g_mv<|oc (g_bn (fun uZ=>shr64i _ _ x n uZ (by omega)))<|oc g_as on
 intro u1 HB1 sz1 K1
 simp only[sQ] at K1⊢
 clear HB0
 go_wp2
 refine bodyPost_ret (v:= .int .u64 ((x>>>n:Nat):Int)) (by simp[results,Tryz.results178,go_sem,]) rfl ⟨rfl,HB1⟩
theorem cTurn_core (x n y z:Nat) (w:World) (hn:n<=32) (hy:(x<<<(32 -n))%18446744073709551616=y) (hy2:y<18446744073709551616) (hz:x>>>n+y%4294967296=z) (hz2:z<18446744073709551616):CC 177 #[.int .u64 ((x:Nat):Int),.int .i64 ((n:Nat):Int)] w (.int .u64 ((z:Nat):Int)):=by
 go_enter Tryz.func177,Tryz.ntmps177
 have HB0:Bw w w:=Below.refl _ _
 have K0_1:=Bk.nil (w.heap.size) w
 go_upto_region 1 with fail
 apply Rm K0_1 HB0 [(0,5,_),(1,6,_),(2,7,_),(3,8,_),(4,9,_),(5,10,_),(6,11,_),(7,12,_),(8,13,_),(9,4,_)]
 ·exact oc g_mv<|oc g_mv<|oc (g_bn (fun uZ=>shr64i _ _ x n uZ (by omega)))<|oc g_mv<|oc g_mv<|oc (g_bn (fun uZ=>We _ _ 32 (n:Int) ((32 -n:Nat):Int) uZ (by omega) (by omega) (by omega)))<|oc (g_bn (fun uZ=>(shl64i _ _ x (32 -n) uZ (by omega)).trans (by rw[hy])))<|oc (g_cl Zc (fun uZ=>cWrap y uZ hy2))<|oc (g_bn (fun uZ=>U1 _ _ (x>>>n) (y%4294967296) z uZ hz hz2))<|oc g_as on
 intro u1 HB1 sz1 K1
 simp only[sQ] at K1⊢
 clear HB0
 go_wp2
 refine bodyPost_ret (v:= .int .u64 ((z:Nat):Int)) (by simp[results,Tryz.results177,go_sem,]) rfl ⟨rfl,HB1⟩
theorem cWrapE (x y:Nat) (w:World) (hx:x<18446744073709551616) (h:x%4294967296=y):CC 179 #[.int .u64 ((x:Nat):Int)] w (.int .u64 ((y:Nat):Int)):=by
 subst h;exact cWrap x w hx
theorem ixU0 (g n cap j:Nat) (h:j<n) (w:World):(Instr.indexAt 120 (.slice (some ⟨g,0,none⟩) n cap) (.int .i64 j)).run Tryz.prog w= .ok (.pointer (some ⟨g,j,none⟩)) w:=by
 have:=ixU g 0 n cap j h w
 rwa [Nat.zero_add] at this
theorem cTurn (x n:Nat) (w:World) (hx:x<M32) (hn:n<=32):CC 177 #[.int .u64 ((x:Nat):Int),.int .i64 ((n:Nat):Int)] w (.int .u64 ((rotr x n:Nat):Int)):=by
 have e:(x<<<(32 -n))%18446744073709551616=x<<<(32 -n):=Nat.mod_eq_of_lt (by
  rw[Nat.shiftLeft_eq]
  have h1:2^(32 -n)<=2^32:=Nat.pow_le_pow_right (by decide) (by omega)
  have h2:x*2^(32 -n)<=x*2^32:=Nat.mul_le_mul_left _ h1
  have h3:x<4294967296:=hx
  omega)
 have hr:=Zo (n:=n) hx
 exact cTurn_core x n (x<<<(32 -n)) (rotr x n) w hn e (by rw[<-e];exact Nat.mod_lt _ (by decide)) (rotr_add x n hx hn) (Nat.lt_trans hr (by decide))
theorem cConstants (w:World):Calls Tryz.prog 180 #[] w fun e w'=> ∃v,e= .returned v/\PS w.heap.size 64 (U64 kcs) w' v/\Bw w w':=by
 go_enter Tryz.func180,Tryz.ntmps180
 have HB0:Bw w w:=Below.refl _ _
 have K0_1:=Bk.nil (w.heap.size) w
 go_upto_region 1 with fail
 refine Rf K0_1 HB0 [] [] [] [] [] [⟨0,1,some 1,PS w.heap.size 64 (U64 kcs)⟩,⟨1,0,none,PS w.heap.size 64 (U64 kcs)⟩] [] (.cons (fun _ _ _ h1 h2=>h2.stab h1)<| .cons (fun _ _ _ h1 h2=>h2.stab h1)<|Stab.nil) ?_ ?_
 ·exact oc (g_bR 0 (PS w.heap.size 64 (U64 kcs)) [0,1,2,3,4,5,6,7,8,9,10,11,12,13,14,15,16,17,18,19,20,21,22,23,24,25,26,27,28,29,30,31,32,33,34,35,36,37,38,39,40,41,42,43,44,45,46,47,48,49,50,51,52,53,54,55,56,57,58,59,60,61,62,63] [.int .u64 1116352408,.int .u64 1899447441,.int .u64 3049323471,.int .u64 3921009573,.int .u64 961987163,.int .u64 1508970993,.int .u64 2453635748,.int .u64 2870763221,.int .u64 3624381080,.int .u64 310598401,.int .u64 607225278,.int .u64 1426881987,.int .u64 1925078388,.int .u64 2162078206,.int .u64 2614888103,.int .u64 3248222580,.int .u64 3835390401,.int .u64 4022224774,.int .u64 264347078,.int .u64 604807628,.int .u64 770255983,.int .u64 1249150122,.int .u64 1555081692,.int .u64 1996064986,.int .u64 2554220882,.int .u64 2821834349,.int .u64 2952996808,.int .u64 3210313671,.int .u64 3336571891,.int .u64 3584528711,.int .u64 113926993,.int .u64 338241895,.int .u64 666307205,.int .u64 773529912,.int .u64 1294757372,.int .u64 1396182291,.int .u64 1695183700,.int .u64 1986661051,.int .u64 2177026350,.int .u64 2456956037,.int .u64 2730485921,.int .u64 2820302411,.int .u64 3259730800,.int .u64 3345764771,.int .u64 3516065817,.int .u64 3600352804,.int .u64 4094571909,.int .u64 275423344,.int .u64 430227734,.int .u64 506948616,.int .u64 659060556,.int .u64 883997877,.int .u64 958139571,.int .u64 1322822218,.int .u64 1537002063,.int .u64 1747873779,.int .u64 1955562222,.int .u64 2024104815,.int .u64 2227730452,.int .u64 2361852424,.int .u64 2428436474,.int .u64 2756734187,.int .u64 3204031479,.int .u64 3329325298] (U64 kcs) (e:=22) (fun w=>by kernel_rfl) (fun u hu=>PS.new 64 _ _ u (Nat.le_trans HB0.size hu)))<|oc (g_sE 0 1 (PS w.heap.size 64 (U64 kcs))) on
 intro u1 v1_0 hv1_0 v1_1 hv1_1 HB1 sz1 K1
 simp only[sQ] at K1⊢
 clear HB0
 have hz:=hv1_1 rfl
 go_wp2
 refine bodyPost_ret (v:=v1_1) (by simp[results,Tryz.results180,go_sem]) rfl ⟨_,rfl,hz,HB1⟩
section
def tlF (n:Nat):Nat->List Nat
 | 0=>List.replicate 8 0
 | j+1=>(tlF n j).set (7 -j) ((n*8)>>>(8*j)%256)
theorem tlF_B (n:Nat): ∀j,BB 8 (tlF n j)
 | 0=>BB_rep 8
 | j+1=>(tlF_B n j).set _ _ (Nat.mod_lt _ (by decide))
theorem en_is (n:Nat): ∀j,j<=8->enL n j=128::(List.replicate (nou n) 0++tlF n j)
 | 0,_=>by
  show (List.replicate (nou n+9) 0).set 0 128=128::(List.replicate (nou n) 0++List.replicate 8 0)
  rw[List.replicate_append_replicate,show nou n+9=(nou n+8)+1 by omega,List.replicate_succ,List.set_cons_zero]
 | j+1,h=>by
  show (enL n j).set (nou n+9 -1 -j) _=_
  rw[en_is n j (by omega),show nou n+9 -1 -j=(nou n+(7 -j))+1 by omega,List.set_cons_succ,List.set_append_right _ _ (by rw[List.length_replicate];omega),List.length_replicate,show nou n+(7 -j) -nou n=7 -j by omega]
  rfl
theorem pad_is (xs:List Nat):pad xs=(xs++[128])++List.replicate (nou xs.length) 0++tlF xs.length 8:=by
 unfold pad ending
 rw[en_is _ 8 (Nat.le_refl _)]
 simp
theorem nou_56 (n k:Nat) (hn:n<=100000) (hk:k<=nou n):(n+1+k)%64=56↔k=nou n:=by
 unfold nou at *;omega
def tD (ss:List Nat):Nat->List Nat
 | 0=>z32
 | m+1=>(tD ss m).set (4*(m/4)+3 -m%4) ((ss.getD (m/4) 0>>>(8*(m%4)))%256)
theorem tD_B (ss:List Nat): ∀m,BB 32 (tD ss m)
 | 0=>BB_z32
 | m+1=>(tD_B ss m).set _ _ (Nat.mod_lt _ (by decide))
theorem tD_get (ss:List Nat) (p:Nat) (hp:p<32): ∀m,m<=32->(tD ss m).getD p 0=if 4*(p/4)+3 -p%4<m then (ss.getD (p/4) 0>>>(8*(3 -p%4)))%256 else 0
 | 0,_=>by
  show z32.getD p 0=_
  rw[if_neg (by omega)]
  unfold z32;rw[List.getD_eq_getElem?_getD,List.getElem?_replicate];split<;>rfl
 | m+1,h=>by
  rw[tD,Yv,(tD_B ss m).len]
  by_cases e:4*(m/4)+3 -m%4=p
  ·have e1:m/4=p/4:=by omega
   have e2:m%4=3 -p%4:=by omega
   rw[if_pos ⟨e,hp⟩,if_pos (by omega),e1,e2]
  ·rw[if_neg (fun h'=>e h'.1),tD_get ss p hp m (by omega)]
   by_cases e3:4*(p/4)+3 -p%4<m
   ·rw[if_pos e3,if_pos (by omega)]
   ·rw[if_neg e3,if_neg (by omega)]
theorem tD_told (ss:List Nat):tD ss 32=told ss:=by
 refine List.ext_getElem (by rw[(tD_B ss 32).len,(told_B ss).len]) fun p a b=>?_
 have hp:p<32:=by rw[(tD_B ss 32).len] at a;exact a
 have e1:=tD_get ss p hp 32 (Nat.le_refl _)
 rw[if_pos (by omega)] at e1
 have e2:=told_get ss p hp
 rw[List.getD_eq_getElem?_getD,List.getElem?_eq_getElem a] at e1
 rw[List.getD_eq_getElem?_getD,List.getElem?_eq_getElem b] at e2
 simp only[Option.getD_some] at e1 e2
 rw[e1,e2]
theorem shr_next (x j:Nat):(x>>>(8*j))/256=x>>>(8*(j+1)):=by
 rw[show 8*(j+1)=8*j+8 by omega,Nat.shiftRight_add,Nat.shiftRight_eq_div_pow (x>>>(8*j)) 8]
theorem app_PG {lo n m:Nat} {xs ys:List Nat} {y:Value} {ty:TypeId} {u:World} {vs:Value} (hlo:lo<=u.heap.size) (hxl:xs.length=n) (hyl:ys.length=m) (hl:n+m<=1000000) (hy:NW m (U8 ys) u y) (h:PG lo 1 n (U8 xs) u vs):
 ∃v u' b,(Builtin.append_ #[118,118] ty #[vs,y]).run Tryz.prog u= .ok v u'/\lo<=b/\u.grownBy u' (some b)/\PG lo 1 (n+m) (U8 (xs++ys)) u' v:=by
 obtain⟨b,cap,zs,rfl,h1,h2,h3,h4,h5⟩:=h
 obtain⟨ti,hti,htm⟩:=Option.map_eq_some_iff.1 infoB
 simp only[Prod.mk.injEq] at htm
 obtain⟨hzv,hsz,hby⟩:=htm
 obtain⟨v',u',hr,hg,b',cap',zs',rfl,g1,g2,g3,g4,g5⟩:=run_app (P:=Tryz.prog) u (ty:=ty) Tryz.underlying118 hti hzv (by rw[hsz];rfl) (base:=u.heap.size) (n:=n) (cap:=cap) (m:=m) (news:=U8 ys) h5 h2 (by rw[hsz,Zd];omega) (by rw[hsz];omega) h3 (Nat.le_refl _) hy (by rw[hsz,Zd];omega) U8_mem (by rw[hby];omega) (by omega)
 refine⟨_,u',b,hr,h1,hg,b',cap',zs',rfl,by omega,g2,g3,by rw[hsz] at g4;exact g4,by rw[U8_app];exact g5⟩
section
variable {R:Rg} {P:Program} {ops:Array Oper} {Q:Exit->Act->World->Prop} {f:Nat->Bool} {t:Nat->Value} {u:World} {a:Act} {i:Nat} {o:Oper}
theorem g_aEE (m m2 n:Nat) (p p2 p':World->Value->Prop) {T:TypeId} {j d j2 d2:Nat} (hp: ∀(f:Nat->Bool) (u:World) (vs ys:Value),KC f u R.lo R.base R.es->Below R.lo R.w u->R.base<=u.heap.size->p u vs->p2 u ys-> ∃v u' b,(Builtin.append_ #[T,T] o.type #[vs,ys]).run P u= .ok v u'/\R.base<=b/\u.grownBy u' (some b)/\p' u' v) (hop:o.op= .call {callee:= .builtin .append,args:=[.tmp d,.tmp d2].toArray,argTypes:=[T,T].toArray}:=by rfl) (hm:R.E[m]?=some ⟨j,d,some i,p⟩:=by rfl) (hm2:R.E[m2]?=some ⟨j2,d2,some i,p2⟩:=by rfl) (hn0:(R.E[n]?).map (·.p)=some p':=by rfl) (hw0:R.nw=[]:=by rfl)
 (hd:(Yf o j&&R.S.contains d&&(Yf o j2&&R.S.contains d2)&&((R.E.eraseIdx n).all (eGone R.O i o)))=true:=by rfl) (hc:R.chkE ops n i o=true:=by rfl):OG R P ops Q i o:=fun f t u a X=>by
 simp only[Bool.and_eq_true,List.contains_iff_mem] at hd
 obtain⟨⟨⟨h2,h4⟩,h6,h7⟩,h5⟩:=hd
 obtain⟨d',q',hd',hq',⟨e1,e2⟩,k1,k2,k3,k4,k5,k6,k7,hw⟩:=Zt hc
 have hv:p u (t d):=X.val hm h2 rfl
 have hv2:p2 u (t d2):=X.val hm2 h6 rfl
 obtain⟨v,u',b,hr,hb,hg,hn⟩:=hp f u (t d) (t d2) X.I.2.1 X.I.1.bel X.I.1.sz hv hv2
 refine X.go hw fun K hK=>Uz hop (X.inS h4) (X.inS h7) hr (hK _ _ ⟨updT t d' v,by rw[hd'];exact X.F.put X.parts.1 k3 v,?_,KC.free k7 (KC.grown hg hb X.I.1.sz X.I.2.1),Gs.other k1 X.I.2.2.1,Xn k6 X.I.2.2.2.1 X.dep,Ns.step X.I.2.2.2.2.1 k2,?_⟩)
 ·have hM:=X.I.1
  rw[hw0] at hM⊢
  exact{bel:=hM.bel.grown hg (Nat.le_trans hM.lo hM.sz) (fun k e=>by cases e;exact Nat.le_trans hM.lo hb),lo:=hM.lo,sz:=Nat.le_trans hM.sz hg.size,ks:=trivial,ex:=trivial,nw:=trivial,nd:=trivial}
 ·exact Es.last (O:=R.O) (fun j hj=>X.later (by unfold Rg.later;rw[hj];simp)) X.dep (by rw[hq',<-e1,<-e2]) h5 (by rw[hq'] at hn0;cases hn0;exact hn)
end
end
theorem Ws:EnT 175:=fun _ _=>by kernel_rfl
theorem bsB0 (x:Nat) (w:World):(Instr.buildSlice 118 1 ([0].zip [.int .u8 (x:Int)]).toArray).run Tryz.prog w= .ok (.slice (some ⟨w.heap.size,0,none⟩) 1 1) (w.alloc (.cells (U8 [x]).toArray 5)):=by kernel_rfl
theorem PS_NW {lo n:Nat} {xs:List Nat} {u:World} {y:Value} (h:PS lo n (U8 xs) u y):NW n (U8 xs) u y:=by
 obtain⟨b,cap,rfl,_,h2,h3,h4⟩:=h
 exact⟨_,cap,rfl,.inr ⟨_,rfl,fun j v hj=>by rw[Addr.add0];exact(h4 j v hj).1⟩⟩
theorem neq_it (p q:Operand) (x y:Int) (b:Bool) (w:World) (h:decide (x≠y)=b):(do eqGuard .neq 3 p q (.int .i64 x) (.int .i64 y);binOp .neq 3 (.int .i64 x) (.int .i64 y):Sem Value).run Tryz.prog w= .ok (.bool b) w:=by
 subst h;go_simp
 first | done | (by_cases e:x=y<;>simp[e])
theorem U7 (p q:Operand) (x y:Int) (b:Bool) (w:World) (h:decide (y<=x)=b):(do eqGuard .geq 3 p q (.int .i64 x) (.int .i64 y);binOp .geq 3 (.int .i64 x) (.int .i64 y):Sem Value).run Tryz.prog w= .ok (.bool b) w:=by
 subst h;go_simp
theorem quo64 (p q:Operand) (x y:Nat) (w:World) (h1:x<18446744073709551616) (h2:0<y):(do eqGuard .quo 22 p q (.int .u64 x) (.int .u64 y);binOp .quo 22 (.int .u64 x) (.int .u64 y):Sem Value).run Tryz.prog w= .ok (.int .u64 ((x/y:Nat):Int)) w:=by
 have e0:((x:Int)).tdiv y=((x/y:Nat):Int):=by rw[Int.tdiv_eq_ediv_of_nonneg (Int.natCast_nonneg _)];simp
 have hle:x/y<=x:=Nat.div_le_self _ _
 obtain⟨z,hz⟩: ∃z,x/y=z:=⟨_,rfl⟩
 rw[hz] at e0 hle⊢
 have e:IntKind.u64.wrap (z:Int)=(z:Int):=W7 _ (by omega) (by omega)
 have hy:(y:Int)≠0:=by omega
 have hy2: ¬y=0:=by omega
 go_simp
def lenV2:Value->Nat
 | .slice _ n _=>n
 | _=>0
theorem ixB0 (g n cap j:Nat) (h:j<n) (w:World):(Instr.indexAt 118 (.slice (some ⟨g,0,none⟩) n cap) (.int .i64 j)).run Tryz.prog w= .ok (.pointer (some ⟨g,j,none⟩)) w:=by
 have:=ixB g 0 n cap j h w
 rwa [Nat.zero_add] at this
theorem NW_full {u:World} {b n cap:Nat} {xs:List Nat} (hl:xs.length=n) (h:CV u b (U8 xs)):NW n (U8 xs) u (.slice (some ⟨b,0,none⟩) n cap):=
 ⟨_,cap,rfl,.inr ⟨_,rfl,fun j v hj=>by rw[Addr.add0];exact(h j v hj).1⟩⟩
theorem cPadR_core (n cap no N:Nat) (sl:Option Addr) (xs ps:List Nat) (tF:Nat->List Nat) (nF:Nat->Nat) (w:World) (hn:n<=100000) (hno64:no<64) (hxs:xs.length=n) (hN:N=n+1+no+8) (hno:Hid (∀k,k<=no->((n+1+k)%64=56↔k=no))) (ht0:Hid (tF 0=List.replicate 8 0)) (hts:Hid (∀j,tF (j+1)=(tF j).set (7 -j) (nF j%256))) (htB:Hid (∀j,BB 8 (tF j))) (hn0:Hid (nF 0=n*8)) (hns:Hid (∀j,nF (j+1)=nF j/256)) (hnl:Hid (∀j,nF j<18446744073709551616)) (hpad:Hid (ps=xs++[128]++List.replicate no 0++tF 8))
 (happ:Hid (∀(u:World) (vs:Value),Bw w u->PZ w.heap.size u vs-> ∃v u',(Builtin.append_ #[118,118] 118 #[vs,(.slice sl n cap)]).run Tryz.prog u= .ok v u'/\Bw u u'/\PG w.heap.size 1 n (U8 (xs)) u' v)):
 Calls Tryz.prog 175 #[(.slice sl n cap)] w fun e w'=> ∃v,e= .returned v/\PG w.heap.size 1 N (U8 (ps)) w' v/\Bw w w':=by
 go_enter Tryz.func175,Tryz.ntmps175
 have HB0:Bw w w:=Below.refl _ _
 obtain⟨ti,hti,htm⟩:=Option.map_eq_some_iff.1 infoB
 simp only[Prod.mk.injEq] at htm
 obtain⟨hzv,hsz,hby⟩:=htm
 have K0_1:=Bk.nil (w.heap.size) w
 go_upto_region 1 with fail
 apply Rf K0_1 HB0 [] [] [(1,8,_)] [(5,4)] [] [⟨0,7,some 2,PZ w.heap.size⟩,⟨2,9,some 4,PG w.heap.size 1 n (U8 (xs))⟩,⟨3,10,some 4,PS w.heap.size 1 (U8 [128])⟩,⟨4,11,some 5,PG w.heap.size 1 (n+1) (U8 (xs++[128]))⟩,⟨5,3,none,PG w.heap.size 1 (n+1) (U8 (xs++[128]))⟩] []
 ·exact oc (g_bs 0 (PZ w.heap.size) bs0b (fun u hu=>PZ.new hu))<|oc g_mv<|oc (g_a1 0 1 (PZ w.heap.size) (PG w.heap.size 1 n (U8 (xs))) (fun u vs hB hs hv=>happ.out u vs hB hv))<|oc (g_bR 2 (PS w.heap.size 1 (U8 [128])) [0] [.int .u8 128] (U8 [128]) (bsB0 128) (fun u hu=>PS.new 1 _ _ u hu))<|oc (g_aEE 1 2 3 (PG w.heap.size 1 n (U8 (xs))) (PS w.heap.size 1 (U8 [128])) (PG w.heap.size 1 (n+1) (U8 (xs++[128]))) (fun f u vs ys kZ bZ hs hv hy=>app_PG hs hxs rfl (by omega) (PS_NW hy) hv))<|oc (g_sE 3 4 (PG w.heap.size 1 (n+1) (U8 (xs++[128])))) on
 intro u1 v1_0 hv1_0 v1_2 hv1_2 v1_3 hv1_3 v1_4 hv1_4 v1_5 hv1_5 HB1 sz1 K1
 simp only[sQ] at K1⊢
 clear HB0
 obtain⟨b3,c3,zs,rfl,ho1,ho2,hc3,hz3,hoC⟩:=hv1_5 rfl
 rw[Nat.mul_one] at hz3
 go_wp2_with fail
 go_loopw [3] (fun s3 wr=> ∃(k b3 c3:Nat) (zs:List Value),k<=no/\s3= .slice (some ⟨b3,0,none⟩) (n+1+k) c3/\n+1+k<=c3/\zs.length=c3 -(n+1+k)/\w.heap.size<=b3/\b3<wr.heap.size/\Hid (CV wr b3 (U8 (xs++[128]++List.replicate k 0)++zs))/\Bw w wr) (fun s3 _=>n+1+no -lenV2 s3)
 case atStart=>exact⟨0,b3,c3,zs,by omega,rfl,hc3,hz3,ho1,ho2,(by rw[List.replicate_zero,List.append_nil];exact hoC),HB1⟩
 case round=>
  clear ho1 ho2 hc3 hz3 hoC
  obtain⟨k,b3,c3,zs,hk,rfl,hc3,hz3,hb3,hl3,Kv,HBr⟩:=hrel
  clear HB1
  have h56:=hno.out k hk
  have e64:(n+1+k)%64<64:=Nat.mod_lt _ (by decide)
  by_cases hj:k<no
  ·have hl1:decide ((((n+1+k)%64:Nat):Int)≠56)=true:=by simp;omega
   have hxl:(xs++[128]++List.replicate k 0).length=n+1+k:=by rw[List.length_append,List.length_append,List.length_replicate,hxs];rfl
   have K1_2:Bk w.heap.size wr [(true,b3,U8 (xs++[128]++List.replicate k 0)++zs)]:=⟨.o hl3 (by omega) Kv.out<|trivial,by simp⟩
   go_upto_region 2 with fail
   apply Rn K1_2 HBr [(0,12,_),(1,13,_),(2,14,_),(3,15,_)]
   ·exact oc g_mv<|oc (g_ln Tryz.underlying118)<|oc (g_bn (fun uZ=>rem_n _ _ (n+1+k) 64 uZ (by omega) (by decide)))<|oc (g_bn (fun uZ=>neq_it _ _ (((n+1+k)%64:Nat):Int) 56 true uZ hl1)) on
   intro u2 HB2 sz2 K2
   simp only[sQ] at K2⊢
   go_upto_region 3 with fail
   apply Rf K2 HB2 [.all 2 ([])] [] [(0,16,_)] [(3,0),(3,2)] [(3,3)] [⟨1,17,some 2,PS w.heap.size 1 (U8 [0])⟩,⟨2,18,some 3,PH u2.heap.size b3 ti.size (n+1+k+1) (U8 (xs++[128]++List.replicate k 0)++U8 [0])⟩,⟨3,3,none,PH u2.heap.size b3 ti.size (n+1+k+1) (U8 (xs++[128]++List.replicate k 0)++U8 [0])⟩] [false]
   ·exact oc g_mv<|oc (g_bR 0 (PS w.heap.size 1 (U8 [0])) [0] [.int .u8 0] (U8 [0]) (bsB0 0) (fun u hu=>PS.new 1 _ _ u (Nat.le_trans HB2.size hu)))<|oc (g_pE 0 0 1 (PS w.heap.size 1 (U8 [0])) (U8 (xs++[128]++List.replicate k 0)) zs (U8 [0]) Tryz.underlying118 hti hzv (by rw[hsz];rfl) rfl (fun u y hy=>PS_NW hy) U8_mem (by rw[hsz];rfl) (by rw[hsz,Zd,hxl];omega) (by rw[hsz];omega) hc3 (by rw[hby];omega) (by omega))<|oc (g_sE 1 2 (PH u2.heap.size b3 ti.size (n+1+k+1) (U8 (xs++[128]++List.replicate k 0)++U8 [0]))) on
   intro u3 v3_1 hv3_1 v3_2 hv3_2 v3_3 hv3_3 HB3 sz3 K3
   simp only[sQ] at K3⊢
   clear K2 HB2
   obtain⟨b6,c6,zs6,rfl,hb6,hl6,hc6,hz6,Kv6⟩:=hv3_3 rfl
   rw[hsz] at hz6
   rw[<-U8_app,List.append_assoc,show ([0]:List Nat)=List.replicate 1 0 from rfl,List.replicate_append_replicate] at Kv6
   go_wp2
   refine⟨⟨k+1,b6,c6,zs6,by omega,rfl,hc6,by omega,by omega,hl6,Kv6,HB3⟩,?_⟩
   simp[lenV2]<;>omega
  ·have hkn:k=no:=by omega
   subst hkn
   have hl1:decide ((((n+1+k)%64:Nat):Int)≠56)=false:=by simp;omega
   have K1_2:Bk w.heap.size wr [(true,b3,U8 (xs++[128]++List.replicate k 0)++zs)]:=⟨.o hl3 (by omega) Kv.out<|trivial,by simp⟩
   go_upto_region 2 with fail
   apply Rn K1_2 HBr [(0,12,_),(1,13,_),(2,14,_),(3,15,_)]
   ·exact oc g_mv<|oc (g_ln Tryz.underlying118)<|oc (g_bn (fun uZ=>rem_n _ _ (n+1+k) 64 uZ (by omega) (by decide)))<|oc (g_bn (fun uZ=>neq_it _ _ (((n+1+k)%64:Nat):Int) 56 false uZ hl1)) on
   intro u2 HB2 sz2 K2
   simp only[sQ] at K2⊢
   go_upto_region 4 with fail
   apply Rn K2 HB2 [(0,19,_),(1,20,_),(2,21,_),(3,22,_),(4,4,_)]
   ·exact oc g_mv<|oc (g_ln Tryz.underlying118)<|oc (g_op (fun ev uZ he=>cvi64 uZ (by omega) rfl (he _ _ rfl)))<|oc (g_bn (fun uZ=>mul64 _ _ n 8 (n*8) uZ rfl (by omega)))<|oc g_as on
   intro u3 HB3 sz3 K3
   simp only[sQ] at K3⊢
   clear K2 HB2
   have hlt3:=(K3.lt 0)
   have hlo3:=HB3.size
   go_upto_region 5 with fail
   refine Rf K3 HB3 [] [] [] [] [] [⟨0,23,some 1,PF u3.heap.size 8 (U8 (List.replicate 8 0))⟩,⟨1,5,none,PF u3.heap.size 8 (U8 (List.replicate 8 0))⟩] [] (.cons (fun _ _ _ h1 h2=>h2.stab h1)<| .cons (fun _ _ _ h1 h2=>h2.stab h1)<|Stab.nil) ?_ ?_
   ·exact oc (g_ms 0 (PF u3.heap.size 8 (U8 (List.replicate 8 0))) (mkB .i64 8 (by decide)) (fun u hu=>PF.new 8 _ _ u hu))<|oc (g_sE 0 1 (PF u3.heap.size 8 (U8 (List.replicate 8 0)))) on
   intro u4 v4_0 hv4_0 v4_1 hv4_1 HB4 sz4 K4
   simp only[sQ] at K4⊢
   clear HB3
   obtain⟨bt,rfl,hot1,hot2,hotC⟩:=hv4_1 rfl
   have K4_3:Bk w.heap.size u4 [(true,b3,U8 (xs++[128]++List.replicate k 0)++zs),(true,bt,U8 (List.replicate 8 0))]:=⟨.o (K4.lt 0) (by omega) (K4.cv 0)<| .o hot2 (by omega) hotC<|trivial,by simp;omega⟩
   go_upto_region 6 with fail
   apply Rn K4_3 HB4 [(0,6,_)]
   ·exact oc g_as on
   intro u5 HB5 sz5 K5
   simp only[sQ] at K5⊢
   clear HB4
   have hlb:=(K5.lt 0)
   have hlt:=(K5.lt 1)
   go_wp2_with fail
   go_loopw [6,4] (fun s6 s4 wr=> ∃(j:Nat),j<=8/\s6= .int .i64 (7 -(j:Int))/\s4= .int .u64 ((nF j:Nat):Int)/\b3<wr.heap.size/\Hid (CV wr b3 (U8 (xs++[128]++List.replicate k 0)++zs))/\bt<wr.heap.size/\Hid (CV wr bt (U8 (tF j)))/\Bw w wr) (fun s6 _ _=>(intOf s6+1).toNat)
   case atStart=>exact⟨0,by omega,rfl,(by rw[hn0.out];simp),(K5.lt 0),(K5.cv 0),(K5.lt 1),(by rw[ht0.out];exact(K5.cv 1)),HB5⟩
   case round=>
    clear Kv HBr hl1 hl3 hot2 hotC
    obtain⟨j,hj8,rfl,rfl,hl3,Kv,hlt,Kt,HBr⟩:=hrel
    clear HB5
    by_cases hj:j<8
    ·have hl1:decide ((0:Int)<=7 -(j:Int))=true:=by simp;omega
     have hS:=hts.out j
     have hN:=hns.out j
     have hnl:=hnl.out j
     have htl:=(htB.out j).len
     obtain⟨tl,etl⟩: ∃x,tF j=x:=⟨_,rfl⟩
     obtain⟨q,eq⟩: ∃x,nF j=x:=⟨_,rfl⟩
     rw[etl] at hS htl Kt
     rw[eq] at hS hN hnl
     try rw[eq]
     have gi:=X0 tl (7 -j) (by omega)
     obtain⟨y,ey⟩: ∃x,tl.getD (7 -j) 0=x:=⟨_,rfl⟩
     rw[ey] at gi
     have e7:(7:Int) -(j:Int)=((7 -j:Nat):Int):=by omega
     try rw[e7]
     have e71:((7 -j:Nat):Int) -1=7 -((j+1:Nat):Int):=by omega
     have e256:q%256%256=q%256:=by omega
     rw[e7] at hl1
     have hS:Hid _:=hS
     have hN:Hid _:=hN
     clear etl eq ey
     have hnK:=K5.n
     simp at hnK
     have hoK0:=K5.lo 0
     have hoK1:=K5.lo 1
     have K5_4:Bk w.heap.size wr [(true,b3,U8 (xs++[128]++List.replicate k 0)++zs),(true,bt,U8 (tl))]:=⟨.o hl3 (K5.lo 0) Kv.out<| .o hlt (K5.lo 1) Kt.out<|trivial,by simp;omega⟩
     go_upto_region 7 with fail
     apply Rn K5_4 HBr [(0,24,_),(1,25,_)]
     ·exact oc g_mv<|oc (g_bn (fun uZ=>U7 _ _ ((7 -j:Nat):Int) 0 _ uZ hl1)) on
     intro u6 HB6 sz6 K6
     simp only[sQ] at K6⊢
     go_upto_region 9 with fail
     apply Rp K6 HB6 [.no,.all 6 (U8 (tl.set (7 -j) (q%256)))] [] [(0,28,_),(1,29,_),(2,30,_),(3,31,_),(4,32,_),(5,33,_)] [] [] []
     ·exact oc g_mv<|oc g_mv<|oc g_mv<|oc (g_bn (fun uZ=>rem64 _ _ q 256 uZ hnl (by decide)))<|oc (g_op (fun ev uZ he=>(cv648 uZ rfl (he _ _ rfl)).trans (by rw[e256])))<|oc (g_ix (fun uZ=>ixB0 bt 8 8 (7 -j) (by omega) uZ))<|oc (g_sw 1 (7 -j) s8 (gi) (Uf _ _ _)) on
     intro u7 HB7 sz7 K7
     simp only[sQ] at K7⊢
     clear K6 HB6
     go_upto_region 10 with fail
     apply Rp K7 HB7 [] [] [(0,34,_),(1,35,_),(2,4,_)] [(2,0)] [(2,4)] []
     ·exact oc g_mv<|oc (g_bn (fun uZ=>quo64 _ _ q 256 uZ hnl (by decide)))<|oc g_as on
     intro u8 HB8 sz8 K8
     simp only[sQ] at K8⊢
     clear K7 HB7
     go_upto_region 8 with fail
     apply Rp K8 HB8 [] [] [(0,26,_),(1,27,_),(2,6,_)] [(2,0)] [(2,6)] []
     ·exact oc g_mv<|oc (g_bn (fun uZ=>We _ _ ((7 -j:Nat):Int) 1 (7 -((j+1:Nat):Int)) uZ e71 (by omega) (by omega)))<|oc g_as on
     intro u9 HB9 sz9 K9
     simp only[sQ] at K9⊢
     clear K8 HB8
     go_wp2
     refine⟨⟨j+1,by omega,rfl,by rw[hN.out],(K9.lt 0),(K9.cv 0),(K9.lt 1),(by rw[hS.out];exact(K9.cv 1)),HB9⟩,?_⟩
     simp[intOf]<;>omega
    ·have hj8:j=8:=by omega
     subst hj8
     have hl1:decide ((0:Int)<=7 -((8:Nat):Int))=false:=by decide
     have htl:=(htB.out 8).len
     have hnK:=K5.n
     simp at hnK
     have hoK0:=K5.lo 0
     have hoK1:=K5.lo 1
     have hxl:(xs++[128]++List.replicate k 0).length=n+1+k:=by rw[List.length_append,List.length_append,List.length_replicate,hxs];rfl
     have K5_4:Bk w.heap.size wr [(true,b3,U8 (xs++[128]++List.replicate k 0)++zs),(false,bt,U8 (tF 8))]:=⟨.o hl3 (K5.lo 0) Kv.out<| .c hlt Kt.out<|trivial,by simp;omega⟩
     go_upto_region 7 with fail
     apply Rn K5_4 HBr [(0,24,_),(1,25,_)]
     ·exact oc g_mv<|oc (g_bn (fun uZ=>U7 _ _ (7 -((8:Nat):Int)) 0 _ uZ hl1)) on
     intro u6 HB6 sz6 K6
     simp only[sQ] at K6⊢
     go_upto_region 11 with fail
     apply Rf K6 HB6 [.all 2 ([])] [] [(0,36,_),(1,37,_)] [(3,2)] [] [⟨2,38,some 3,PH u6.heap.size b3 ti.size (n+1+k+8) (U8 (xs++[128]++List.replicate k 0)++U8 (tF 8))⟩,⟨3,2,none,PH u6.heap.size b3 ti.size (n+1+k+8) (U8 (xs++[128]++List.replicate k 0)++U8 (tF 8))⟩] [false]
     ·exact oc g_mv<|oc g_mv<|oc (g_pV 0 0 (U8 (xs++[128]++List.replicate k 0)) zs (U8 (tF 8)) Tryz.underlying118 hti hzv (by rw[hsz];rfl) rfl (fun f u kZ bZ=>NW_full htl (kZ.cv 1)) U8_mem (by rw[hsz,Zd,htl]) (by rw[hsz,Zd,hxl];omega) (by rw[hsz];omega) hc3 (by rw[hby];omega) (by omega))<|oc (g_sE 0 1 (PH u6.heap.size b3 ti.size (n+1+k+8) (U8 (xs++[128]++List.replicate k 0)++U8 (tF 8)))) on
     intro u7 v7_2 hv7_2 v7_3 hv7_3 HB7 sz7 K7
     simp only[sQ] at K7⊢
     clear K6 HB6
     obtain⟨b6,c6,zs6,rfl,hb6,hl6,hc6,hz6,Kv6⟩:=hv7_3 rfl
     rw[hsz] at hz6
     rw[<-U8_app,<-hpad.out] at Kv6
     have Kv6:Hid _:=Kv6
     have e6:(Value.slice (some ⟨b6,0,none⟩) (n+1+k+8) c6)= .slice (some ⟨b6,0,none⟩) N c6:=by rw[hN]
     clear hpad
     have e6:Hid _:=e6
     have hc6:N<=c6:=by omega
     have hz6:zs6.length=c6 -N:=by omega
     clear hN
     go_wp2
     refine bodyPost_ret (v:= .slice (some ⟨b6,0,none⟩) (n+1+k+8) c6) (by simp[results,Tryz.results175,go_sem]) rfl ⟨_,rfl,⟨b6,c6,zs6,(by first | rfl | exact e6.out),by omega,hl6,(by omega),by omega,Kv6.out⟩,HB7⟩
theorem cPadR (xs:List Nat) (v:Value) (w:World) (hin:IN w w.heap.size v xs) (hl:xs.length<=100000):
 Calls Tryz.prog 175 #[v] w fun e w'=> ∃v,e= .returned v/\PG w.heap.size 1 (pad xs).length (U8 (pad xs)) w' v/\Bw w w':=by
 have hin0:=hin
 obtain⟨sl,cap,gb,go,rfl,h1,h2,h3,h4⟩:=hin
 exact cPadR_core xs.length cap (nou xs.length) (pad xs).length sl xs (pad xs) (tlF xs.length) (fun j=>(xs.length*8)>>>(8*j)) w hl (nou_lt _) rfl (by rw[pad_len];omega) (fun k hk=>nou_56 _ k (by omega) hk) rfl (fun _=>rfl) (tlF_B _) rfl (fun j=>(shr_next _ j).symm) (fun j=>by
  have:(xs.length*8)>>>(8*j)<=xs.length*8:=by rw[Nat.shiftRight_eq_div_pow];exact Nat.div_le_self _ _
  omega) (pad_is xs) (fun u vs hB hv=>app_PZ hB.size (by omega) ((hin0.below hB).mono hB.size) hv)
end
end Go.Proofs.YtbbohmgjphpfeaaGreatDoor
