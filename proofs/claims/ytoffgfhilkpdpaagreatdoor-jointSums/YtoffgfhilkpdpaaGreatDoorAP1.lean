import Derived.Test.YtoffgfhilkpdpaaGreatDoorMQ
import Derived.Stop.Asserts
namespace Go.Proofs.YtoffgfhilkpdpaaGreatDoor
set_option linter.unusedVariables false
set_option linter.unusedSimpArgs false
set_option maxRecDepth 100000
set_option maxHeartbeats 4000000
section
open Go.RowKit
def hoN(q x:Int)(ns:List Int):Nat->Int
 | 0=>0
 | i+1=>((hoN q x ns i*x)%q+ns.getD (ns.length -1 -i) 0)%q
def dsN(q:Int)(ns:List Int)(i:Nat):Nat->Int
 | 0=>1
 | j+1=>if j=i then dsN q ns i j else (dsN q ns i j*((ns.getD i 0 -ns.getD j 0)%q))%q
end
section
section
section ring
variable {R:Type} [Lean.Grind.CommRing R]
def pP(t:R):List (R×R)->R
 | []=>1
 | p::l=>(t -p.1)*pP t l
def evPR:List R->R->R
 | [],_=>0
 | c::l,x=>c+x*evPR l x
end ring
end
end
section
open Go.RowKit
abbrev PtE(x y:Int):List Value:=[iU (D0 x),iU (D1 x),iU (D2 x),iU (D3 x),iU (D0 y),iU (D1 y),iU (D2 y),iU (D3 y)]
abbrev PtX(x y:Int):Value:= .agg #[iU (D0 x),iU (D1 x),iU (D2 x),iU (D3 x),iU (D0 y),iU (D1 y),iU (D2 y),iU (D3 y)]
theorem lSN{b c n cap:Nat}{sl:Option Addr}(w:World)(h:w.cell? ⟨b,c,none⟩=some (.slice sl n cap)):(Instr.loadAt 31 (.pointer (some ⟨b,c,none⟩))).run Tryz.prog w= .ok (.slice sl n cap) w:=by go_simp
theorem ixZ(g n cap j:Nat)(h:j<n)(w:World):(Instr.indexAt 31 (.slice (some ⟨g,0,none⟩) n cap) (iI j)).run Tryz.prog w= .ok (.pointer (some ⟨g,4*j,none⟩)) w:=by
 have:=ixS g 0 n cap j h w
 rwa [Nat.zero_add] at this
def rowN(vs:List Int)(k:Nat):List Int:=vs.take k++List.replicate (vs.length -k) 0
theorem rowN_0(vs:List Int):rowN vs 0=List.replicate vs.length 0:=by simp[rowN]
theorem rowN_end(vs:List Int):rowN vs vs.length=vs:=by simp[rowN]
theorem W5{vs:List Int}{k:Nat}(h:k<vs.length):flN (rowN vs k)=flN (vs.take k)++LN 0++flN (List.replicate (vs.length -(k+1)) 0):=by
 rw[rowN,show vs.length -k=(vs.length -(k+1))+1 by omega,List.replicate_succ,Xn,flN,List.append_assoc]
theorem V3{vs:List Int}{k:Nat}(h:k<vs.length):flN (rowN vs (k+1))=flN (vs.take k)++LN (vs.getD k 0)++flN (List.replicate (vs.length -(k+1)) 0):=by
 rw[rowN,Xn,List.take_add_one,List.getElem?_eq_getElem h,Xn]
 simp[flN,List.getElem?_eq_getElem h]
theorem rowN_len{vs:List Int}{k:Nat}(h:k<vs.length):(flN (vs.take k)).length=4*k:=by
 rw[Xf,List.length_take];omega
theorem infoNt:(Tryz.prog.info? 24).map (fun i=>(i.zero,i.size,i.bytes))=some (some (A4 0 0 0 0),4,32):=by kernel_rfl
theorem flN_zero: ∀n,flN (List.replicate n 0)=List.replicate (4*n) (iU 0)
 | 0=>rfl
 | n+1=>by
  rw[List.replicate_succ,flN,flN_zero n,show 4*(n+1)=4*n+1+1+1+1 by omega,List.replicate_succ,List.replicate_succ,List.replicate_succ,List.replicate_succ]
  have h0:D0 0=0:=by simp[D0]
  have h1:D1 0=0:=by simp[D1]
  have h2:D2 0=0:=by simp[D2]
  have h3:D3 0=0:=by simp[D3]
  rw[LN,h0,h1,h2,h3];rfl
theorem mkNt(n:Nat)(hn:n<=1000)(w:World):(Instr.makeSlice 31 (iI (n:Int)) (iI (n:Int))).run Tryz.prog w= .ok (.slice (some ⟨w.heap.size,0,none⟩) n n) (w.alloc (.cells (flN (List.replicate n 0)).toArray 24)):=by
 obtain⟨i,hi,hi2⟩:=Option.map_eq_some_iff.1 infoNt
 simp only[Prod.mk.injEq] at hi2
 obtain⟨hz,hs,hb⟩:=hi2
 have:=run_makeSlice (P:=Tryz.prog) w 31 24 i (A4 0 0 0 0) Tryz.underlying31 hi hz .i64 .i64 n n Z1 Z1 (by rw[hs];omega) (by rw[hb];omega) Z1
 rw[this,hs,flN_zero]
 simp only[Int.toNat_natCast]
 congr 3
 apply Array.ext'
 simp[madeCells,Value.cells,A4]
 apply List.ext_getElem
 ·simp;omega
 ·intro j h1 h2
  simp
  have:j%4<4:=Nat.mod_lt _ Z1
  generalize j%4=m at *
  match m,this with
  | 0,_=>rfl
  | 1,_=>rfl
  | 2,_=>rfl
  | 3,_=>rfl
def PRw(lo:Nat)(ns:List Int)(u:World)(v:Value):Prop:= ∃b,v= .slice (some ⟨b,0,none⟩) ns.length ns.length/\lo<=b/\b<u.heap.size/\CV u b (flN ns)
theorem PRw.stab{lo:Nat}{ns:List Int}{u u2:World}{x:Value}(hB:Bw u u2)(h:PRw lo ns u x):PRw lo ns u2 x:=by
 obtain⟨b,e,h1,h2,h3⟩:=h
 exact⟨b,e,h1,Nat.lt_of_lt_of_le h2 hB.size,h3.below hB h2⟩
theorem PRw.nl{lo:Nat}{ns:List Int}{u:World}{v:Value}(h:PRw lo ns u v):NL u v ns:=by
 obtain⟨b,e,h1,h2,h3⟩:=h
 exact⟨_,b,0,_,e,Nat.le_refl _,(by simp),.inr rfl,.inr h2,fun j v hj=>by rw[Nat.zero_add];exact(h3 j v hj).1⟩
def flt:List (Int×Int)->List Int
 | []=>[]
 | p::l=>p.1::p.2::flt l
theorem Us: ∀l,(flt l).length=2*l.length
 | []=>rfl
 | p::l=>by rw[flt,List.length_cons,List.length_cons,Us l,List.length_cons];omega
def PtL(u:World)(v:Value)(ps:List (Int×Int)):Prop:= ∃sl gb go cap,v= .slice sl ps.length cap/\ps.length<=cap/\(sl=none->cap=0)/\(ps=[]\/sl=some ⟨gb,go,none⟩)/\(ps.length=0\/gb<u.heap.size)/\SN u gb go (flt ps)
theorem PtL.up{w u:World}{v:Value}{ps:List (Int×Int)}(h:PtL w v ps)(hB:Bw w u):PtL u v ps:=by
 obtain⟨sl,gb,go,cap,h1,h2,h3,h4,h5,h6⟩:=h
 refine⟨sl,gb,go,cap,h1,h2,h3,h4,h5.imp id fun e=>Nat.lt_of_lt_of_le e hB.size,?_⟩
 rcases h5 with h5 | h5
 ·exact SN.empty (by rw[Us];omega)
 ·exact h6.below hB h5
def PRp(lo:Nat)(ps:List (Int×Int))(u:World)(v:Value):Prop:= ∃b,v= .slice (some ⟨b,0,none⟩) ps.length ps.length/\lo<=b/\b<u.heap.size/\CV u b (flN (flt ps))
theorem PRp.stab{lo:Nat}{ps:List (Int×Int)}{u u2:World}{x:Value}(hB:Bw u u2)(h:PRp lo ps u x):PRp lo ps u2 x:=by
 obtain⟨b,e,h1,h2,h3⟩:=h
 exact⟨b,e,h1,Nat.lt_of_lt_of_le h2 hB.size,h3.below hB h2⟩
theorem PRp.pl{lo:Nat}{ps:List (Int×Int)}{u:World}{v:Value}(h:PRp lo ps u v):PtL u v ps:=by
 obtain⟨b,e,h1,h2,h3⟩:=h
 exact⟨_,b,0,_,e,Nat.le_refl _,(by simp),.inr rfl,.inr h2,fun j v hj=>by rw[Nat.zero_add];exact(h3 j v hj).1⟩
theorem flt_at: ∀(ps:List (Int×Int)) (j:Nat),j<ps.length->flN (flt ps)=flN (flt (ps.take j))++PtE (ps.getD j (0,0)).1 (ps.getD j (0,0)).2++flN (flt (ps.drop (j+1)))
 | [],j,h=>by simp at h
 | p::l,0,h=>by simp[flt,flN]
 | p::l,j+1,h=>by
  have:=flt_at l j (by simpa using h)
  simp only[List.take_succ_cons,List.drop_succ_cons,List.getD_cons_succ,flt,flN,this,List.append_assoc]
theorem flt_pre{ps:List (Int×Int)}{j:Nat}(h:j<=ps.length):(flN (flt (ps.take j))).length=8*j:=by
 rw[Xf,Us,List.length_take];omega
theorem mid_at{xs ys zs:List Value}{c:Nat}(h:xs.length=c): ∀j v,ys[j]?=some v->(xs++ys++zs)[c+j]?=some v:=fun j v hj=>by
 have hl:j<ys.length:=(List.getElem?_eq_some_iff.1 hj).1
 rw[List.append_assoc,List.getElem?_append_right Z1,<-h,Nat.add_sub_cancel_left,List.getElem?_append_left hl];exact hj
theorem SN.pt{w:World}{g o:Nat}{ps:List (Int×Int)}(h:SN w g o (flt ps))(j:Nat)(hj:j<ps.length):w.rangeAt g (o+8*j) (PtE (ps.getD j (0,0)).1 (ps.getD j (0,0)).2):=fun c v hc=>by
 have:=h (8*j+c) v (by rw[flt_at ps j hj];exact mid_at (flt_pre Z1) c v hc)
 rwa [<-Nat.add_assoc] at this
theorem SN.ptY{w:World}{g o:Nat}{ps:List (Int×Int)}(h:SN w g o (flt ps))(j:Nat)(hj:j<ps.length):w.rangeAt g (o+8*j+4) (LN (ps.getD j (0,0)).2):=fun c v hc=>by
 have:=h.pt j hj (4+c) v (by
  match c,hc with
  | 0,hc=>exact hc
  | 1,hc=>exact hc
  | 2,hc=>exact hc
  | 3,hc=>exact hc)
 rwa [<-Nat.add_assoc] at this
section
section
variable {R:Rg} {P:Program} {Q:Exit->Act->World->Prop} {ops:Array Oper} {i:Nat} {o:Oper} {a:Act} {u:World}
theorem wp_mS{K:Act->World->Prop}{T:TypeId}{x y:Operand}{vx vy v:Value}{w':World}(ho:o.op= .makeSlice T x y)(hx:a.eval x=vx)(hy:a.eval y=vy)(hr:(Instr.makeSlice T vx vy).run P u= .ok v w')(hk:K (a.put o.dst v) w'):o.wp P a u K Q:=
 Yg (by
  unfold execOp;rw[ho]
  show Sem.run P (do pure (Next.value (<-Instr.makeSlice T (a.eval x) (a.eval y)))) u=_
  rw[hx,hy,Sem.run_bind,hr,Result.andThen_ok,Sem.run_pure]) hk
theorem g_mS(n:Nat)(p:World->Value->Prop)(m:Nat)(cs:List Value){T e:TypeId}{x y:Operand}{vx vy:Value}(hr: ∀w,(Instr.makeSlice T vx vy).run P w= .ok (.slice (some ⟨w.heap.size,0,none⟩) m m) (w.alloc (.cells cs.toArray e)))(hp: ∀u:World,R.base<=u.heap.size->p (u.alloc (.cells cs.toArray e)) (.slice (some ⟨u.heap.size,0,none⟩) m m))(hop:o.op= .makeSlice T x y:=by rfl)(hx:evR R i o x=some vx:=by rfl)(hy:evR R i o y=some vy:=by rfl)(hn:(R.E[n]?).map (·.p)=some p:=by rfl)(hc:R.chkE ops n i o=true:=by rfl):OG R P ops Q i o:=fun f t u a X=>by
 obtain⟨d,q,hd,hq,_,_,_,_,_,_,_,_,hw⟩:=Zm hc
 exact X.go hw fun K hK=>wp_mS hop (X.ev hx) (X.ev hy) (hr u) (hK _ _ (X.putE hc (fun q hq=>by rw[hq] at hn;cases hn;exact hp u X.I.1.sz) (Z5 (Zf u) _)))
end
def PRz(lo n:Nat)(u:World)(v:Value):Prop:= ∃b,v= .slice (some ⟨b,0,none⟩) n n/\lo<=b/\b<u.heap.size/\CV u b (flN (List.replicate n 0))
theorem PRz.stab{lo n:Nat}{u u2:World}{x:Value}(hB:Bw u u2)(h:PRz lo n u x):PRz lo n u2 x:=by
 obtain⟨b,e,h1,h2,h3⟩:=h
 exact⟨b,e,h1,Nat.lt_of_lt_of_le h2 hB.size,h3.below hB h2⟩
theorem PRz.new{lo n:Nat}{T:TypeId}(u:World)(h:lo<=u.heap.size):PRz lo n (u.alloc (.cells (flN (List.replicate n 0)).toArray T)) (.slice (some ⟨u.heap.size,0,none⟩) n n):=
 ⟨_,rfl,h,by simp,CV.new u _ _⟩
end
def ahN(q t:Int)(ns:List Int):Nat->Int
 | 0=>1
 | i+1=>(ahN q t ns i*((t -ns.getD i 0)%q))%q
def bhN(q t:Int)(ns:List Int):Nat->Int
 | 0=>1
 | i+1=>(bhN q t ns i*((t -ns.getD (ns.length -1 -i) 0)%q))%q
theorem PRw.lo{a b:Nat}{ns:List Int}{u:World}{v:Value}(h:PRw b ns u v)(hab:a<=b):PRw a ns u v:=by
 obtain⟨x,e,h1,h2,h3⟩:=h
 exact⟨x,e,Nat.le_trans hab h1,h2,h3⟩
def smN(q:Int)(fs:List Int)(ps:List (Int×Int)):Nat->Int
 | 0=>0
 | k+1=>(smN q fs ps k+(fs.getD k 0*(ps.getD k (0,0)).2)%q)%q
theorem smN_In{q:Int}{fs:List Int}{ps:List (Int×Int)}(hq:In q)(hq0:q≠0): ∀i,In (smN q fs ps i)
 | 0=>In_0
 | i+1=>Zt hq hq0
end
section
open Go.RowKit Go.Extern.Stop Go.Stop Go.Extern
theorem cUnJ(b:Nat)(v:Value)(w:World)(h:w.cell? ⟨b,0,none⟩=some v):Calls Tryz.prog 196 #[.pointer (some ⟨b,0,none⟩)] w fun e w'=>e= .returned v/\w'=w:=by
 go_enter Tryz.func196,Tryz.ntmps196
 go_wp2
 exact bodyPost_ret (v:=v) (by simp[results,Tryz.results196,go_sem]) rfl ⟨rfl,rfl⟩
theorem Tryz.noIsE(v:Value)(xT:TypeId)(w:World):(Instr.typeAssert (.iface 34 v) xT 141 true).run Tryz.prog w= .ok (.tuple #[.nilIface,.bool false]) w:=run_typeAssert_lacksB Tryz.underlying141 (by kernel_rfl) (by kernel_rfl) v xT w
theorem Tryz.noIsJ(v:Value)(xT:TypeId)(w:World):(Instr.typeAssert (.iface 94 v) xT 141 true).run Tryz.prog w= .ok (.tuple #[.nilIface,.bool false]) w:=run_typeAssert_lacksB Tryz.underlying141 (by kernel_rfl) (by kernel_rfl) v xT w
theorem Tryz.noUnE(v:Value)(xT:TypeId)(w:World):(Instr.typeAssert (.iface 34 v) xT 144 true).run Tryz.prog w= .ok (.tuple #[.nilIface,.bool false]) w:=run_typeAssert_lacksB Tryz.underlying144 (by kernel_rfl) (by kernel_rfl) v xT w
theorem Tryz.noUsE(v:Value)(xT:TypeId)(w:World):(Instr.typeAssert (.iface 34 v) xT 146 true).run Tryz.prog w= .ok (.tuple #[.nilIface,.bool false]) w:=run_typeAssert_lacksB Tryz.underlying146 (by kernel_rfl) (by kernel_rfl) v xT w
theorem Tryz.noUnJ(v:Value)(xT:TypeId)(w:World):(Instr.typeAssert (.iface 94 v) xT 144 true).run Tryz.prog w= .ok (.tuple #[.nilIface,.bool false]) w:=run_typeAssert_lacksB Tryz.underlying144 (by kernel_rfl) (by kernel_rfl) v xT w
theorem Tryz.usJ(v:Value)(xT:TypeId)(w:World):(Instr.typeAssert (.iface 94 v) xT 146 true).run Tryz.prog w= .ok (.tuple #[.iface 94 v,.bool true]) w:=run_typeAssert_hasB Tryz.underlying146 (by kernel_rfl) v xT w
theorem wrap1(i n:Nat)(h:i<n)(hn:n<=1000000):IntKind.i64.wrap ((i:Int)+1)=((i+1:Nat):Int):=by rw[IntKind.wrap_i64];omega
theorem infoE:(Tryz.prog.info? 34).map (·.comparable)=some true:=by kernel_rfl
theorem eqlE(a b:Int)(w:World):(binOp .eql 49 (.iface 34 (iI a)) (.iface 34 (iI b))).run Tryz.prog w= .ok (.bool (a==b)) w:=by
 obtain⟨i,hi,hc⟩:=Option.map_eq_some_iff.1 infoE
 have h1:=run_underlying (w:=w) Tryz.underlying49
 have h2:=run_underlying (w:=w) Tryz.underlying34
 have h3: ∀d,(Op.equalIn (d+2) 49 (.iface 34 (iI a)) (.iface 34 (iI b))).run Tryz.prog w= .ok (a==b) w:=fun d=>by
  simp[Op.equalIn,h1,h2,typeInfo,hi,hc]
 simp only[binOp]
 simp[Op.equal,Op.maxDepth,h3 9998]
end
section
open Go.RowKit Go.Extern.Stop Go.Stop Go.Extern Go.Extern.Rtype
theorem Tryz.isTypeOf(v:Value)(w:World):(Extern.ReflectliteType.typeOf #[.iface 34 v]).run Tryz.prog w= .ok (.iface 139 (.agg #[.pointer (some ⟨6,34,none⟩)])) w:=by kernel_rfl
def cmpX:Array Value->Sem Value:=Extern.ReflectliteType.method fun t=>do noPackHeld "Comparable" t;pure (.bool (<-typeInfo t).comparable)
theorem Tryz.isComparable(w:World):(cmpX #[.agg #[.pointer (some ⟨6,34,none⟩)]]).run Tryz.prog w= .ok (.bool true) w:=by kernel_rfl
end
end Go.Proofs.YtoffgfhilkpdpaaGreatDoor
