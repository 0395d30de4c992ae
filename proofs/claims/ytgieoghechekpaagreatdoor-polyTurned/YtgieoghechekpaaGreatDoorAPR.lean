import Derived.Test.YtgieoghechekpaaGreatDoorAP1
namespace Go.Proofs.YtgieoghechekpaaGreatDoor
set_option linter.unusedVariables false
set_option linter.unusedSimpArgs false
set_option maxRecDepth 100000
set_option maxHeartbeats 4000000
open Go.RowKit
abbrev PtE(x y:Int):List Value:=[.int .u64 (D0 x),.int .u64 (D1 x),.int .u64 (D2 x),.int .u64 (D3 x),.int .u64 (D0 y),.int .u64 (D1 y),.int .u64 (D2 y),.int .u64 (D3 y)]
abbrev PtX(x y:Int):Value:= .agg #[.int .u64 (D0 x),.int .u64 (D1 x),.int .u64 (D2 x),.int .u64 (D3 x),.int .u64 (D0 y),.int .u64 (D1 y),.int .u64 (D2 y),.int .u64 (D3 y)]
abbrev L0p:List Value:=[.int .u64 0,.int .u64 0,.int .u64 0,.int .u64 0,.int .u64 0,.int .u64 0,.int .u64 0,.int .u64 0]
abbrev BE(q:Int)(vx vd:Value):List Value:=[.int .u64 (D0 q),.int .u64 (D1 q),.int .u64 (D2 q),.int .u64 (D3 q),vx,vd]
abbrev BX(q:Int)(vx vd:Value):Value:= .agg #[.int .u64 (D0 q),.int .u64 (D1 q),.int .u64 (D2 q),.int .u64 (D3 q),vx,vd]
abbrev L0b:List Value:=[.int .u64 0,.int .u64 0,.int .u64 0,.int .u64 0,.slice none 0 0,.slice none 0 0]
theorem X8(w:World):(Instr.alloc 41 true (.tuple #[])).run Tryz.prog w= .ok (.pointer (some ⟨w.heap.size,0,none⟩)) (w.alloc (.cells L0p.toArray 41)):=by kernel_rfl
theorem Zh:(Tryz.prog.info? 41).map (·.size)=some 8:=by kernel_rfl
theorem Zt:(Tryz.prog.info? 76).map (·.size)=some 6:=by kernel_rfl
theorem fdP0(b o:Nat)(w:World):(Instr.fieldAt 41 (.pointer (some ⟨b,o,none⟩)) 0).run Tryz.prog w= .ok (.pointer (some ⟨b,o,none⟩)) w:=by go_simp
theorem fdP1(b o:Nat)(w:World):(Instr.fieldAt 41 (.pointer (some ⟨b,o,none⟩)) 1).run Tryz.prog w= .ok (.pointer (some ⟨b,o+4,none⟩)) w:=by go_simp
theorem fdB0(b:Nat)(w:World):(Instr.fieldAt 76 (.pointer (some ⟨b,0,none⟩)) 0).run Tryz.prog w= .ok (.pointer (some ⟨b,0,none⟩)) w:=by go_simp
theorem fdB1(b:Nat)(w:World):(Instr.fieldAt 76 (.pointer (some ⟨b,0,none⟩)) 1).run Tryz.prog w= .ok (.pointer (some ⟨b,4,none⟩)) w:=by go_simp
theorem fdB2(b:Nat)(w:World):(Instr.fieldAt 76 (.pointer (some ⟨b,0,none⟩)) 2).run Tryz.prog w= .ok (.pointer (some ⟨b,5,none⟩)) w:=by go_simp
theorem lSN{b c n cap:Nat}{sl:Option Addr}(w:World)(h:w.cell? ⟨b,c,none⟩=some (.slice sl n cap)):(Instr.loadAt 25 (.pointer (some ⟨b,c,none⟩))).run Tryz.prog w= .ok (.slice sl n cap) w:=by go_simp
theorem bdP(x y:Int)(w:World):(Instr.build 41 [(0,NV x),(1,NV y)].toArray).run Tryz.prog w= .ok (PtX x y) w:=by kernel_rfl
theorem bdB(q:Int)(s1 s2:Option Addr)(n1 c1 n2 c2:Nat)(w:World):(Instr.build 76 [(0,NV q),(1,.slice s1 n1 c1),(2,.slice s2 n2 c2)].toArray).run Tryz.prog w= .ok (BX q (.slice s1 n1 c1) (.slice s2 n2 c2)) w:=by kernel_rfl
theorem ixZ(g n cap j:Nat)(h:j<n)(w:World):(Instr.indexAt 25 (.slice (some ⟨g,0,none⟩) n cap) (.int .i64 j)).run Tryz.prog w= .ok (.pointer (some ⟨g,4*j,none⟩)) w:=by
 have:=ixS g 0 n cap j h w
 rwa [Nat.zero_add] at this
theorem ixP(g o n cap j:Nat)(h:j<n)(w:World):(Instr.indexAt 31 (.slice (some ⟨g,o,none⟩) n cap) (.int .i64 j)).run Tryz.prog w= .ok (.pointer (some ⟨g,o+8*j,none⟩)) w:=by
 have hj:(j:Int)<n:=by omega
 go_simp
 all_goals first | omega | (simp[Addr.add];omega) | simp[Addr.add,Nat.mul_comm]
def rowN(vs:List Int)(k:Nat):List Int:=vs.take k++List.replicate (vs.length -k) 0
theorem rowN_0(vs:List Int):rowN vs 0=List.replicate vs.length 0:=by simp[rowN]
theorem rowN_end(vs:List Int):rowN vs vs.length=vs:=by simp[rowN]
theorem Xd{vs:List Int}{k:Nat}(h:k<vs.length):flN (rowN vs k)=flN (vs.take k)++LN 0++flN (List.replicate (vs.length -(k+1)) 0):=by
 rw[rowN,show vs.length -k=(vs.length -(k+1))+1 by omega,List.replicate_succ,Y1,flN,List.append_assoc]
theorem rowN_next{vs:List Int}{k:Nat}(h:k<vs.length):flN (rowN vs (k+1))=flN (vs.take k)++LN (vs.getD k 0)++flN (List.replicate (vs.length -(k+1)) 0):=by
 rw[rowN,Y1,List.take_add_one,List.getElem?_eq_getElem h,Y1]
 simp[flN,List.getElem?_eq_getElem h]
theorem rowN_len{vs:List Int}{k:Nat}(h:k<vs.length):(flN (vs.take k)).length=4*k:=by
 rw[flN_len,List.length_take];omega
theorem infoNt:(Tryz.prog.info? 24).map (fun i=>(i.zero,i.size,i.bytes))=some (some (A4 0 0 0 0),4,32):=by kernel_rfl
theorem infoPt:(Tryz.prog.info? 41).map (fun i=>(i.zero,i.size,i.bytes))=some (some (.agg #[.int .u64 0,.int .u64 0,.int .u64 0,.int .u64 0,.int .u64 0,.int .u64 0,.int .u64 0,.int .u64 0]),8,64):=by kernel_rfl
theorem flN_zero: ∀n,flN (List.replicate n 0)=List.replicate (4*n) (.int .u64 0)
 | 0=>rfl
 | n+1=>by
  rw[List.replicate_succ,flN,flN_zero n,show 4*(n+1)=4*n+1+1+1+1 by omega,List.replicate_succ,List.replicate_succ,List.replicate_succ,List.replicate_succ]
  have h0:D0 0=0:=by simp[D0]
  have h1:D1 0=0:=by simp[D1]
  have h2:D2 0=0:=by simp[D2]
  have h3:D3 0=0:=by simp[D3]
  rw[LN,h0,h1,h2,h3];rfl
theorem mkNt(n:Nat)(hn:n<=1000)(w:World):(Instr.makeSlice 25 (.int .i64 (n:Int)) (.int .i64 (n:Int))).run Tryz.prog w= .ok (.slice (some ⟨w.heap.size,0,none⟩) n n) (w.alloc (.cells (flN (List.replicate n 0)).toArray 24)):=by
 obtain⟨i,hi,hi2⟩:=Option.map_eq_some_iff.1 infoNt
 simp only[Prod.mk.injEq] at hi2
 obtain⟨hz,hs,hb⟩:=hi2
 have:=run_makeSlice (P:=Tryz.prog) w 25 24 i (A4 0 0 0 0) Tryz.underlying25 hi hz .i64 .i64 n n (by omega) (by omega) (by rw[hs];omega) (by rw[hb];omega) (by omega)
 rw[this,hs,flN_zero]
 simp only[Int.toNat_natCast]
 congr 3
 apply Array.ext'
 simp[madeCells,Value.cells,A4]
 apply List.ext_getElem
 ·simp;omega
 ·intro j h1 h2
  simp
  have:j%4<4:=Nat.mod_lt _ (by omega)
  generalize j%4=m at *
  match m,this with
  | 0,_=>rfl
  | 1,_=>rfl
  | 2,_=>rfl
  | 3,_=>rfl
theorem mkPt(n:Nat)(hn:n<=1000)(w:World):(Instr.makeSlice 31 (.int .i64 (n:Int)) (.int .i64 (n:Int))).run Tryz.prog w= .ok (.slice (some ⟨w.heap.size,0,none⟩) n n) (w.alloc (.cells (flN (List.replicate (2*n) 0)).toArray 41)):=by
 obtain⟨i,hi,hi2⟩:=Option.map_eq_some_iff.1 infoPt
 simp only[Prod.mk.injEq] at hi2
 obtain⟨hz,hs,hb⟩:=hi2
 have:=run_makeSlice (P:=Tryz.prog) w 31 41 i _ Tryz.underlying31 hi hz .i64 .i64 n n (by omega) (by omega) (by rw[hs];omega) (by rw[hb];omega) (by omega)
 rw[this,hs,flN_zero]
 simp only[Int.toNat_natCast]
 congr 3
 apply Array.ext'
 simp[madeCells,Value.cells]
 apply List.ext_getElem
 ·simp;omega
 ·intro j h1 h2
  simp
  have:j%8<8:=Nat.mod_lt _ (by omega)
  generalize j%8=m at *
  match m,this with
  | 0,_=>rfl
  | 1,_=>rfl
  | 2,_=>rfl
  | 3,_=>rfl
  | 4,_=>rfl
  | 5,_=>rfl
  | 6,_=>rfl
  | 7,_=>rfl
def PRw(lo:Nat)(ns:List Int)(u:World)(v:Value):Prop:= ∃b,v= .slice (some ⟨b,0,none⟩) ns.length ns.length/\lo<=b/\b<u.heap.size/\CV u b (flN ns)
theorem PRw.stab{lo:Nat}{ns:List Int}{u u2:World}{x:Value}(hB:Bw u u2)(h:PRw lo ns u x):PRw lo ns u2 x:=by
 obtain⟨b,e,h1,h2,h3⟩:=h
 exact⟨b,e,h1,Nat.lt_of_lt_of_le h2 hB.size,h3.below hB h2⟩
def flt:List (Int×Int)->List Int
 | []=>[]
 | p::l=>p.1::p.2::flt l
theorem flt_len: ∀l,(flt l).length=2*l.length
 | []=>rfl
 | p::l=>by rw[flt,List.length_cons,List.length_cons,flt_len l,List.length_cons];omega
theorem flt_app: ∀a b,flt (a++b)=flt a++flt b
 | [],b=>rfl
 | p::a,b=>by simp[flt,flt_app a b]
def PtL(u:World)(v:Value)(ps:List (Int×Int)):Prop:= ∃sl gb go cap,v= .slice sl ps.length cap/\ps.length<=cap/\(sl=none->cap=0)/\(ps=[]\/sl=some ⟨gb,go,none⟩)/\(ps.length=0\/gb<u.heap.size)/\SN u gb go (flt ps)
theorem PtL.up{w u:World}{v:Value}{ps:List (Int×Int)}(h:PtL w v ps)(hB:Bw w u):PtL u v ps:=by
 obtain⟨sl,gb,go,cap,h1,h2,h3,h4,h5,h6⟩:=h
 refine⟨sl,gb,go,cap,h1,h2,h3,h4,h5.imp id fun e=>Nat.lt_of_lt_of_le e hB.size,?_⟩
 rcases h5 with h5 | h5
 ·exact SN.empty (by rw[flt_len];omega)
 ·exact h6.below hB h5
def PRp(lo:Nat)(ps:List (Int×Int))(u:World)(v:Value):Prop:= ∃b,v= .slice (some ⟨b,0,none⟩) ps.length ps.length/\lo<=b/\b<u.heap.size/\CV u b (flN (flt ps))
theorem PRp.stab{lo:Nat}{ps:List (Int×Int)}{u u2:World}{x:Value}(hB:Bw u u2)(h:PRp lo ps u x):PRp lo ps u2 x:=by
 obtain⟨b,e,h1,h2,h3⟩:=h
 exact⟨b,e,h1,Nat.lt_of_lt_of_le h2 hB.size,h3.below hB h2⟩
theorem PRp.pl{lo:Nat}{ps:List (Int×Int)}{u:World}{v:Value}(h:PRp lo ps u v):PtL u v ps:=by
 obtain⟨b,e,h1,h2,h3⟩:=h
 exact⟨_,b,0,_,e,Nat.le_refl _,(by simp),.inr rfl,.inr h2,fun j v hj=>by rw[Nat.zero_add];exact(h3 j v hj).1⟩
theorem flt_at: ∀(ps:List (Int×Int)) (j:Nat),j<ps.length->flN (flt ps)=flN (flt (ps.take j))++PtE (ps.getD j (0,0)).1 (ps.getD j (0,0)).2++flN (flt (ps.drop (j+1)))
 | [],j,h=>by simp at h
 | p::l,0,h=>by simp[flt,flN]
 | p::l,j+1,h=>by
  have:=flt_at l j (by simpa using h)
  simp only[List.take_succ_cons,List.drop_succ_cons,List.getD_cons_succ,flt,flN,this,List.append_assoc]
theorem flt_pre{ps:List (Int×Int)}{j:Nat}(h:j<=ps.length):(flN (flt (ps.take j))).length=8*j:=by
 rw[flN_len,flt_len,List.length_take];omega
theorem mid_at{xs ys zs:List Value}{c:Nat}(h:xs.length=c): ∀j v,ys[j]?=some v->(xs++ys++zs)[c+j]?=some v:=fun j v hj=>by
 have hl:j<ys.length:=(List.getElem?_eq_some_iff.1 hj).1
 rw[List.append_assoc,List.getElem?_append_right (by omega),<-h,Nat.add_sub_cancel_left,List.getElem?_append_left hl];exact hj
theorem SN.pt{w:World}{g o:Nat}{ps:List (Int×Int)}(h:SN w g o (flt ps))(j:Nat)(hj:j<ps.length):w.rangeAt g (o+8*j) (PtE (ps.getD j (0,0)).1 (ps.getD j (0,0)).2):=fun c v hc=>by
 have:=h (8*j+c) v (by rw[flt_at ps j hj];exact mid_at (flt_pre (by omega)) c v hc)
 rwa [<-Nat.add_assoc] at this
theorem SN.ptY{w:World}{g o:Nat}{ps:List (Int×Int)}(h:SN w g o (flt ps))(j:Nat)(hj:j<ps.length):w.rangeAt g (o+8*j+4) (LN (ps.getD j (0,0)).2):=fun c v hc=>by
 have:=h.pt j hj (4+c) v (by
  match c,hc with
  | 0,hc=>exact hc
  | 1,hc=>exact hc
  | 2,hc=>exact hc
  | 3,hc=>exact hc)
 rwa [<-Nat.add_assoc] at this
end Go.Proofs.YtgieoghechekpaaGreatDoor
