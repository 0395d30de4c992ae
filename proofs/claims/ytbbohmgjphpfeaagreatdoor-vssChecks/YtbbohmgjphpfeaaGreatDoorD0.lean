import Derived.Test.YtbbohmgjphpfeaaGreatDoorW1
namespace Go.Proofs.YtbbohmgjphpfeaaGreatDoor
set_option linter.unusedVariables false
set_option linter.unusedSimpArgs false
set_option maxRecDepth 100000
set_option maxHeartbeats 4000000
section
open Go.RowKit
section
theorem CL.cells {w:World} {n b:Nat} {l:List Int} (h:CL w n l) (hn:n≠b) (o:Nat) (vs:List Value):CL (w.setCells b o vs) n l:=fun j x hj=>by
 rw[World.frozen?_setCells,World.cell?_setCells_out b vs o w _ (fun e=>absurd e hn)]
 exact h j x hj
theorem CL.cells_same {w:World} {b:Nat} {vs:List Value} {l:List Int} (h:w.there b 0 vs.length) (hv:vs=l.map (Value.int .u64)):CL (w.setCells b 0 vs) b l:=fun j x hj=>by
 subst hv
 have hl:j<l.length:=(List.getElem?_eq_some_iff.1 hj).1
 have hl':j<(l.map (Value.int .u64)).length:=by simpa using hl
 rw[World.frozen?_setCells]
 have h1:=World.cell?_setCells_in b (l.map (Value.int .u64)) 0 w (fun i hi=>(h i hi).1) j hl'
 have h2:=(h j hl').2
 simp only[Nat.zero_add] at h1 h2
 refine⟨?_,h2⟩
 rw[h1]
 obtain⟨_,rfl⟩:=List.getElem?_eq_some_iff.1 hj
 simp
theorem there_below {w w':World} {m n k:Nat} (h:w.there n 0 k) (hb:Below m w w') (hn:n<m):w'.there n 0 k:=fun j hj=>by
 rw[hb.cell (p:=⟨n,0+j,none⟩) hn,hb.frozen (p:=⟨n,0+j,none⟩) hn];exact h j hj
theorem there_alloc (u:World) (cs:Array Value) (t:TypeId) (n:Nat) (hn:n=cs.size):(u.alloc (.cells cs t)).there u.heap.size 0 n:=fun j hj=>by
 have hf:(u.alloc (.cells cs t)).frozen? ⟨u.heap.size,0+j,none⟩=false:=by simp[go_sem]
 refine⟨?_,hf⟩
 rw[cell_of_row _ u.heap.size (0+j) _ t (0,0) (heap_alloc_new _ _)]
 simp;omega
theorem Vd (l:List Int): ∀v∈l.map (Value.int .u64),v.oneCell'=true:=fun v hv=>by
 obtain⟨x,_,rfl⟩:=List.mem_map.1 hv;rfl
theorem copy_words {P:Program} (W:World) (t e:TypeId) (bs os cs bd n cd:Nat) (ls ld lr:List Int) (hS:CL W bs ls) (hD:CL W bd ld) (hn:ld.length=n) (hl:lr.length=n) (hr: ∀j,j<n->ls[os+j]?=lr[j]?) (hu:P.underlying t=some (.slice e)) (hz:(P.info? e).map (·.size)=some 1):
 (Builtin.copy_ #[t,t] 3 #[.slice (some ⟨bd,0,none⟩) n cd,.slice (some ⟨bs,os,none⟩) n cs]).run P W= .ok (goInt n) (W.setCells bd 0 (lr.map (Value.int .u64))):=by
 have h:=run_copy_cells (P:=P) W t t 3 e bd 0 n cd ⟨bs,os,none⟩ n cs (lr.map (Value.int .u64)) hu hz (by rw[List.length_map,hl];exact(Nat.min_self n).symm) (fun j v hj=>?_) (fun j hj=>?_) (fun j hj=>?_) (Vd lr)
 ·rw[h,List.length_map,hl]
 ·rw[List.getElem?_map] at hj
  obtain⟨x,hx,rfl⟩:=Option.map_eq_some_iff.1 hj
  have hjn:j<n:=by rw[<-hl];exact(List.getElem?_eq_some_iff.1 hx).1
  have hc:=(hS (os+j) x (by rw[hr j hjn];exact hx)).1
  by_cases h0:j=0
  ·subst h0;simpa [Addr.add] using hc
  ·simpa [Addr.add,h0] using hc
 ·have hjn:j<ld.length:=by rw[hn,<-hl];simpa using hj
  rw[Nat.zero_add,(hD j _ (List.getElem?_eq_getElem hjn)).1];rfl
 ·have hjn:j<ld.length:=by rw[hn,<-hl];simpa using hj
  rw[Nat.zero_add];exact(hD j _ (List.getElem?_eq_getElem hjn)).2
theorem CL.there {w:World} {b:Nat} {l:List Int} (h:CL w b l):w.there b 0 l.length:=fun j hj=>by
 have:=h j _ (List.getElem?_eq_getElem hj)
 rw[Nat.zero_add,this.1];exact⟨rfl,this.2⟩
structure F4 (N0 N1 N2 N3:Nat) (w:World) (X M cx cw cd:List Int) (up:Int) (f0 f1 f2 f3 f4 f5 f6 f7 f8 f9 f10:Bool) (t8 t9 t23 t24 t25 t26 t27 t28 t29:Value) (u:World):Prop where
 bel:Bw w u
 kx:CL u N0 X
 km:CL u N1 M
 kq:CL u N2 [0,0,0,0,0,0,0,0]
 kr:CL u N3 [0,0,0,0]
 sz:N3<u.heap.size
 c0:f0=true->t23= .agg (X.map (Value.int .u64)).toArray
 c1:f1=true->t24= .int .i64 up
 c2:f2=true->t25= .agg (cx.map (Value.int .u64)).toArray
 c3:f3=true->t26= .agg (M.map (Value.int .u64)).toArray
 c4:f4=true->t27= .agg (cw.map (Value.int .u64)).toArray
 c5:f5=true->t28= .int .i64 up
 c6:f6=true->t29= .agg (cd.map (Value.int .u64)).toArray
 a8:f7=true-> ∃b,t8= .pointer (some ⟨b,0,none⟩)/\N3<b/\b<u.heap.size/\u.there b 0 12/\(f9=true->CL u b cx)
 a9:f8=true-> ∃b,t9= .pointer (some ⟨b,0,none⟩)/\N3<b/\b<u.heap.size/\u.there b 0 12/\(f10=true->CL u b cd)
 ne:f7=true->f8=true->t8≠t9
 o9:f9=true->f7=true
 o10:f10=true->f8=true
variable {N0 N1 N2 N3:Nat} {w u v:World} {X M cx cw cd:List Int} {up:Int} {f0 f1 f2 f3 f4 f5 f6 f7 f8 f9 f10:Bool} {t8 t9 t23 t24 t25 t26 t27 t28 t29:Value}
theorem F4.call (h:F4 N0 N1 N2 N3 w X M cx cw cd up f0 f1 f2 f3 f4 f5 f6 f7 f8 f9 f10 t8 t9 t23 t24 t25 t26 t27 t28 t29 u) (l0:N0<=N3) (l1:N1<=N3) (l2:N2<=N3) (hB:Bw u v):
 F4 N0 N1 N2 N3 w X M cx cw cd up f0 f1 f2 f3 f4 f5 f6 f7 f8 f9 f10 t8 t9 t23 t24 t25 t26 t27 t28 t29 v:=by
 have hs:=hB.size
 have hz:=h.sz
 refine{h with bel:=Z7 h.bel hB,kx:=h.kx.below hB (by omega),km:=h.km.below hB (by omega),kq:=h.kq.below hB (by omega),kr:=h.kr.below hB (by omega),sz:=by omega,a8:=fun hf=>?_,a9:=fun hf=>?_}
 ·obtain⟨b,e,h1,h2,h3,h4⟩:=h.a8 hf
  exact⟨b,e,h1,by omega,there_below h3 hB h2,fun hg=>(h4 hg).below hB h2⟩
 ·obtain⟨b,e,h1,h2,h3,h4⟩:=h.a9 hf
  exact⟨b,e,h1,by omega,there_below h3 hB h2,fun hg=>(h4 hg).below hB h2⟩
theorem F4.new8 (h:F4 N0 N1 N2 N3 w X M cx cw cd up f0 f1 f2 f3 f4 f5 f6 f7 f8 f9 f10 t8 t9 t23 t24 t25 t26 t27 t28 t29 u) (h7:f7=false) (l0:N0<=N3) (l1:N1<=N3) (l2:N2<=N3) (cs:Array Value) (hc:cs.size=12) (t:TypeId):
 F4 N0 N1 N2 N3 w X M cx cw cd up f0 f1 f2 f3 f4 f5 f6 true f8 f9 f10 (.pointer (some ⟨u.heap.size,0,none⟩)) t9 t23 t24 t25 t26 t27 t28 t29 (u.alloc (.cells cs t)):=by
 have k:=h.call l0 l1 l2 (Z3 (Zp u) (.cells cs t))
 refine{k with a8:=fun _=>⟨_,rfl,h.sz,by simp,there_alloc u cs t 12 hc.symm,fun e=>absurd (h.o9 e) (by rw[h7];simp)⟩,ne:=fun _ hf e=>?_,o9:=fun _=>rfl}
 obtain⟨b,e9,_,h2,_⟩:=h.a9 hf
 rw[e9] at e;injection e with e;injection e with e;injection e with e;omega
theorem F4.new9 (h:F4 N0 N1 N2 N3 w X M cx cw cd up f0 f1 f2 f3 f4 f5 f6 f7 f8 f9 f10 t8 t9 t23 t24 t25 t26 t27 t28 t29 u) (h8:f8=false) (l0:N0<=N3) (l1:N1<=N3) (l2:N2<=N3) (cs:Array Value) (hc:cs.size=12) (t:TypeId):
 F4 N0 N1 N2 N3 w X M cx cw cd up f0 f1 f2 f3 f4 f5 f6 f7 true f9 f10 t8 (.pointer (some ⟨u.heap.size,0,none⟩)) t23 t24 t25 t26 t27 t28 t29 (u.alloc (.cells cs t)):=by
 have k:=h.call l0 l1 l2 (Z3 (Zp u) (.cells cs t))
 refine{k with a9:=fun _=>⟨_,rfl,h.sz,by simp,there_alloc u cs t 12 hc.symm,fun e=>absurd (h.o10 e) (by rw[h8];simp)⟩,ne:=fun hf _ e=>?_,o10:=fun _=>rfl}
 obtain⟨b,e8,_,h2,_⟩:=h.a8 hf
 rw[e8] at e;injection e with e;injection e with e;injection e with e;omega
theorem F4.put8 {b:Nat} (h:F4 N0 N1 N2 N3 w X M cx cw cd up f0 f1 f2 f3 f4 f5 f6 true f8 f9 f10 (.pointer (some ⟨b,0,none⟩)) t9 t23 t24 t25 t26 t27 t28 t29 u) (l0:N0<=N3) (l1:N1<=N3) (l2:N2<=N3) (hl:cx.length=12) (hs:w.heap.size<=N3) (h8:f8=true):
 F4 N0 N1 N2 N3 w X M cx cw cd up f0 f1 f2 f3 f4 f5 f6 true f8 true f10 (.pointer (some ⟨b,0,none⟩)) t9 t23 t24 t25 t26 t27 t28 t29 (u.setCells b 0 (cx.map (Value.int .u64))):=by
 obtain⟨b',e,h1,h2,h3,h4⟩:=h.a8 rfl
 injection e with e;injection e with e;injection e with e;subst e
 obtain⟨b9,e9,g1,g2,g3,g4⟩:=h.a9 h8
 have hne:b9≠b:=fun e=>h.ne rfl h8 (by rw[e9,e])
 refine{h with bel:=Zb (by omega) _ _ _ h.bel,kx:=h.kx.cells (by omega) _ _,km:=h.km.cells (by omega) _ _,kq:=h.kq.cells (by omega) _ _,kr:=h.kr.cells (by omega) _ _,sz:=by rw[Z5];exact h.sz,a8:=fun _=>⟨b,rfl,h1,by rw[Z5];exact h2,World.there_setCells h3 _ _ _,fun _=>CL.cells_same (by rw[List.length_map,hl];exact h3) rfl⟩,o9:=fun _=>rfl,a9:=fun _=>⟨b9,e9,g1,by rw[Z5];exact g2,World.there_setCells g3 _ _ _,fun hg=>(g4 hg).cells hne _ _⟩}
theorem F4.put9 {b:Nat} (h:F4 N0 N1 N2 N3 w X M cx cw cd up f0 f1 f2 f3 f4 f5 f6 f7 true f9 f10 t8 (.pointer (some ⟨b,0,none⟩)) t23 t24 t25 t26 t27 t28 t29 u) (l0:N0<=N3) (l1:N1<=N3) (l2:N2<=N3) (hl:cd.length=12) (hs:w.heap.size<=N3) (h7:f7=true):
 F4 N0 N1 N2 N3 w X M cx cw cd up f0 f1 f2 f3 f4 f5 f6 f7 true f9 true t8 (.pointer (some ⟨b,0,none⟩)) t23 t24 t25 t26 t27 t28 t29 (u.setCells b 0 (cd.map (Value.int .u64))):=by
 obtain⟨b',e,h1,h2,h3,h4⟩:=h.a9 rfl
 injection e with e;injection e with e;injection e with e;subst e
 obtain⟨b8,e8,g1,g2,g3,g4⟩:=h.a8 h7
 have hne:b8≠b:=fun e=>h.ne h7 rfl (by rw[e8,e])
 refine{h with bel:=Zb (by omega) _ _ _ h.bel,kx:=h.kx.cells (by omega) _ _,km:=h.km.cells (by omega) _ _,kq:=h.kq.cells (by omega) _ _,kr:=h.kr.cells (by omega) _ _,sz:=by rw[Z5];exact h.sz,a9:=fun _=>⟨b,rfl,h1,by rw[Z5];exact h2,World.there_setCells h3 _ _ _,fun _=>CL.cells_same (by rw[List.length_map,hl];exact h3) rfl⟩,o10:=fun _=>rfl,a8:=fun _=>⟨b8,e8,g1,by rw[Z5];exact g2,World.there_setCells g3 _ _ _,fun hg=>(g4 hg).cells hne _ _⟩}
end
section
variable {lo:Nat} {w u v:World} {base:Nat} {ks:List (Nat×List Value)} {ex:List (Nat×Bool×List Value×List Value)} {nw:List (Bool×Bool×Value×List Value×List Value)}
end
section
section
variable {P:Program} {ops:Array Oper} {Q:Exit->Act->World->Prop} {id:Nat} {w:World} {fr:List Value}
end
abbrev LN (n:Int):List Value:=[.int .u64 (D0 n),.int .u64 (D1 n),.int .u64 (D2 n),.int .u64 (D3 n)]
abbrev LW (n:Int):List Value:=[.int .u64 (D0 n),.int .u64 (D1 n),.int .u64 (D2 n),.int .u64 (D3 n),.int .u64 (D0 (D4 n)),.int .u64 (D1 (D4 n)),.int .u64 (D2 (D4 n)),.int .u64 (D3 (D4 n))]
abbrev L0s:List Value:=[.int .u64 0,.int .u64 0,.int .u64 0,.int .u64 0]
abbrev L0w:List Value:=[.int .u64 0,.int .u64 0,.int .u64 0,.int .u64 0,.int .u64 0,.int .u64 0,.int .u64 0,.int .u64 0]
end
section
section
variable {P:Program} {o:Oper} {a:Act} {w:World} {K:Act->World->Prop} {Q:Exit->Act->World->Prop}
end
end
section
section
variable {P:Program} {ops:Array Oper} {Q:Exit->Act->World->Prop} {i:Nat} {o:Oper} {a:Act} {w:World} {fr:List Value} {S:List Nat} {t:Nat->Value} {I:(Nat->Value)->World->Prop} {d:Nat} {v:Value}
end
section
variable {P:Program} {ops:Array Oper} {Q:Exit->Act->World->Prop} {i:Nat} {o:Oper} {a:Act} {fr:List Value} {S:List Nat} {t:Nat->Value} {I:(Nat->Value)->World->Prop} {d:Nat} {lo base:Nat} {w u:World} {ks:List (Nat×List Value)} {ex:List (Nat×Bool×List Value×List Value)} {nw:List (Bool×Bool×Value×List Value×List Value)}
end
end
end
section
theorem Xe:EnT 129:=fun _ _=>by kernel_rfl
theorem Yz:EnT 140:=fun _ _=>by kernel_rfl
theorem Xy:EnT 128:=fun _ _=>by kernel_rfl
theorem Yo:EnT 101:=fun _ _=>by kernel_rfl
theorem Z9:EnT 91:=fun _ _=>by kernel_rfl
theorem Za:EnT 102:=fun _ _=>by kernel_rfl
theorem ent_limb_Length:EnT 130:=fun _ _=>by kernel_rfl
theorem Xz:EnT 118:=fun _ _=>by kernel_rfl
theorem ent_mod_Add:EnT 98:=fun _ _=>by kernel_rfl
theorem ent_mod_Sub:EnT 136:=fun _ _=>by kernel_rfl
theorem ent_mod_Mul:EnT 97:=fun _ _=>by kernel_rfl
theorem Ze:EnT 90:=fun _ _=>by kernel_rfl
theorem Vx:EnT 92:=fun _ _=>by kernel_rfl
theorem ent_mod_Inverse:EnT 105:=fun _ _=>by kernel_rfl
theorem ent_mod_Product:EnT 89:=fun _ _=>by kernel_rfl
theorem ent_mod_gather:EnT 117:=fun _ _=>by kernel_rfl
theorem Vq:EnT 141:=fun _ _=>by kernel_rfl
theorem Wj:EnT 142:=fun _ _=>by kernel_rfl
theorem Vp:EnT 135:=fun _ _=>by kernel_rfl
theorem ent_mod_split:EnT 119:=fun _ _=>by kernel_rfl
theorem Ua:EnT 120:=fun _ _=>by kernel_rfl
theorem Ub:EnT 121:=fun _ _=>by kernel_rfl
theorem Xx:EnT 122:=fun _ _=>by kernel_rfl
theorem Ta:EnT 123:=fun _ _=>by kernel_rfl
theorem Vk:EnT 143:=fun _ _=>by kernel_rfl
theorem Vo:EnT 144:=fun _ _=>by kernel_rfl
theorem Xt:EnT 160:=fun _ _=>by kernel_rfl
theorem Xi:EnT 145:=fun _ _=>by kernel_rfl
theorem Z8:EnT 58:=fun _ _=>by kernel_rfl
theorem Wt:EnT 74:=fun _ _=>by kernel_rfl
theorem W6:EnT 85:=fun _ _=>by kernel_rfl
theorem Yc:EnT 59:=fun _ _=>by kernel_rfl
theorem W5:EnT 72:=fun _ _=>by kernel_rfl
theorem X8:EnT 73:=fun _ _=>by kernel_rfl
theorem Zr:EnT 49:=fun _ _=>by kernel_rfl
theorem Zi:EnT 60:=fun _ _=>by kernel_rfl
theorem X7:EnT 48:=fun _ _=>by kernel_rfl
theorem V7:EnT 33:=fun _ _=>by kernel_rfl
theorem al_api_Nat (w:World):(Instr.alloc 24 true (.tuple #[])).run Tryz.prog w= .ok (.pointer (some ⟨w.heap.size,0,none⟩)) (w.alloc (.cells L0s.toArray 24)):=by kernel_rfl
theorem al_api_Wide (w:World):(Instr.alloc 86 true (.tuple #[])).run Tryz.prog w= .ok (.pointer (some ⟨w.heap.size,0,none⟩)) (w.alloc (.cells L0w.toArray 86)):=by kernel_rfl
theorem info_api_Nat:(Tryz.prog.info? 24).map (·.size)=some 4:=by kernel_rfl
theorem info_api_Wide:(Tryz.prog.info? 86).map (·.size)=some 8:=by kernel_rfl
end
end Go.Proofs.YtbbohmgjphpfeaaGreatDoor
