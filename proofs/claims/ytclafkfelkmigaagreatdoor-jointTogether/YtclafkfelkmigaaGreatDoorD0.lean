import Derived.Test.YtclafkfelkmigaaGreatDoorW1
namespace Go.Proofs.YtclafkfelkmigaaGreatDoor
set_option linter.unusedVariables false
set_option linter.unusedSimpArgs false
set_option maxRecDepth 100000
set_option maxHeartbeats 4000000
section
open Go.RowKit
section
theorem CL.cells{w:World}{n b:Nat}{l:List Int}(h:CL w n l)(hn:n≠b)(o:Nat)(vs:List Value):CL (w.setCells b o vs) n l:=fun j x hj=>by
 rw[World.frozen?_setCells,World.cell?_setCells_out b vs o w _ (fun e=>absurd e hn)]
 exact h j x hj
theorem there_below{w w':World}{m n k:Nat}(h:w.there n 0 k)(hb:Below m w w')(hn:n<m):w'.there n 0 k:=fun j hj=>by
 rw[hb.cell (p:=⟨n,0+j,none⟩) hn,hb.frozen (p:=⟨n,0+j,none⟩) hn];exact h j hj
theorem CL.there{w:World}{b:Nat}{l:List Int}(h:CL w b l):w.there b 0 l.length:=fun j hj=>by
 have:=h j _ (List.getElem?_eq_getElem hj)
 rw[Nat.zero_add,this.1];exact⟨rfl,this.2⟩
structure F4(N0 N1 N2 N3:Nat)(w:World)(X M cx cw cd:List Int)(up:Int)(f0 f1 f2 f3 f4 f5 f6 f7 f8 f9 f10:Bool)(t8 t9 t23 t24 t25 t26 t27 t28 t29:Value)(u:World):Prop where
 bel:Bw w u
 kx:CL u N0 X
 km:CL u N1 M
 kq:CL u N2 [0,0,0,0,0,0,0,0]
 kr:CL u N3 [0,0,0,0]
 sz:N3<u.heap.size
 c0:f0=true->t23= .agg (X.map (Value.int .u64)).toArray
 c1:f1=true->t24=iI up
 c2:f2=true->t25= .agg (cx.map (Value.int .u64)).toArray
 c3:f3=true->t26= .agg (M.map (Value.int .u64)).toArray
 c4:f4=true->t27= .agg (cw.map (Value.int .u64)).toArray
 c5:f5=true->t28=iI up
 c6:f6=true->t29= .agg (cd.map (Value.int .u64)).toArray
 a8:f7=true-> ∃b,t8= .pointer (some ⟨b,0,none⟩)/\N3<b/\b<u.heap.size/\u.there b 0 12/\(f9=true->CL u b cx)
 a9:f8=true-> ∃b,t9= .pointer (some ⟨b,0,none⟩)/\N3<b/\b<u.heap.size/\u.there b 0 12/\(f10=true->CL u b cd)
 ne:f7=true->f8=true->t8≠t9
 o9:f9=true->f7=true
 o10:f10=true->f8=true
variable {N0 N1 N2 N3:Nat} {w u v:World} {X M cx cw cd:List Int} {up:Int} {f0 f1 f2 f3 f4 f5 f6 f7 f8 f9 f10:Bool} {t8 t9 t23 t24 t25 t26 t27 t28 t29:Value}
theorem F4.call(h:F4 N0 N1 N2 N3 w X M cx cw cd up f0 f1 f2 f3 f4 f5 f6 f7 f8 f9 f10 t8 t9 t23 t24 t25 t26 t27 t28 t29 u)(l0:N0<=N3)(l1:N1<=N3)(l2:N2<=N3)(hB:Bw u v):
 F4 N0 N1 N2 N3 w X M cx cw cd up f0 f1 f2 f3 f4 f5 f6 f7 f8 f9 f10 t8 t9 t23 t24 t25 t26 t27 t28 t29 v:=by
 have hs:=hB.size
 have hz:=h.sz
 refine{h with bel:=Z2 h.bel hB,kx:=h.kx.below hB (by omega),km:=h.km.below hB (by omega),kq:=h.kq.below hB (by omega),kr:=h.kr.below hB (by omega),sz:=by omega,a8:=fun hf=>?_,a9:=fun hf=>?_}
 ·obtain⟨b,e,h1,h2,h3,h4⟩:=h.a8 hf
  exact⟨b,e,h1,by omega,there_below h3 hB h2,fun hg=>(h4 hg).below hB h2⟩
 ·obtain⟨b,e,h1,h2,h3,h4⟩:=h.a9 hf
  exact⟨b,e,h1,by omega,there_below h3 hB h2,fun hg=>(h4 hg).below hB h2⟩
end
section
variable {lo:Nat} {w u v:World} {base:Nat} {ks:List (Nat×List Value)} {ex:List (Nat×Bool×List Value×List Value)} {nw:List (Bool×Bool×Value×List Value×List Value)}
end
section
section
variable {P:Program} {ops:Array Oper} {Q:Exit->Act->World->Prop} {id:Nat} {w:World} {fr:List Value}
end
abbrev LN(n:Int):List Value:=[iU (D0 n),iU (D1 n),iU (D2 n),iU (D3 n)]
abbrev LW(n:Int):List Value:=[iU (D0 n),iU (D1 n),iU (D2 n),iU (D3 n),iU (D0 (D4 n)),iU (D1 (D4 n)),iU (D2 (D4 n)),iU (D3 (D4 n))]
abbrev L0s:List Value:=[iU 0,iU 0,iU 0,iU 0]
abbrev L0w:List Value:=[iU 0,iU 0,iU 0,iU 0,iU 0,iU 0,iU 0,iU 0]
end
section
section
variable {P:Program} {o:Oper} {a:Act} {w:World} {K:Act->World->Prop} {Q:Exit->Act->World->Prop}
end
end
section
section
variable {P:Program} {ops:Array Oper} {Q:Exit->Act->World->Prop} {i:Nat} {o:Oper} {a:Act} {w:World} {fr:List Value} {S:List Nat} {t:Nat->Value} {I:(Nat->Value)->World->Prop} {d:Nat} {v:Value}
end
section
variable {P:Program} {ops:Array Oper} {Q:Exit->Act->World->Prop} {i:Nat} {o:Oper} {a:Act} {fr:List Value} {S:List Nat} {t:Nat->Value} {I:(Nat->Value)->World->Prop} {d:Nat} {lo base:Nat} {w u:World} {ks:List (Nat×List Value)} {ex:List (Nat×Bool×List Value×List Value)} {nw:List (Bool×Bool×Value×List Value×List Value)}
end
end
end
section
theorem Xa:EnT 103:=fun _ _=>by kernel_rfl
theorem Yp:EnT 132:=fun _ _=>by kernel_rfl
theorem Xv:EnT 131:=fun _ _=>by kernel_rfl
theorem Vb:EnT 96:=fun _ _=>by kernel_rfl
theorem Za:EnT 85:=fun _ _=>by kernel_rfl
theorem Ze:EnT 97:=fun _ _=>by kernel_rfl
theorem ent_limb_Length:EnT 121:=fun _ _=>by kernel_rfl
theorem Xw:EnT 106:=fun _ _=>by kernel_rfl
theorem ent_mod_Add:EnT 79:=fun _ _=>by kernel_rfl
theorem ent_mod_Sub:EnT 139:=fun _ _=>by kernel_rfl
theorem ent_mod_Mul:EnT 105:=fun _ _=>by kernel_rfl
theorem Zd:EnT 84:=fun _ _=>by kernel_rfl
theorem Vz:EnT 86:=fun _ _=>by kernel_rfl
theorem ent_mod_Inverse:EnT 138:=fun _ _=>by kernel_rfl
theorem ent_mod_Product:EnT 83:=fun _ _=>by kernel_rfl
theorem ent_mod_gather:EnT 104:=fun _ _=>by kernel_rfl
theorem Vs:EnT 133:=fun _ _=>by kernel_rfl
theorem Wm:EnT 134:=fun _ _=>by kernel_rfl
theorem Vr:EnT 154:=fun _ _=>by kernel_rfl
theorem ent_mod_split:EnT 107:=fun _ _=>by kernel_rfl
theorem Ub:EnT 108:=fun _ _=>by kernel_rfl
theorem Uc:EnT 109:=fun _ _=>by kernel_rfl
theorem Xu:EnT 110:=fun _ _=>by kernel_rfl
theorem T6:EnT 111:=fun _ _=>by kernel_rfl
theorem Vk:EnT 135:=fun _ _=>by kernel_rfl
theorem Vq:EnT 136:=fun _ _=>by kernel_rfl
theorem Xm:EnT 153:=fun _ _=>by kernel_rfl
theorem Xc:EnT 137:=fun _ _=>by kernel_rfl
theorem Zo:EnT 37:=fun _ _=>by kernel_rfl
theorem Yy:EnT 114:=fun _ _=>by kernel_rfl
theorem V2:EnT 68:=fun _ _=>by kernel_rfl
theorem Yj:EnT 91:=fun _ _=>by kernel_rfl
theorem Z6:EnT 69:=fun _ _=>by kernel_rfl
theorem W4:EnT 87:=fun _ _=>by kernel_rfl
theorem Yz:EnT 88:=fun _ _=>by kernel_rfl
theorem Wz:EnT 42:=fun _ _=>by kernel_rfl
theorem Wy:EnT 89:=fun _ _=>by kernel_rfl
theorem Z9:EnT 41:=fun _ _=>by kernel_rfl
theorem Z4:EnT 67:=fun _ _=>by kernel_rfl
theorem Yx:EnT 64:=fun _ _=>by kernel_rfl
theorem Va:EnT 12:=fun _ _=>by kernel_rfl
theorem al_api_Nat(w:World):(Instr.alloc 36 true (.tuple #[])).run Tryz.prog w= .ok (.pointer (some ⟨w.heap.size,0,none⟩)) (w.alloc (.cells L0s.toArray 36)):=by kernel_rfl
theorem al_api_Wide(w:World):(Instr.alloc 115 true (.tuple #[])).run Tryz.prog w= .ok (.pointer (some ⟨w.heap.size,0,none⟩)) (w.alloc (.cells L0w.toArray 115)):=by kernel_rfl
theorem info_api_Nat:(Tryz.prog.info? 36).map (·.size)=some 4:=by kernel_rfl
theorem info_api_Wide:(Tryz.prog.info? 115).map (·.size)=some 8:=by kernel_rfl
end
end Go.Proofs.YtclafkfelkmigaaGreatDoor
