import Derived.Test.YtofcppgfaelloaaGreatDoorW1
namespace Go.Proofs.YtofcppgfaelloaaGreatDoor
set_option linter.unusedVariables false
set_option linter.unusedSimpArgs false
set_option maxRecDepth 100000
set_option maxHeartbeats 4000000
section
open Go.RowKit
section
theorem CL.cells {w:World} {n b:Nat} {l:List Int} (h:CL w n l) (hn:n≠b) (o:Nat) (vs:List Value):CL (w.setCells b o vs) n l:=fun j x hj=>by
 rw[World.frozen?_setCells,World.cell?_setCells_out b vs o w _ (fun e=>absurd e hn)]
 exact h j x hj
theorem there_below {w w':World} {m n k:Nat} (h:w.there n 0 k) (hb:Below m w w') (hn:n<m):w'.there n 0 k:=fun j hj=>by
 rw[hb.cell (p:=⟨n,0+j,none⟩) hn,hb.frozen (p:=⟨n,0+j,none⟩) hn];exact h j hj
theorem CL.there {w:World} {b:Nat} {l:List Int} (h:CL w b l):w.there b 0 l.length:=fun j hj=>by
 have:=h j _ (List.getElem?_eq_getElem hj)
 rw[Nat.zero_add,this.1];exact⟨rfl,this.2⟩
structure F4 (N0 N1 N2 N3:Nat) (w:World) (X M cx cw cd:List Int) (up:Int) (f0 f1 f2 f3 f4 f5 f6 f7 f8 f9 f10:Bool) (t8 t9 t23 t24 t25 t26 t27 t28 t29:Value) (u:World):Prop where
 bel:Bw w u
 kx:CL u N0 X
 km:CL u N1 M
 kq:CL u N2 [0,0,0,0,0,0,0,0]
 kr:CL u N3 [0,0,0,0]
 sz:N3<u.heap.size
 c0:f0=true->t23= .agg (X.map (Value.int .u64)).toArray
 c1:f1=true->t24=iI up
 c2:f2=true->t25= .agg (cx.map (Value.int .u64)).toArray
 c3:f3=true->t26= .agg (M.map (Value.int .u64)).toArray
 c4:f4=true->t27= .agg (cw.map (Value.int .u64)).toArray
 c5:f5=true->t28=iI up
 c6:f6=true->t29= .agg (cd.map (Value.int .u64)).toArray
 a8:f7=true-> ∃b,t8= .pointer (some ⟨b,0,none⟩)/\N3<b/\b<u.heap.size/\u.there b 0 12/\(f9=true->CL u b cx)
 a9:f8=true-> ∃b,t9= .pointer (some ⟨b,0,none⟩)/\N3<b/\b<u.heap.size/\u.there b 0 12/\(f10=true->CL u b cd)
 ne:f7=true->f8=true->t8≠t9
 o9:f9=true->f7=true
 o10:f10=true->f8=true
variable {N0 N1 N2 N3:Nat} {w u v:World} {X M cx cw cd:List Int} {up:Int} {f0 f1 f2 f3 f4 f5 f6 f7 f8 f9 f10:Bool} {t8 t9 t23 t24 t25 t26 t27 t28 t29:Value}
theorem F4.call (h:F4 N0 N1 N2 N3 w X M cx cw cd up f0 f1 f2 f3 f4 f5 f6 f7 f8 f9 f10 t8 t9 t23 t24 t25 t26 t27 t28 t29 u) (l0:N0<=N3) (l1:N1<=N3) (l2:N2<=N3) (hB:Bw u v):
 F4 N0 N1 N2 N3 w X M cx cw cd up f0 f1 f2 f3 f4 f5 f6 f7 f8 f9 f10 t8 t9 t23 t24 t25 t26 t27 t28 t29 v:=by
 have hs:=hB.size
 have hz:=h.sz
 refine{h with bel:=Yu h.bel hB,kx:=h.kx.below hB (by omega),km:=h.km.below hB (by omega),kq:=h.kq.below hB (by omega),kr:=h.kr.below hB (by omega),sz:=by omega,a8:=fun hf=>?_,a9:=fun hf=>?_}
 ·obtain⟨b,e,h1,h2,h3,h4⟩:=h.a8 hf
  exact⟨b,e,h1,by omega,there_below h3 hB h2,fun hg=>(h4 hg).below hB h2⟩
 ·obtain⟨b,e,h1,h2,h3,h4⟩:=h.a9 hf
  exact⟨b,e,h1,by omega,there_below h3 hB h2,fun hg=>(h4 hg).below hB h2⟩
end
section
variable {lo:Nat} {w u v:World} {base:Nat} {ks:List (Nat×List Value)} {ex:List (Nat×Bool×List Value×List Value)} {nw:List (Bool×Bool×Value×List Value×List Value)}
end
section
section
variable {P:Program} {ops:Array Oper} {Q:Exit->Act->World->Prop} {id:Nat} {w:World} {fr:List Value}
end
abbrev LN (n:Int):List Value:=[iU (D0 n),iU (D1 n),iU (D2 n),iU (D3 n)]
abbrev LW (n:Int):List Value:=[iU (D0 n),iU (D1 n),iU (D2 n),iU (D3 n),iU (D0 (D4 n)),iU (D1 (D4 n)),iU (D2 (D4 n)),iU (D3 (D4 n))]
abbrev L0s:List Value:=[iU 0,iU 0,iU 0,iU 0]
abbrev L0w:List Value:=[iU 0,iU 0,iU 0,iU 0,iU 0,iU 0,iU 0,iU 0]
end
section
section
variable {P:Program} {o:Oper} {a:Act} {w:World} {K:Act->World->Prop} {Q:Exit->Act->World->Prop}
end
end
section
section
variable {P:Program} {ops:Array Oper} {Q:Exit->Act->World->Prop} {i:Nat} {o:Oper} {a:Act} {w:World} {fr:List Value} {S:List Nat} {t:Nat->Value} {I:(Nat->Value)->World->Prop} {d:Nat} {v:Value}
end
section
variable {P:Program} {ops:Array Oper} {Q:Exit->Act->World->Prop} {i:Nat} {o:Oper} {a:Act} {fr:List Value} {S:List Nat} {t:Nat->Value} {I:(Nat->Value)->World->Prop} {d:Nat} {lo base:Nat} {w u:World} {ks:List (Nat×List Value)} {ex:List (Nat×Bool×List Value×List Value)} {nw:List (Bool×Bool×Value×List Value×List Value)}
end
end
end
section
theorem Ve:EnT 132:=fun _ _=>by kernel_rfl
theorem X6:EnT 123:=fun _ _=>by kernel_rfl
theorem W5:EnT 126:=fun _ _=>by kernel_rfl
theorem Vd:EnT 74:=fun _ _=>by kernel_rfl
theorem Zg:EnT 75:=fun _ _=>by kernel_rfl
theorem Zk:EnT 76:=fun _ _=>by kernel_rfl
theorem ent_limb_Length:EnT 93:=fun _ _=>by kernel_rfl
theorem W6:EnT 104:=fun _ _=>by kernel_rfl
theorem ent_mod_Sub:EnT 131:=fun _ _=>by kernel_rfl
theorem ent_mod_Mul:EnT 111:=fun _ _=>by kernel_rfl
theorem Zi:EnT 82:=fun _ _=>by kernel_rfl
theorem U4:EnT 91:=fun _ _=>by kernel_rfl
theorem ent_mod_Inverse:EnT 130:=fun _ _=>by kernel_rfl
theorem ent_mod_Product:EnT 92:=fun _ _=>by kernel_rfl
theorem ent_mod_gather:EnT 110:=fun _ _=>by kernel_rfl
theorem Vw:EnT 124:=fun _ _=>by kernel_rfl
theorem Wx:EnT 125:=fun _ _=>by kernel_rfl
theorem Vv:EnT 145:=fun _ _=>by kernel_rfl
theorem ent_mod_split:EnT 105:=fun _ _=>by kernel_rfl
theorem Uj:EnT 106:=fun _ _=>by kernel_rfl
theorem Uk:EnT 107:=fun _ _=>by kernel_rfl
theorem W4:EnT 108:=fun _ _=>by kernel_rfl
theorem Tj:EnT 109:=fun _ _=>by kernel_rfl
theorem Vq:EnT 127:=fun _ _=>by kernel_rfl
theorem Vu:EnT 128:=fun _ _=>by kernel_rfl
theorem Xy:EnT 144:=fun _ _=>by kernel_rfl
theorem Xm:EnT 129:=fun _ _=>by kernel_rfl
theorem Z9:EnT 48:=fun _ _=>by kernel_rfl
theorem V6:EnT 54:=fun _ _=>by kernel_rfl
theorem We:EnT 65:=fun _ _=>by kernel_rfl
theorem Zu:EnT 46:=fun _ _=>by kernel_rfl
theorem Wd:EnT 68:=fun _ _=>by kernel_rfl
theorem Xe:EnT 69:=fun _ _=>by kernel_rfl
theorem V5:EnT 25:=fun _ _=>by kernel_rfl
theorem Zq:EnT 32:=fun _ _=>by kernel_rfl
theorem Zd:EnT 45:=fun _ _=>by kernel_rfl
theorem Ye:EnT 47:=fun _ _=>by kernel_rfl
theorem Vb:EnT 23:=fun _ _=>by kernel_rfl
theorem al_api_Nat (w:World):(Instr.alloc 24 true (.tuple #[])).run Tryz.prog w= .ok (.pointer (some ⟨w.heap.size,0,none⟩)) (w.alloc (.cells L0s.toArray 24)):=by kernel_rfl
theorem al_api_Wide (w:World):(Instr.alloc 73 true (.tuple #[])).run Tryz.prog w= .ok (.pointer (some ⟨w.heap.size,0,none⟩)) (w.alloc (.cells L0w.toArray 73)):=by kernel_rfl
theorem info_api_Nat:(Tryz.prog.info? 24).map (·.size)=some 4:=by kernel_rfl
theorem info_api_Wide:(Tryz.prog.info? 73).map (·.size)=some 8:=by kernel_rfl
end
section
open Go.RowKit
abbrev NV (n:Int):Value:=A4 (D0 n) (D1 n) (D2 n) (D3 n)
theorem ret_int {k:IntKind} {a b:Int} (h:a=b):Ending.returned (.int k a)= .returned (.int k b):=by rw[h]
def cmpI (n m:Int):Int:=if n<m then -1 else if m<n then 1 else 0
theorem of_any (n:Int) (w:World):
 CC 76 #[iU n] w (A4 n 0 0 0):=by
 go_enter Tryz.func76,Tryz.ntmps76
 go_wp2
 go_returns
 exact⟨rfl,by go_grown⟩
theorem Add_any (a b c d x y z t:Int) (w:World) (ha:W64 a) (hb:W64 b) (hc:W64 c) (hd:W64 d) (hx:W64 x) (hy:W64 y) (hz:W64 z) (ht:W64 t):
 CC 132 #[A4 a b c d,A4 x y z t] w (.tuple #[NV (V a b c d+V x y z t),.bool (D4 (V a b c d+V x y z t)==1)]):=by
 go_enter Tryz.func132,Tryz.ntmps132
 go_wp2_with fail
 refine(add_any a b c d x y z t _ ha hb hc hd hx hy hz ht).mono ?_
 rintro e w1 ⟨rfl,hB⟩
 obtain⟨hcell,hfroz,hsize⟩:=bcell hB
 simp only[World.size_alloc] at hsize hcell hfroz
 have z0:w.heap.size<w1.heap.size:=by omega
 have z1:w.heap.size+1<w1.heap.size:=by omega
 have z2:w.heap.size+1+1<w1.heap.size:=by omega
 go_wp2
 refine bodyPost_ret (v:= .tuple #[NV (V a b c d+V x y z t),.bool (D4 (V a b c d+V x y z t)==1)]) (by simp[results,Tryz.results132,go_sem,hcell,z0,z1,z2]) rfl ⟨rfl,?_⟩
 have hB':Bw w w1:=Below.trans (by go_grown) (hB.mono (by simp;omega))
 go_grown
theorem Sub_any (a b c d x y z t:Int) (w:World) (ha:W64 a) (hb:W64 b) (hc:W64 c) (hd:W64 d) (hx:W64 x) (hy:W64 y) (hz:W64 z) (ht:W64 t):
 CC 123 #[A4 a b c d,A4 x y z t] w (.tuple #[NV (V a b c d -V x y z t),.bool (-D4 (V a b c d -V x y z t)==1)]):=by
 go_enter Tryz.func123,Tryz.ntmps123
 go_wp2_with fail
 refine(sub_any a b c d x y z t _ ha hb hc hd hx hy hz ht).mono ?_
 rintro e w1 ⟨rfl,hB⟩
 obtain⟨hcell,hfroz,hsize⟩:=bcell hB
 simp only[World.size_alloc] at hsize hcell hfroz
 have z0:w.heap.size<w1.heap.size:=by omega
 have z1:w.heap.size+1<w1.heap.size:=by omega
 have z2:w.heap.size+1+1<w1.heap.size:=by omega
 go_wp2
 refine bodyPost_ret (v:= .tuple #[NV (V a b c d -V x y z t),.bool (-D4 (V a b c d -V x y z t)==1)]) (by simp[results,Tryz.results123,go_sem,hcell,z0,z1,z2]) rfl ⟨rfl,?_⟩
 have hB':Bw w w1:=Below.trans (by go_grown) (hB.mono (by simp;omega))
 go_grown
theorem Te (a b c d x y z t:Int) (w:World) (ha:W64 a) (hb:W64 b) (hc:W64 c) (hd:W64 d) (hx:W64 x) (hy:W64 y) (hz:W64 z) (ht:W64 t):
 CC 22 #[A4 a b c d,A4 x y z t] w (iI (cmpI (V a b c d) (V x y z t))):=by
 obtain⟨a1,a2⟩:=ha
 obtain⟨b1,b2⟩:=hb
 obtain⟨c1,c2⟩:=hc
 obtain⟨d1,d2⟩:=hd
 obtain⟨x1,x2⟩:=hx
 obtain⟨y1,y2⟩:=hy
 obtain⟨z1,z2⟩:=hz
 obtain⟨t1,t2⟩:=ht
 go_enter Tryz.func22,Tryz.ntmps22
 go_wp2
 refine wp_loop_rounds 5 ?_
 repeat any_goals (rw[rounds_succ];go_wp2;all_goals (try (go_quiet (fail);go_wp2));all_goals (try (go_quiet (fail);go_wp2)))
 all_goals
  go_returns
  refine⟨?_,?_⟩
  ·refine ret_int ?_;unfold cmpI V;split<;>(try split)<;>omega
  ·iterate 6 all_goals (go_grown<;>try with_reducible refine below_drewN ?_ _)
theorem cmp_lt {n m:Int} (h:n<m):cmpI n m= -1:=by unfold cmpI;simp[h]
theorem cmp_gt {n m:Int} (h:m<n):cmpI n m=1:=by unfold cmpI;rw[if_neg (by omega),if_pos h]
theorem cmp_eq (n:Int):cmpI n n=0:=by unfold cmpI;simp
theorem Compare_any (a b c d x y z t:Int) (w:World) (ha:W64 a) (hb:W64 b) (hc:W64 c) (hd:W64 d) (hx:W64 x) (hy:W64 y) (hz:W64 z) (ht:W64 t):
 CC 77 #[A4 a b c d,A4 x y z t] w (iI (cmpI (V a b c d) (V x y z t))):=by
 have k1:=V_bd a b c d ha hb hc hd
 have k2:=V_bd x y z t hx hy hz ht
 have hiff:=eq4_V a b c d x y z t ha hb hc hd hx hy hz ht
 by_cases hq:V a b c d=V x y z t
 ·have he:eq4 a b c d x y z t=true:=hiff.2 hq
  rw[hq,cmp_eq]
  clear hq hiff k1 k2
  go_enter Tryz.func77,Tryz.ntmps77
  go_wp2
  go_ret
  exact⟨rfl,by go_grown⟩
 ·have he:eq4 a b c d x y z t=false:=by rw[Bool.eq_false_iff];exact fun h=>hq (hiff.1 h)
  by_cases hl:V a b c d<V x y z t
  ·have hbo:(-D4 (V a b c d -V x y z t)==1)=true:=by unfold D4;simp;omega
   rw[cmp_lt hl]
   clear hq hiff k1 k2 hl
   go_enter Tryz.func77,Tryz.ntmps77
   go_wp2_with fail
   refine(sub_any a b c d x y z t _ ha hb hc hd hx hy hz ht).mono ?_
   rintro e w1 ⟨rfl,hB⟩
   have hB':Bw w w1:=Below.trans (by go_grown) (hB.mono (by simp;omega))
   have hs1:=hB'.size
   clear hB
   go_wp2
   go_ret
   exact⟨rfl,by go_grown⟩
  ·have hbo:(-D4 (V a b c d -V x y z t)==1)=false:=by unfold D4;simp;omega
   rw[cmp_gt (by omega)]
   clear hq hiff k1 k2 hl
   go_enter Tryz.func77,Tryz.ntmps77
   go_wp2_with fail
   refine(sub_any a b c d x y z t _ ha hb hc hd hx hy hz ht).mono ?_
   rintro e w1 ⟨rfl,hB⟩
   have hB':Bw w w1:=Below.trans (by go_grown) (hB.mono (by simp;omega))
   have hs1:=hB'.size
   clear hB
   go_wp2
   go_ret
   exact⟨rfl,by go_grown⟩
end
end Go.Proofs.YtofcppgfaelloaaGreatDoor
