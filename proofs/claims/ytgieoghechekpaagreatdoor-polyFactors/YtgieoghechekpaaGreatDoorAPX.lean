import Derived.Test.YtgieoghechekpaaGreatDoorAPM
namespace Go.Proofs.YtgieoghechekpaaGreatDoor
set_option linter.unusedVariables false
set_option linter.unusedSimpArgs false
set_option maxRecDepth 100000
set_option maxHeartbeats 4000000
open Go.RowKit
theorem infoI:(Tryz.prog.info? 3).map (fun i=>(i.zero,i.size,i.bytes))=some (some (.int .i64 0),1,8):=by kernel_rfl
def iV(xs:List Int):List Value:=xs.map fun x=>.int .i64 x
theorem iV_len(xs:List Int):(iV xs).length=xs.length:=by simp[iV]
theorem bsI0(w:World):(Instr.buildSlice 26 0 #[]).run Tryz.prog w= .ok (.slice (some ⟨w.heap.size,0,none⟩) 0 0) (w.alloc (.cells #[] 3)):=by kernel_rfl
theorem bsI1(x:Int)(w:World):(Instr.buildSlice 26 1 #[(0,.int .i64 x)]).run Tryz.prog w= .ok (.slice (some ⟨w.heap.size,0,none⟩) 1 1) (w.alloc (.cells #[.int .i64 x] 3)):=by kernel_rfl
theorem app_i{u:World}{bo m co:Nat}{out:List Int}{zs:List Value}{x:Int}{ty:TypeId}(hc:CV u bo (iV out++zs))(hb:bo<u.heap.size)(hm:out.length=m)(hmc:m<=co)(hz:zs.length=co -m)(hl:m<=1000000):
 ∃v u',(Builtin.append_ #[26,26] ty #[.slice (some ⟨bo,0,none⟩) m co,.slice (some ⟨u.heap.size,0,none⟩) 1 1]).run Tryz.prog (u.alloc (.cells #[.int .i64 x] 3))= .ok v u'/\(u.alloc (.cells #[.int .i64 x] 3)).grownBy u' (some bo)/\PH (u.alloc (.cells #[.int .i64 x] 3)).heap.size bo 1 (m+1) (iV (out++[x])) u' v:=by
 obtain⟨ti,hti,htm⟩:=Option.map_eq_some_iff.1 infoI
 simp only[Prod.mk.injEq] at htm
 obtain⟨hzv,hsz,hby⟩:=htm
 have hss:u.heap.size<=(u.alloc (.cells #[.int .i64 x] 3)).heap.size:=by simp
 obtain⟨v',u',hr,hg,hp⟩:=run_app (P:=Tryz.prog) (u.alloc (.cells #[.int .i64 x] 3)) (ty:=ty) Tryz.underlying26 hti hzv (by rw[hsz];rfl) (base:=(u.alloc (.cells #[.int .i64 x] 3)).heap.size) (n:=m) (cap:=co) (m:=1) (news:=[.int .i64 x]) (y:= .slice (some ⟨u.heap.size,0,none⟩) 1 1) (hc.below (Z0 (Z2 u) _) hb) (Nat.lt_of_lt_of_le hb hss) (by rw[hsz,iV_len];omega) (by rw[hsz];omega) hmc (Nat.le_refl _) ⟨_,1,rfl,.inr ⟨_,rfl,fun j v hj=>by
  match j,hj with
  | 0,hj=>simp at hj;subst hj;simp[Addr.add]⟩⟩ (by rw[hsz];rfl) (fun v hv=>by simp at hv;subst hv;rfl) (by rw[hby];omega) (by omega)
 rw[hsz] at hp
 rw[show iV out++[.int .i64 x]=iV (out++[x]) by simp[iV]] at hp
 exact⟨v',u',hr,hg,hp⟩
theorem il_row{u:World}{b m c:Nat}{out:List Int}{zs:List Value}(hb:b<u.heap.size)(h:CV u b (iV out++zs))(hm:out.length=m)(hc:m<=c):IL u (.slice (some ⟨b,0,none⟩) m c) out:=by
 subst hm
 refine⟨_,b,0,c,rfl,hc,(by simp),.inr rfl,.inr hb,fun j hj=>?_⟩
 rw[Nat.zero_add]
 exact(h j _ (by rw[List.getElem?_append_left (by rw[iV_len];exact hj)];simp[iV,List.getElem?_map,List.getElem?_eq_getElem hj])).1
theorem hasInt_core(sl:Option Addr)(n cap gb go:Nat)(f:Nat->Int)(x:Int)(b:Bool)(w:World)(hn:n<=1000)(hsl:Hid (0<n->sl=some ⟨gb,go,none⟩/\gb<w.heap.size))(hc:Hid (∀j,j<n->w.cell? ⟨gb,go+j,none⟩=some (.int .i64 (f j))))(hb1:Hid (∀j,j<n->f j=x->b=true))(hb0:Hid ((∀j,j<n->f j≠x)->b=false)):
 CC 38 #[.slice sl n cap,.int .i64 x] w (.bool b):=by
 go_enter Tryz.func38,Tryz.ntmps38
 go_wp2_with fail
 go_loopw [5] (fun s5 wr=> ∃i:Nat,i<=n/\s5= .int .i64 (i:Int)/\Hid (∀j,j<i->f j≠x)/\Bw w wr) (fun s5 _=>n -(intOf s5).toNat)
 case atStart=>exact⟨0,by omega,rfl,fun j hj=>absurd hj (by omega),Below.refl _ _⟩
 case round=>
  obtain⟨i,hi,rfl,hno,HBr⟩:=hrel
  by_cases hj:i<n
  ·have hl2:(i:Int)<(n:Int):=by omega
   obtain⟨rfl,hg⟩:=hsl.out (by omega)
   have hk:wr.cell? ⟨gb,go+i,none⟩=some (.int .i64 (f i)):=(HBr.cell (p:=⟨gb,go+i,none⟩) hg).trans (hc.out i hj)
   have hbt:=hb1.out i hj
   have hno2:f i≠x->Hid (∀j,j<i+1->f j≠x):=fun h j hj2=>by
    by_cases e:j=i
    ·subst e;exact h
    ·exact hno.out j (by omega)
   have e1:IntKind.i64.wrap ((i:Int)+1)=((i+1:Nat):Int):=by rw[IntKind.wrap_i64];omega
   obtain⟨y,ey⟩: ∃y,f i=y:=⟨_,rfl⟩
   rw[ey] at hk hbt hno2
   clear ey
   by_cases hxy:y=x
   ·obtain rfl:=hbt hxy
    have hq:(y==x)=true:=by simpa using hxy
    clear hno2 hbt hxy
    go_wp2
    exact bodyPost_ret (v:= .bool true) (by simp[results,Tryz.results38,go_sem]) rfl ⟨rfl,HBr⟩
   ·have h2:=hno2 hxy
    have hq:(y==x)=false:=by simpa using hxy
    clear hno2 hbt hxy
    go_wp2
    refine⟨⟨i+1,by omega,by simp,h2,HBr⟩,?_⟩
    simp[intOf];omega
  ·have hl2: ¬(i:Int)<(n:Int):=by omega
   have hin:i=n:=by omega
   subst hin
   obtain rfl:=hb0.out hno.out
   go_wp2
   exact bodyPost_ret (v:= .bool false) (by simp[results,Tryz.results38,go_sem]) rfl ⟨rfl,HBr⟩
theorem cHasInt(xs:List Int)(v:Value)(x:Int)(w:World)(hl:xs.length<=1000)(hv:IL w v xs):CC 38 #[v,.int .i64 x] w (.bool (decide (x∈xs))):=by
 obtain⟨sl,gb,go,cap,rfl,h2,h3,h4,h5,h6⟩:=hv
 refine hasInt_core sl xs.length cap gb go (fun j=>xs.getD j 0) x _ w hl (fun h=>⟨h4.resolve_left (fun e=>by subst e;simp at h),h5.resolve_left (by omega)⟩) h6 (fun j hj h=>?_) (fun h=>?_)
 ·rw[decide_eq_true_iff,<-h];simp[List.getElem?_eq_getElem hj]
 ·rw[decide_eq_false_iff_not]
  intro hm
  obtain⟨j,hj,e⟩:=List.mem_iff_getElem.1 hm
  exact h j hj (by simp[List.getElem?_eq_getElem hj,e])
theorem cOrder(w:World):CC 21 #[] w (NV 581039633):=by
 have e:NV 581039633=A4 581039633 0 0 0:=NV_small (by omega) (by omega)
 rw[e]
 go_enter Tryz.func21,Tryz.ntmps21
 go_wp2
 exact bodyPost_ret (v:=A4 581039633 0 0 0) (by simp[results,Tryz.results21,go_sem]) rfl ⟨rfl,Z0 (Z2 w) _⟩
theorem pig: ∀(x:Nat) (out:List Int),(∀y:Nat,1<=y->y<=x->(y:Int)∈out)->x<=out.length
 | 0,out,h=>Nat.zero_le _
 | x+1,out,h=>by
  have hm:=h (x+1) (by omega) (Nat.le_refl _)
  have:=pig x (out.erase ((x+1:Nat):Int)) (fun y h1 h2=>(List.mem_erase_of_ne (by omega)).2 (h y h1 (by omega)))
  rw[List.length_erase_of_mem hm] at this
  have:=List.length_pos_of_mem hm
  omega
theorem Apart.snoc{out:List Int}{x:Int}(h:Apart out)(hx:x∉out)(h1:1<=x)(h2:x<64):Apart (out++[x]):=by
 refine⟨List.nodup_append.2 ⟨h.1,by simp,fun a ha b hb=>?_⟩,fun y hy=>?_⟩
 ·simp at hb;subst hb;exact fun e=>hx (e▸ha)
 ·rcases List.mem_append.1 hy with h3 | h3
  ·exact h.2 y h3
  ·simp at h3;subst h3;exact⟨h1,h2⟩
theorem bsN0(w:World):(Instr.buildSlice 25 0 #[]).run Tryz.prog w= .ok (.slice (some ⟨w.heap.size,0,none⟩) 0 0) (w.alloc (.cells #[] 24)):=by kernel_rfl
set_option maxHeartbeats 8000000 in
theorem apart_core(sl:Option Addr)(L cap gl ol n:Nat)(f:Nat->Int)(w:World)(hn:n<=20)(hL:L<=9223372036854775807)(hsl:Hid (0<L->sl=some ⟨gl,ol,none⟩/\gl<w.heap.size))(hc:Hid (∀j,j<L->w.cell? ⟨gl,ol+j,none⟩=some (.int .i64 (f j))))(hA:Hid (∀j,j<L-> ∃k:Nat,k<40/\ ∀u,CC 18 #[.int .i64 (f j),.int .i64 40] u (.int .i64 (k:Int)))):
 Calls Tryz.prog 17 #[.slice sl L cap,.int .i64 (n:Int)] w fun e u=> ∃y,e= .returned y/\ ∃out:List Int,out.length=n/\Apart out/\IL u y out/\Bw w u:=by
 have hb0:=bsI0
 have hb1:=bsI1
 go_enter Tryz.func17,Tryz.ntmps17
 go_wp2_with fail
 go_loopw [6,5] (fun s6 s5 wr=> ∃(i m bo co:Nat) (out:List Int) (zs:List Value),i<=L/\m<=n/\s6= .int .i64 (i:Int)/\s5= .slice (some ⟨bo,0,none⟩) m co/\Hid (out.length=m)/\Apart out/\m<=co/\zs.length=co -m/\w.heap.size<=bo/\bo<wr.heap.size/\Hid (CV wr bo (iV out++zs))/\Bw w wr) (fun s6 _ _=>L -(intOf s6).toNat)
 case atStart=>exact⟨0,0,w.heap.size,0,[],[],by omega,by omega,rfl,rfl,rfl,⟨List.nodup_nil,fun x hx=>by cases hx⟩,by omega,rfl,Nat.le_refl _,by simp,(fun j v h=>by simp[iV] at h),Z0 (Z2 w) _⟩
 case round=>
  obtain⟨i,m,bo,co,out,zs,hi,hmn,rfl,rfl,hol,hap,hmc,hzl,hlo,hlt,KV,HBr⟩:=hrel
  by_cases hj:i<L/\m<n
  ·obtain⟨hj1,hj2⟩:=hj
   have hl1:decide ((i:Int)<(L:Int))=true:=by simp;omega
   have hl2:decide ((m:Int)<(n:Int))=true:=by simp;omega
   have hl3:(i:Int)<(L:Int):=by omega
   obtain⟨rfl,hg⟩:=hsl.out (by omega)
   have hk:wr.cell? ⟨gl,ol+i,none⟩=some (.int .i64 (f i)):=(HBr.cell (p:=⟨gl,ol+i,none⟩) hg).trans (hc.out i hj1)
   obtain⟨k,hk40,hAk⟩:=hA.out i hj1
   have hAw:=hAk wr
   have e1:IntKind.i64.wrap ((i:Int)+1)=((i+1:Nat):Int):=by rw[IntKind.wrap_i64];omega
   have e2:IntKind.i64.wrap (1+(k:Int))=((k+1:Nat):Int):=by rw[IntKind.wrap_i64];omega
   obtain⟨y,ey⟩: ∃y,f i=y:=⟨_,rfl⟩
   rw[ey] at hk hAw
   clear ey hAk
   obtain⟨x,ex⟩: ∃x:Nat,k+1=x:=⟨_,rfl⟩
   rw[ex] at e2
   have hx1:1<=x:=by omega
   have hx2:x<64:=by omega
   clear ex
   by_cases hin:(x:Int)∈out
   ·have hH:Hid (∀u,Bw wr u->CC 38 #[.slice (some ⟨bo,0,none⟩) m co,.int .i64 (x:Int)] u (.bool true)):=fun u hB=>by
     have:=cHasInt out _ (x:Int) u (by rw[hol.out];omega) ((il_row hlt KV.out hol.out hmc).up hB)
     rwa [decide_eq_true hin] at this
    clear hin
    go_wp2_with (first
     | (go_at_call 18;refine hAw.mono ?_;clear hAw;rintro e ua ⟨rfl,hBa⟩;replace KV:Hid (CV ua bo (iV out++zs)):=CV.below KV.out hBa hlt;have hsa:=hBa.size;replace hH:=hH.out ua hBa;replace HBr:=Z4 HBr hBa)
     | (go_at_call 38;refine hH.mono ?_;clear hH;rintro e ub ⟨rfl,hBb⟩;replace KV:Hid (CV ub bo (iV out++zs)):=CV.below KV.out hBb (by omega);have hsb:=hBb.size;replace HBr:=Z4 HBr hBb))
    refine⟨⟨i+1,m,bo,co,out,zs,by omega,by omega,by simp,rfl,hol,hap,hmc,hzl,hlo,by omega,KV,HBr⟩,?_⟩
    simp[intOf];omega
   ·have hH:Hid (∀u,Bw wr u->CC 38 #[.slice (some ⟨bo,0,none⟩) m co,.int .i64 (x:Int)] u (.bool false)):=fun u hB=>by
     have:=cHasInt out _ (x:Int) u (by rw[hol.out];omega) ((il_row hlt KV.out hol.out hmc).up hB)
     rwa [decide_eq_false hin] at this
    have hap2:=hap.snoc hin (by omega) (by omega)
    clear hin hap
    go_wp2_with (first
     | (go_at_call 18;refine hAw.mono ?_;clear hAw;rintro e ua ⟨rfl,hBa⟩;replace KV:Hid (CV ua bo (iV out++zs)):=CV.below KV.out hBa hlt;have hsa:=hBa.size;replace hH:=hH.out ua hBa;replace HBr:=Z4 HBr hBa)
     | (go_at_call 38;refine hH.mono ?_;clear hH;rintro e ub ⟨rfl,hBb⟩;replace KV:Hid (CV ub bo (iV out++zs)):=CV.below KV.out hBb (by omega);have hsb:=hBb.size;replace HBr:=Z4 HBr hBb;obtain⟨v2,uc,r2,rg2,b5,c5,z5,rfl,f1,f2,f3,f4,f5⟩:=app_i (ty:=26) (x:=(x:Int)) KV.out (by omega) hol.out hmc hzl (by omega);have f5:Hid _:=f5;have rg2:Hid _:=rg2)
     | (at_builtin;refine Y6 rfl _ _ 26 rfl _ _ _ rfl rfl r2 ?_;clear r2))
    have hBa2:Bw w (ub.alloc (.cells #[.int .i64 (x:Int)] 3)):=Z0 HBr _
    have hBc:Bw w uc:=hBa2.grown rg2.out hBa2.size (fun k e=>by cases e;exact hlo)
    refine⟨⟨i+1,m+1,b5,c5,out++[(x:Int)],z5,by omega,by omega,by simp,rfl,by have:=hol.out;show (out++[(x:Int)]).length=m+1;rw[List.length_append,this];rfl,hap2,f3,by rw[f4,Nat.mul_one],by have:=hBa2.size;rcases f1 with h | h<;>omega,f2,f5,hBc⟩,?_⟩
    simp[intOf];omega
  ·obtain⟨wo,rfl⟩: ∃x,x=wr:=⟨_,rfl⟩
   have hend:(decide ((i:Int)<(L:Int))=false/\ ¬(i:Int)<(L:Int))\/(decide ((i:Int)<(L:Int))=true/\(i:Int)<(L:Int)/\decide ((m:Int)<(n:Int))=false/\ ¬(m:Int)<(n:Int)):=by
    by_cases h:i<L
    ·right;refine⟨?_,?_,?_,?_⟩<;>simp<;>omega
    ·left;refine⟨?_,?_⟩<;>simp<;>omega
   rcases hend with⟨h1,h3⟩ | ⟨h1,h3,h2,h4⟩
   all_goals
    go_wp2_with fail
    go_loopw [8,5] (fun s8 s5 wx=> ∃(x m bo co:Nat) (out:List Int) (zs:List Value),1<=x/\x<=n+1/\m<=n/\s8= .int .i64 (x:Int)/\s5= .slice (some ⟨bo,0,none⟩) m co/\Hid (out.length=m)/\Hid (∀y:Nat,1<=y->y<x->(y:Int)∈out)/\Apart out/\m<=co/\zs.length=co -m/\w.heap.size<=bo/\bo<wx.heap.size/\Hid (CV wx bo (iV out++zs))/\Bw w wx) (fun s8 _ _=>n+2 -(intOf s8).toNat)
    case atStart=>exact⟨1,m,bo,co,out,zs,Nat.le_refl _,by omega,hmn,rfl,rfl,hol,(fun y h1 h2=>by omega),hap,hmc,hzl,hlo,hlt,KV,HBr⟩
    case round=>
     clear hzl hmc hlo hlt KV HBr hol hap
     obtain⟨x,m,bo,co,out,zs,hx1,hxn,hmn,rfl,rfl,hol,hall,hap,hmc,hzl,hlo,hlt,KV,HBr⟩:=hrel
     by_cases hj:m<n
     ·have hl2:(m:Int)<(n:Int):=by omega
      have hxm:x -1<=m:=by
       have:=pig (x -1) out (fun y h1 h2=>hall.out y h1 (by omega))
       rwa [hol.out] at this
      have hxn2:x<=n:=by omega
      have e1:IntKind.i64.wrap ((x:Int)+1)=((x+1:Nat):Int):=by rw[IntKind.wrap_i64];omega
      by_cases hin:(x:Int)∈out
      ·have hH:Hid (CC 38 #[.slice (some ⟨bo,0,none⟩) m co,.int .i64 (x:Int)] wr (.bool true)):=by
        have:=cHasInt out _ (x:Int) wr (by rw[hol.out];omega) (il_row hlt KV.out hol.out hmc)
        rwa [decide_eq_true hin] at this
       have hall2:Hid (∀y:Nat,1<=y->y<x+1->(y:Int)∈out):=fun y h1 h2=>by
        by_cases e:y=x
        ·subst e;exact hin
        ·exact hall.out y h1 (by omega)
       clear hin hall
       go_wp2_with (go_at_call 38;refine hH.out.mono ?_;clear hH;rintro e ub ⟨rfl,hBb⟩;replace KV:Hid (CV ub bo (iV out++zs)):=CV.below KV.out hBb (by omega);have hsb:=hBb.size;replace HBr:=Z4 HBr hBb)
       refine⟨⟨x+1,m,bo,co,out,zs,by omega,by omega,hmn,by simp,rfl,hol,hall2,hap,hmc,hzl,hlo,by omega,KV,HBr⟩,?_⟩
       simp[intOf];omega
      ·have hH:Hid (CC 38 #[.slice (some ⟨bo,0,none⟩) m co,.int .i64 (x:Int)] wr (.bool false)):=by
        have:=cHasInt out _ (x:Int) wr (by rw[hol.out];omega) (il_row hlt KV.out hol.out hmc)
        rwa [decide_eq_false hin] at this
       have hall2:Hid (∀y:Nat,1<=y->y<x+1->(y:Int)∈out++[(x:Int)]):=fun y h1 h2=>by
        by_cases e:y=x
        ·subst e;simp
        ·exact List.mem_append_left _ (hall.out y h1 (by omega))
       have hap2:=hap.snoc hin (by omega) (by omega)
       clear hin hap hall
       go_wp2_with (first
        | (go_at_call 38;refine hH.out.mono ?_;clear hH;rintro e ub ⟨rfl,hBb⟩;replace KV:Hid (CV ub bo (iV out++zs)):=CV.below KV.out hBb (by omega);have hsb:=hBb.size;replace HBr:=Z4 HBr hBb;obtain⟨v2,uc,r2,rg2,b5,c5,z5,rfl,f1,f2,f3,f4,f5⟩:=app_i (ty:=26) (x:=(x:Int)) KV.out (by omega) hol.out hmc hzl (by omega);have f5:Hid _:=f5;have rg2:Hid _:=rg2)
        | (at_builtin;refine Y6 rfl _ _ 26 rfl _ _ _ rfl rfl r2 ?_;clear r2))
       have hBa2:Bw w (ub.alloc (.cells #[.int .i64 (x:Int)] 3)):=Z0 HBr _
       have hBc:Bw w uc:=hBa2.grown rg2.out hBa2.size (fun k e=>by cases e;exact hlo)
       refine⟨⟨x+1,m+1,b5,c5,out++[(x:Int)],z5,by omega,by omega,by omega,by simp,rfl,by have:=hol.out;show (out++[(x:Int)]).length=m+1;rw[List.length_append,this];rfl,hall2,hap2,f3,by rw[f4,Nat.mul_one],by have:=hBa2.size;rcases f1 with h | h<;>omega,f2,f5,hBc⟩,?_⟩
       simp[intOf];omega
     ·have hl2: ¬(m:Int)<(n:Int):=by omega
      have hmn2:m=n:=by omega
      have hfin:IL wr (.slice (some ⟨bo,0,none⟩) m co) out:=il_row hlt KV.out hol.out hmc
      have hol2:out.length=n:=hol.out.trans hmn2
      have hol2:Hid _:=hol2
      have hmn2:Hid _:=hmn2
      have hfin:Hid _:=hfin
      go_wp2
      exact bodyPost_ret (v:= .slice (some ⟨bo,0,none⟩) m co) (by simp[results,Tryz.results17,go_sem];exact hmn2.out.symm) rfl ⟨_,rfl,out,hol2.out,hap,hfin.out,HBr⟩
end Go.Proofs.YtgieoghechekpaaGreatDoor
