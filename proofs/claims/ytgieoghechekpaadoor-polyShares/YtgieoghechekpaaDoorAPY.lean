import Derived.Test.YtgieoghechekpaaDoorAPW
namespace Go.Proofs.YtgieoghechekpaaDoor
set_option linter.unusedVariables false
set_option linter.unusedSimpArgs false
set_option maxRecDepth 100000
set_option maxHeartbeats 4000000
open Go.RowKit
theorem bsN0(w:World):(Instr.buildSlice 22 0 #[]).run Tryd.prog w= .ok (.slice (some ⟨w.heap.size,0,none⟩) 0 0) (w.alloc (.cells #[] 26)):=by kernel_rfl
theorem app_n0{u:World}{b m c:Nat}{sl:Option Addr}{gb go:Nat}{ns:List Int}{ty:TypeId}(hb:b<u.heap.size)(hc:CV u b [])(hm:ns.length=m)(hl:m<=100000)(hs:m=0\/sl=some ⟨gb,go,none⟩)(hS:SN u gb go ns):
 ∃v u',(Builtin.append_ #[22,22] ty #[.slice (some ⟨b,0,none⟩) 0 0,.slice sl m c]).run Tryd.prog u= .ok v u'/\Bw u u'/\(∃b2 c2,v= .slice (some ⟨b2,0,none⟩) m c2)/\NL u' v ns:=by
 obtain⟨ti,hti,htm⟩:=Option.map_eq_some_iff.1 infoNt
 simp only[Prod.mk.injEq] at htm
 obtain⟨hzv,hsz,hby⟩:=htm
 obtain⟨v',u',hr,hB,hg⟩:=run_appF (P:=Tryd.prog) u (ty:=ty) Tryd.underlying22 hti hzv (by rw[hsz];rfl) (lo:=0) (n:=0) (m:=m) (xs:=[]) (news:=flN ns) (y:= .slice sl m c) hc (Nat.zero_le _) (Nat.zero_le _) hb (by rw[hsz];rfl) ⟨sl,c,rfl,hs.imp id fun e=>⟨_,e,SN.news hS⟩⟩ (by rw[hsz,flN_len];omega) (by rw[hby];omega) (by omega)
 rw[hsz,List.nil_append,Nat.zero_add] at hg
 obtain⟨b2,c2,zs,rfl,h1,h2,h3,h4,h5⟩:=hg
 refine⟨_,u',hr,hB,⟨b2,c2,rfl⟩,⟨_,b2,0,c2,by rw[hm],by omega,(by simp),.inr rfl,.inr h2,fun j v hj=>?_⟩⟩
 rw[Nat.zero_add]
 exact(h5 j v (by rw[List.getElem?_append_left (List.getElem?_eq_some_iff.1 hj).1];exact hj)).1
theorem few_core(sl:Option Addr)(len cap m:Nat)(gb go:Nat)(ns:List Int)(w:World)(hm:min ((len:Nat):Int) 12=((m:Nat):Int))(hml:Hid (ns.length=m))(hmn:m<=len)(hlc:len<=cap)(hsn:sl=none->cap=0)(hm12:m<=12)(hs:Hid (m=0\/sl=some ⟨gb,go,none⟩))(hg:Hid (m=0\/gb<w.heap.size))(hS:Hid (SN w gb go ns)):
 Calls Tryd.prog 5 #[.slice sl len cap] w fun e u=> ∃y,e= .returned y/\NL u y ns/\Bw w u:=by
 have hbs:=bsN0
 have hsl:=slH sl len cap m hmn hlc hsn
 obtain⟨v',u',r,hB,⟨b2,c2,rfl⟩,hN⟩:=app_n0 (u:=w.alloc (.cells #[] 26)) (b:=w.heap.size) (m:=m) (c:=cap) (sl:=sl) (gb:=gb) (go:=go) (ns:=ns) (ty:=22) (by simp) (CV.new w [] 26) hml.out (by omega) hs.out (SN.below2 (m:=w.heap.size) hS.out (Z0 (Z2 w) _) (hg.out.imp (fun e=>hml.out.trans e) id))
 have hB2:Bw w u':=Z4 (Z0 (Z2 w) (.cells #[] 26)) hB
 have hN:Hid (NL u' (.slice (some ⟨b2,0,none⟩) m c2) ns):=hN
 clear hsn hB
 go_enter Tryd.func5,Tryd.ntmps5
 go_wp2_with (at_builtin;refine Y0 rfl _ _ 22 rfl _ _ _ rfl rfl r ?_;clear r)
 exact bodyPost_ret (v:= .slice (some ⟨b2,0,none⟩) m c2) (by simp[results,Tryd.results5,go_sem]) rfl ⟨_,rfl,hN.out,hB2⟩
set_option maxHeartbeats 8000000 in
theorem apart_core(sl:Option Addr)(L cap gl ol n:Nat)(f:Nat->Int)(w:World)(hn:n<=20)(hL:L<=9223372036854775807)(hsl:Hid (0<L->sl=some ⟨gl,ol,none⟩/\gl<w.heap.size))(hc:Hid (∀j,j<L->w.cell? ⟨gl,ol+j,none⟩=some (.int .i64 (f j))))(hA:Hid (∀j,j<L-> ∃k:Nat,k<40/\ ∀u,CC 18 #[.int .i64 (f j),.int .i64 40] u (.int .i64 (k:Int)))):
 Calls Tryd.prog 8 #[.slice sl L cap,.int .i64 (n:Int)] w fun e u=> ∃y,e= .returned y/\ ∃out:List Int,out.length=n/\Apart out/\IL u y out/\Bw w u:=by
 have hb0:=bsI0
 have hb1:=bsI1
 go_enter Tryd.func8,Tryd.ntmps8
 go_wp2_with fail
 go_loopw [6,5] (fun s6 s5 wr=> ∃(i m bo co:Nat) (out:List Int) (zs:List Value),i<=L/\m<=n/\s6= .int .i64 (i:Int)/\s5= .slice (some ⟨bo,0,none⟩) m co/\Hid (out.length=m)/\Apart out/\m<=co/\zs.length=co -m/\w.heap.size<=bo/\bo<wr.heap.size/\Hid (CV wr bo (iV out++zs))/\Bw w wr) (fun s6 _ _=>L -(intOf s6).toNat)
 case atStart=>exact⟨0,0,w.heap.size,0,[],[],by omega,by omega,rfl,rfl,rfl,⟨List.nodup_nil,fun x hx=>by cases hx⟩,by omega,rfl,Nat.le_refl _,by simp,(fun j v h=>by simp[iV] at h),Z0 (Z2 w) _⟩
 case round=>
  obtain⟨i,m,bo,co,out,zs,hi,hmn,rfl,rfl,hol,hap,hmc,hzl,hlo,hlt,KV,HBr⟩:=hrel
  by_cases hj:i<L/\m<n
  ·obtain⟨hj1,hj2⟩:=hj
   have hl1:decide ((i:Int)<(L:Int))=true:=by simp;omega
   have hl2:decide ((m:Int)<(n:Int))=true:=by simp;omega
   have hl3:(i:Int)<(L:Int):=by omega
   obtain⟨rfl,hg⟩:=hsl.out (by omega)
   have hk:wr.cell? ⟨gl,ol+i,none⟩=some (.int .i64 (f i)):=(HBr.cell (p:=⟨gl,ol+i,none⟩) hg).trans (hc.out i hj1)
   obtain⟨k,hk40,hAk⟩:=hA.out i hj1
   have hAw:=hAk wr
   have e1:IntKind.i64.wrap ((i:Int)+1)=((i+1:Nat):Int):=by rw[IntKind.wrap_i64];omega
   have e2:IntKind.i64.wrap (1+(k:Int))=((k+1:Nat):Int):=by rw[IntKind.wrap_i64];omega
   obtain⟨y,ey⟩: ∃y,f i=y:=⟨_,rfl⟩
   rw[ey] at hk hAw
   clear ey hAk
   obtain⟨x,ex⟩: ∃x:Nat,k+1=x:=⟨_,rfl⟩
   rw[ex] at e2
   have hx1:1<=x:=by omega
   have hx2:x<64:=by omega
   clear ex
   by_cases hin:(x:Int)∈out
   ·have hH:Hid (∀u,Bw wr u->CC 19 #[.slice (some ⟨bo,0,none⟩) m co,.int .i64 (x:Int)] u (.bool true)):=fun u hB=>by
     have:=cHasInt out _ (x:Int) u (by rw[hol.out];omega) ((il_row hlt KV.out hol.out hmc).up hB)
     rwa [decide_eq_true hin] at this
    clear hin
    go_wp2_with (first
     | (go_at_call 18;refine hAw.mono ?_;clear hAw;rintro e ua ⟨rfl,hBa⟩;replace KV:Hid (CV ua bo (iV out++zs)):=CV.below KV.out hBa hlt;have hsa:=hBa.size;replace hH:=hH.out ua hBa;replace HBr:=Z4 HBr hBa)
     | (go_at_call 19;refine hH.mono ?_;clear hH;rintro e ub ⟨rfl,hBb⟩;replace KV:Hid (CV ub bo (iV out++zs)):=CV.below KV.out hBb (by omega);have hsb:=hBb.size;replace HBr:=Z4 HBr hBb))
    refine⟨⟨i+1,m,bo,co,out,zs,by omega,by omega,by simp,rfl,hol,hap,hmc,hzl,hlo,by omega,KV,HBr⟩,?_⟩
    simp[intOf];omega
   ·have hH:Hid (∀u,Bw wr u->CC 19 #[.slice (some ⟨bo,0,none⟩) m co,.int .i64 (x:Int)] u (.bool false)):=fun u hB=>by
     have:=cHasInt out _ (x:Int) u (by rw[hol.out];omega) ((il_row hlt KV.out hol.out hmc).up hB)
     rwa [decide_eq_false hin] at this
    have hap2:=hap.snoc hin (by omega) (by omega)
    clear hin hap
    go_wp2_with (first
     | (go_at_call 18;refine hAw.mono ?_;clear hAw;rintro e ua ⟨rfl,hBa⟩;replace KV:Hid (CV ua bo (iV out++zs)):=CV.below KV.out hBa hlt;have hsa:=hBa.size;replace hH:=hH.out ua hBa;replace HBr:=Z4 HBr hBa)
     | (go_at_call 19;refine hH.mono ?_;clear hH;rintro e ub ⟨rfl,hBb⟩;replace KV:Hid (CV ub bo (iV out++zs)):=CV.below KV.out hBb (by omega);have hsb:=hBb.size;replace HBr:=Z4 HBr hBb;obtain⟨v2,uc,r2,rg2,b5,c5,z5,rfl,f1,f2,f3,f4,f5⟩:=app_i (ty:=23) (x:=(x:Int)) KV.out (by omega) hol.out hmc hzl (by omega);have f5:Hid _:=f5;have rg2:Hid _:=rg2)
     | (at_builtin;refine Y0 rfl _ _ 23 rfl _ _ _ rfl rfl r2 ?_;clear r2))
    have hBa2:Bw w (ub.alloc (.cells #[.int .i64 (x:Int)] 3)):=Z0 HBr _
    have hBc:Bw w uc:=hBa2.grown rg2.out hBa2.size (fun k e=>by cases e;exact hlo)
    refine⟨⟨i+1,m+1,b5,c5,out++[(x:Int)],z5,by omega,by omega,by simp,rfl,by have:=hol.out;show (out++[(x:Int)]).length=m+1;rw[List.length_append,this];rfl,hap2,f3,by rw[f4,Nat.mul_one],by have:=hBa2.size;rcases f1 with h | h<;>omega,f2,f5,hBc⟩,?_⟩
    simp[intOf];omega
  ·obtain⟨wo,rfl⟩: ∃x,x=wr:=⟨_,rfl⟩
   have hend:(decide ((i:Int)<(L:Int))=false/\ ¬(i:Int)<(L:Int))\/(decide ((i:Int)<(L:Int))=true/\(i:Int)<(L:Int)/\decide ((m:Int)<(n:Int))=false/\ ¬(m:Int)<(n:Int)):=by
    by_cases h:i<L
    ·right;refine⟨?_,?_,?_,?_⟩<;>simp<;>omega
    ·left;refine⟨?_,?_⟩<;>simp<;>omega
   rcases hend with⟨h1,h3⟩ | ⟨h1,h3,h2,h4⟩
   all_goals
    go_wp2_with fail
    go_loopw [8,5] (fun s8 s5 wx=> ∃(x m bo co:Nat) (out:List Int) (zs:List Value),1<=x/\x<=n+1/\m<=n/\s8= .int .i64 (x:Int)/\s5= .slice (some ⟨bo,0,none⟩) m co/\Hid (out.length=m)/\Hid (∀y:Nat,1<=y->y<x->(y:Int)∈out)/\Apart out/\m<=co/\zs.length=co -m/\w.heap.size<=bo/\bo<wx.heap.size/\Hid (CV wx bo (iV out++zs))/\Bw w wx) (fun s8 _ _=>n+2 -(intOf s8).toNat)
    case atStart=>exact⟨1,m,bo,co,out,zs,Nat.le_refl _,by omega,hmn,rfl,rfl,hol,(fun y h1 h2=>by omega),hap,hmc,hzl,hlo,hlt,KV,HBr⟩
    case round=>
     clear hzl hmc hlo hlt KV HBr hol hap
     obtain⟨x,m,bo,co,out,zs,hx1,hxn,hmn,rfl,rfl,hol,hall,hap,hmc,hzl,hlo,hlt,KV,HBr⟩:=hrel
     by_cases hj:m<n
     ·have hl2:(m:Int)<(n:Int):=by omega
      have hxm:x -1<=m:=by
       have:=pig (x -1) out (fun y h1 h2=>hall.out y h1 (by omega))
       rwa [hol.out] at this
      have hxn2:x<=n:=by omega
      have e1:IntKind.i64.wrap ((x:Int)+1)=((x+1:Nat):Int):=by rw[IntKind.wrap_i64];omega
      by_cases hin:(x:Int)∈out
      ·have hH:Hid (CC 19 #[.slice (some ⟨bo,0,none⟩) m co,.int .i64 (x:Int)] wr (.bool true)):=by
        have:=cHasInt out _ (x:Int) wr (by rw[hol.out];omega) (il_row hlt KV.out hol.out hmc)
        rwa [decide_eq_true hin] at this
       have hall2:Hid (∀y:Nat,1<=y->y<x+1->(y:Int)∈out):=fun y h1 h2=>by
        by_cases e:y=x
        ·subst e;exact hin
        ·exact hall.out y h1 (by omega)
       clear hin hall
       go_wp2_with (go_at_call 19;refine hH.out.mono ?_;clear hH;rintro e ub ⟨rfl,hBb⟩;replace KV:Hid (CV ub bo (iV out++zs)):=CV.below KV.out hBb (by omega);have hsb:=hBb.size;replace HBr:=Z4 HBr hBb)
       refine⟨⟨x+1,m,bo,co,out,zs,by omega,by omega,hmn,by simp,rfl,hol,hall2,hap,hmc,hzl,hlo,by omega,KV,HBr⟩,?_⟩
       simp[intOf];omega
      ·have hH:Hid (CC 19 #[.slice (some ⟨bo,0,none⟩) m co,.int .i64 (x:Int)] wr (.bool false)):=by
        have:=cHasInt out _ (x:Int) wr (by rw[hol.out];omega) (il_row hlt KV.out hol.out hmc)
        rwa [decide_eq_false hin] at this
       have hall2:Hid (∀y:Nat,1<=y->y<x+1->(y:Int)∈out++[(x:Int)]):=fun y h1 h2=>by
        by_cases e:y=x
        ·subst e;simp
        ·exact List.mem_append_left _ (hall.out y h1 (by omega))
       have hap2:=hap.snoc hin (by omega) (by omega)
       clear hin hap hall
       go_wp2_with (first
        | (go_at_call 19;refine hH.out.mono ?_;clear hH;rintro e ub ⟨rfl,hBb⟩;replace KV:Hid (CV ub bo (iV out++zs)):=CV.below KV.out hBb (by omega);have hsb:=hBb.size;replace HBr:=Z4 HBr hBb;obtain⟨v2,uc,r2,rg2,b5,c5,z5,rfl,f1,f2,f3,f4,f5⟩:=app_i (ty:=23) (x:=(x:Int)) KV.out (by omega) hol.out hmc hzl (by omega);have f5:Hid _:=f5;have rg2:Hid _:=rg2)
        | (at_builtin;refine Y0 rfl _ _ 23 rfl _ _ _ rfl rfl r2 ?_;clear r2))
       have hBa2:Bw w (ub.alloc (.cells #[.int .i64 (x:Int)] 3)):=Z0 HBr _
       have hBc:Bw w uc:=hBa2.grown rg2.out hBa2.size (fun k e=>by cases e;exact hlo)
       refine⟨⟨x+1,m+1,b5,c5,out++[(x:Int)],z5,by omega,by omega,by omega,by simp,rfl,by have:=hol.out;show (out++[(x:Int)]).length=m+1;rw[List.length_append,this];rfl,hall2,hap2,f3,by rw[f4,Nat.mul_one],by have:=hBa2.size;rcases f1 with h | h<;>omega,f2,f5,hBc⟩,?_⟩
       simp[intOf];omega
     ·have hl2: ¬(m:Int)<(n:Int):=by omega
      have hmn2:m=n:=by omega
      have hfin:IL wr (.slice (some ⟨bo,0,none⟩) m co) out:=il_row hlt KV.out hol.out hmc
      have hol2:out.length=n:=hol.out.trans hmn2
      have hol2:Hid _:=hol2
      have hmn2:Hid _:=hmn2
      have hfin:Hid _:=hfin
      go_wp2
      exact bodyPost_ret (v:= .slice (some ⟨bo,0,none⟩) m co) (by simp[results,Tryd.results8,go_sem];exact hmn2.out.symm) rfl ⟨_,rfl,out,hol2.out,hap,hfin.out,HBr⟩
end Go.Proofs.YtgieoghechekpaaDoor
