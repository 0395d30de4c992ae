import Derived.Test.YtdhlekdohebbbaaGreatDoorU0
namespace Go.Proofs.YtdhlekdohebbbaaGreatDoor
set_option linter.unusedVariables false
set_option linter.unusedSimpArgs false
set_option maxRecDepth 100000
set_option maxHeartbeats 4000000
open Go.RowKit
theorem step4(b:Int)(j q:Nat)(h0:0<=b)(h1:b<16)(hj:j<q)(hq:q<16):IntKind.u64.wrap (b*2^(j*4)*16)=b*2^((j+1)*4):=by
 rw[show (j+1)*4=j*4+4 by omega,Int.pow_add,show (2:Int)^4=16 by rfl,IntKind.wrap_u64,Int.mul_assoc]
 refine Int.emod_eq_of_lt (Int.mul_nonneg h0 (by have:=Yt (j*4);omega)) ?_
 have hp:(2:Int)^(j*4)<=2^56:=by
  obtain⟨d,hd⟩: ∃d,56=j*4+d:=⟨56 -j*4,by omega⟩
  rw[hd,Int.pow_add]
  have p1:=Yt d
  have:=Int.mul_le_mul_of_nonneg_left (show (1:Int)<=2^d by omega) (Int.le_of_lt (Yt (j*4)))
  omega
 have m:b*(2^(j*4)*16)<=15*(2^(j*4)*16):=Int.mul_le_mul_of_nonneg_right (by omega) (by have:=Yt (j*4);omega)
 have:(2:Int)^56=72057594037927936:=by rfl
 omega
def PR(cs:List Int):Value:=if isT cs=true then (if 64<cs.length then .tuple #[A4 0 0 0 0,iI 3] else .tuple #[A4 (Uk (cs.map ixv) 0 cs.length) (Uk (cs.map ixv) 1 cs.length) (Uk (cs.map ixv) 2 cs.length) (Uk (cs.map ixv) 3 cs.length),iI 0]) else .tuple #[A4 0 0 0 0,iI 2]
theorem Wq(cs:List Int)(hb:Yf cs)(hn:cs.length<=200)(w:World):CC 66 #[.string (strOfNums cs)] w (PR cs):=by
 unfold PR
 cases h:isT cs with
 | false=>rw[if_neg (by simp)];exact Parse_bad cs hb hn h w
 | true=>
  rw[if_pos rfl]
  by_cases hl:64<cs.length
  ·rw[if_pos hl];exact Parse_long cs hb hn h hl w
  ·rw[if_neg hl];exact Parse_any cs _ rfl hb h (by omega) w
set_option maxHeartbeats 8000000 in
theorem Xt(cs:List Int)(hb:Yf cs)(hn:cs.length<=200)(w:World):CC 20 #[.string (strOfNums cs)] w (PR cs):=by
 by_cases h0:cs.length=0
 ·have e:cs=[]:=List.eq_nil_of_length_eq_zero h0
  subst e
  go_enter Tryz.func20,Tryz.ntmps20
  have e0:strOfNums []=ByteArray.mk #[]:=rfl
  rw[e0]
  go_wp2
  refine bodyPost_ret (v:= .tuple #[A4 0 0 0 0,iI 2]) (by simp[results,Tryz.results20,go_sem]) rfl ⟨rfl,?_⟩
  iterate 6 all_goals (go_grown<;>try with_reducible refine below_drewN ?_ _)
 ·have k0: ∀W,(Instr.index 9 (.string (strOfNums cs)) (iI 0)).run Tryz.prog W= .ok (.int .u8 (cs.getD 0 0)) W:=fun W=>str_ix cs hb 0 (by omega) W
  have hS:(strOfNums cs).size=cs.length:=strOfNums_size cs
  have hix: ∀j,j<cs.length-> ∀W,(Instr.index 9 (.string (strOfNums cs)) (iI j)).run Tryz.prog W= .ok (.int .u8 (cs.getD j 0)) W:=fun j hj W=>str_ix cs hb j hj W
  have hbd: ∀j,0<=cs.getD j 0/\cs.getD j 0<256:=fun j=>by
   by_cases hj:j<cs.length
   ·have:=hb cs[j] (List.getElem_mem hj);simpa [List.getElem?_eq_getElem hj] using this
   ·simp[List.getElem?_eq_none (show cs.length<=j by omega)]
  have hne:(strOfNums cs).toList.isEmpty=false:=by
   rw[<-decide_eq_emptyBytes,decide_eq_false_iff_not]
   intro e
   have:=congrArg ByteArray.size e;rw[hS] at this;exact h0 this
  have PRf:Hid (isT cs=false->PR cs= .tuple #[A4 0 0 0 0,iI 2]):=fun h=>by unfold PR;rw[h,if_neg (by simp)]
  have PRl:Hid (isT cs=true->64<cs.length->PR cs= .tuple #[A4 0 0 0 0,iI 3]):=fun h h2=>by unfold PR;rw[h,if_pos rfl,if_pos h2]
  obtain⟨ds,eds⟩: ∃ds,ds=cs.map ixv:=⟨_,rfl⟩
  have PRn:Hid (isT cs=true-> ¬64<cs.length->PR cs= .tuple #[A4 (Uk ds 0 cs.length) (Uk ds 1 cs.length) (Uk ds 2 cs.length) (Uk ds 3 cs.length),iI 0]):=fun h h2=>by unfold PR;rw[h,if_pos rfl,if_neg h2,eds]
  have HD0:Hid (isT cs=true->Digs ds):=fun h=>by rw[eds];exact isT_digs h
  have HDV:Hid (∀k p,k<cs.length->p=cs.length -1 -k->dv ds p=ixv (cs.getD k 0)):=fun k p hk hp=>by
   subst hp;unfold dv;rw[eds]
   simp only[List.length_map]
   rw[show cs.length -1 -(cs.length -1 -k)=k by omega]
   simp[List.getElem?_eq_getElem hk]
  have hT: ¬(cs.getD 0 0=48/\1<cs.length)->(∀j,j<cs.length->0<=ixv (cs.getD j 0))->isT cs=true:=fun h2 h=>by
   have ha:=isT_all h rfl
   unfold isT;rw[ha];simp[h0];simp at h2;omega
  have hF:(cs.getD 0 0=48/\1<cs.length)->isT cs=false:=fun h2=>by unfold isT;rw[h2.1];simp[h2.2]
  obtain⟨n,en⟩: ∃n,cs.length=n:=⟨_,rfl⟩
  obtain⟨S,eS⟩: ∃S,strOfNums cs=S:=⟨_,rfl⟩
  obtain⟨c0,e0⟩: ∃c,cs.getD 0 0=c:=⟨_,rfl⟩
  rw[eS,e0] at k0
  rw[eS] at hne hS⊢
  rw[e0] at hT hF
  rw[en] at hS hix PRn PRl HDV hT hF h0 hn
  simp only[eS] at hix
  have EN:Hid _:=en
  have HIX:Hid _:=hix
  have HBD:Hid _:=hbd
  clear en e0 eS hix hbd eds hb
  obtain⟨R,eR⟩: ∃R,PR cs=R:=⟨_,rfl⟩
  rw[eR] at PRf PRl PRn⊢
  clear eR
  by_cases h1:c0=48/\1<n
  ·have f1:(1:Int)<n:=by omega
   obtain rfl:=h1.1
   have HF:Hid _:=PRf.out (hF h1)
   clear hT hF
   go_enter Tryz.func20,Tryz.ntmps20
   go_wp2
   refine bodyPost_ret (v:= .tuple #[A4 0 0 0 0,iI 2]) (by simp[results,Tryz.results20,go_sem]) rfl ⟨?_,?_⟩
   ·rw[HF.out]
   ·iterate 6 all_goals (go_grown<;>try with_reducible refine below_drewN ?_ _)
  ·have PRt:Hid _:=hT h1
   clear hT hF
   have h1': ¬(1:Int)<n\/((1:Int)<n/\c0≠48):=by omega
   rcases h1' with f1 | ⟨f1,f2⟩
   ·go_enter Tryz.func20,Tryz.ntmps20
    go_wp2
    go_loop [4] (fun vi=> ∃k:Nat,k<=n/\vi=iI k/\Hid (∀j,j<k->0<=ixv (cs.getD j 0))) (fun vi=>n -(intOf vi).toNat)
    case atStart=>exact⟨0,by omega,rfl,fun j hj=>by omega⟩
    case round=>
     obtain⟨k,hk,rfl,HK⟩:=hrel
     by_cases hlt:k<n
     ·have hlt':(k:Int)<n:=by omega
      have k1:=HIX.out k hlt
      have kb:=HBD.out k
      have HC:Hid _:=fun(h:ixv (cs.getD k 0)<0)=>PRf.out (isT_not (show k<cs.length by rw[EN.out];exact hlt) h)
      have HS:Hid _:=fun(h:0<=ixv (cs.getD k 0))=>(fun j (hj:j<k+1)=>(by
       by_cases e:j=k
       ·subst e;exact h
       ·exact HK.out j (by omega)): ∀j,j<k+1->0<=ixv (cs.getD j 0))
      generalize cs.getD k 0=c at *
      have h5:c<48\/(48<=c/\c<=57)\/(57<c/\c<97)\/(97<=c/\c<=102)\/102<c:=by omega
      rcases h5 with h | ⟨h,h'⟩ | ⟨h,h'⟩ | ⟨h,h'⟩ | h
      ·have f1: ¬48<=c:=by omega
       have f2: ¬97<=c:=by omega
       go_wp2
       refine bodyPost_ret (v:= .tuple #[A4 0 0 0 0,iI 2]) (by simp[results,Tryz.results20,go_sem]) rfl ⟨?_,?_⟩
       ·rw[HC.out (by unfold ixv;rw[if_neg (by omega),if_neg (by omega)];omega)]
       ·iterate 6 all_goals (go_grown<;>try with_reducible refine below_drewN ?_ _)
      ·have f2:(48:Int)<=c:=h
       go_wp2
       exact⟨⟨k+1,by omega,by go_num,HS.out (by unfold ixv;split<;>(try split)<;>omega)⟩,by simp[intOf];omega⟩
      ·have f0:(48:Int)<=c:=by omega
       have f1: ¬c<=57:=by omega
       have f2: ¬97<=c:=by omega
       go_wp2
       refine bodyPost_ret (v:= .tuple #[A4 0 0 0 0,iI 2]) (by simp[results,Tryz.results20,go_sem]) rfl ⟨?_,?_⟩
       ·rw[HC.out (by unfold ixv;rw[if_neg (by omega),if_neg (by omega)];omega)]
       ·iterate 6 all_goals (go_grown<;>try with_reducible refine below_drewN ?_ _)
      ·have f0:(48:Int)<=c:=by omega
       have f1: ¬c<=57:=by omega
       go_wp2
       exact⟨⟨k+1,by omega,by go_num,HS.out (by unfold ixv;split<;>(try split)<;>omega)⟩,by simp[intOf];omega⟩
      ·have f0:(48:Int)<=c:=by omega
       have f1: ¬c<=57:=by omega
       have f2:97<=c:=by omega
       have f3: ¬c<=102:=by omega
       go_wp2
       refine bodyPost_ret (v:= .tuple #[A4 0 0 0 0,iI 2]) (by simp[results,Tryz.results20,go_sem]) rfl ⟨?_,?_⟩
       ·rw[HC.out (by unfold ixv;rw[if_neg (by omega),if_neg (by omega)];omega)]
       ·iterate 6 all_goals (go_grown<;>try with_reducible refine below_drewN ?_ _)
     ·have hkn:k=n:=by omega
      subst hkn
      have HT:=PRt.out HK.out
      have HOK:Hid _:=HK.out
      clear HK
      by_cases hl:64<k
      ·exfalso;omega
      ·have hl': ¬(64:Int)<k:=by omega
       have HD:Hid _:=HD0.out HT
       have PRn:Hid _:=PRn.out HT hl
       obtain⟨n,en⟩: ∃n,n=k:=⟨_,rfl⟩
       subst en
       clear PRf PRl PRt HD0
       go_wp2
       go_loopw [6,7,8,9] (fun i _ _ _ wr=> ∃k:Nat,k<=n/\i=iI k/\Bw w wr/\w.heap.size+1<wr.heap.size/\C4 wr w.heap.size 0 0 0 0/\C4 wr (w.heap.size+1) (Uk ds 0 n -Uk ds 0 (n -k)) (Uk ds 1 n -Uk ds 1 (n -k)) (Uk ds 2 n -Uk ds 2 (n -k)) (Uk ds 3 n -Uk ds 3 (n -k))) (fun i _ _ _ _=>n -(intOf i).toNat)
       case atStart=>
        refine⟨0,by omega,rfl,?_,by simp,by unfold C4;simp[go_sem],by unfold C4;simp[go_sem]⟩
        iterate 6 all_goals (go_grown<;>try with_reducible refine below_drewN ?_ _)
       case round=>
        obtain⟨k,hk,rfl,hB,hs,hR,hA⟩:=hrel
        by_cases hlt:k<n
        ·have hlt':(k:Int)<(n:Int):=by omega
         obtain⟨p,hp⟩: ∃p,p=n -1 -k:=⟨_,rfl⟩
         have hp':(n:Int) -1 -k=p:=by omega
         have HP:Hid (n -k=p+1/\p<n):=⟨by omega,by omega⟩
         have hpb:(p:Int)<64:=by omega
         have kc:=HIX.out k hlt
         obtain⟨c,ec⟩: ∃c,cs.getD k 0=c:=⟨_,rfl⟩
         have hok:=HOK.out k hlt
         have hxe:dv ds p=ixv (cs.getD k 0):=HDV.out k p hlt (by omega)
         rw[ec] at hok hxe
         simp only[ec] at kc
         rw[HP.out.1] at hA
         have hA':=hA
         obtain⟨⟨ac0,ac1,ac2,ac3⟩,af0,af1,af2,af3⟩:=hA'
         have T0:Hid _:=fun hq=>Tj ds HD.out p n 0 HP.out.2 hq
         have T1:Hid _:=fun hq=>Tj ds HD.out p n 1 HP.out.2 hq
         have T2:Hid _:=fun hq=>Tj ds HD.out p n 2 HP.out.2 hq
         have T3:Hid _:=fun hq=>Tj ds HD.out p n 3 HP.out.2 hq
         have hxb:=ixv_bd c
         obtain⟨x,ex⟩: ∃x,ixv c=x:=⟨_,rfl⟩
         rw[ex] at hxb hxe hok
         have x0:=hok
         have x1:=hxb.2
         have EX:Hid _:=hxe
         have hcase:(48<=c/\c<=57/\x=c -48)\/(97<=c/\c<=102/\x=c -87):=by
          unfold ixv at ex;split at ex
          ·left;omega
          ·split at ex
           ·right;omega
           ·omega
         clear hxe ex hp hxb hok ec
         generalize wr=u at *
         rcases hcase with⟨c0,c1,e⟩ | ⟨c0,c1,e⟩
         ·have kw:IntKind.u8.wrap (c -48)=c -48:=by rw[IntKind.wrap_u8];omega
          have kv:IntKind.u64.wrap (c -48)=c -48:=by rw[IntKind.wrap_u64];omega
          have c2: ¬(97<=c):=by omega
          have E:Hid _:=e
          clear e
          go_wp2
          go_loop [7,9] (fun vx vj=> ∃j:Nat,j<=p%16/\vj=iI j/\vx=iU (x*2^(j*4))) (fun _ vj=>p%16 -(intOf vj).toNat)
          case atStart=>exact⟨0,by omega,rfl,by simp;exact E.out.symm⟩
          case round=>
           obtain⟨j,hj,rfl,rfl⟩:=hrel
           by_cases hj2:j<p%16
           ·exfalso;omega
           ·have hje:j=p%16:=by omega
            subst hje
            have hj3: ¬((p%16:Nat):Int)<(p:Int)%16:=by omega
            obtain⟨y,ey⟩: ∃y,x*2^(p%16*4)=y:=⟨_,rfl⟩
            rw[ey]
            have hq:p/16=0\/p/16=1\/p/16=2\/p/16=3:=by omega
            have EY:Hid _:=ey
            clear ey
            rcases hq with hq | hq | hq | hq
            ·have hq':(p:Int)/16=0:=by omega
             have HQ:Hid _:=hq
             clear hq
             go_wp2
             go_roundw
             case rel=>
              refine⟨k+1,by omega,by go_num,?_,by simpa using hs,hR.other _ (by simp<;>omega) _,?_⟩
              ·iterate 6 all_goals (go_grown<;>try with_reducible refine below_drewN ?_ _)
              ·have ht:=T0.out HQ.out
               rw[EX.out,EY.out] at ht
               have hf:=HQ.out
               rw[show n -(k+1)=p by have:=HP.out;omega,<-ht,<-Zj ds p 1 (by omega),<-Zj ds p 2 (by omega),<-Zj ds p 3 (by omega)]
               exact(hA.set0 _)
             case measure=>simp[intOf];omega
            ·exfalso;omega
            ·exfalso;omega
            ·exfalso;omega
         ·have kw:IntKind.u8.wrap (c -48)=c -48:=by rw[IntKind.wrap_u8];omega
          have kv:IntKind.u64.wrap (c -48)=c -48:=by rw[IntKind.wrap_u64];omega
          have kw2:IntKind.u8.wrap (c -97)=c -97:=by rw[IntKind.wrap_u8];omega
          have kv2:IntKind.u64.wrap (c -97)=c -97:=by rw[IntKind.wrap_u64];omega
          have kv3:IntKind.u64.wrap (c -97+10)=c -87:=by rw[IntKind.wrap_u64];omega
          have E:Hid _:=e
          clear e
          go_wp2
          go_loop [7,9] (fun vx vj=> ∃j:Nat,j<=p%16/\vj=iI j/\vx=iU (x*2^(j*4))) (fun _ vj=>p%16 -(intOf vj).toNat)
          case atStart=>exact⟨0,by omega,rfl,by simp;have:=E.out;omega⟩
          case round=>
           obtain⟨j,hj,rfl,rfl⟩:=hrel
           by_cases hj2:j<p%16
           ·exfalso;omega
           ·have hje:j=p%16:=by omega
            subst hje
            have hj3: ¬((p%16:Nat):Int)<(p:Int)%16:=by omega
            obtain⟨y,ey⟩: ∃y,x*2^(p%16*4)=y:=⟨_,rfl⟩
            rw[ey]
            have hq:p/16=0\/p/16=1\/p/16=2\/p/16=3:=by omega
            have EY:Hid _:=ey
            clear ey
            rcases hq with hq | hq | hq | hq
            ·have hq':(p:Int)/16=0:=by omega
             have HQ:Hid _:=hq
             clear hq
             go_wp2
             go_roundw
             case rel=>
              refine⟨k+1,by omega,by go_num,?_,by simpa using hs,hR.other _ (by simp<;>omega) _,?_⟩
              ·iterate 6 all_goals (go_grown<;>try with_reducible refine below_drewN ?_ _)
              ·have ht:=T0.out HQ.out
               rw[EX.out,EY.out] at ht
               have hf:=HQ.out
               rw[show n -(k+1)=p by have:=HP.out;omega,<-ht,<-Zj ds p 1 (by omega),<-Zj ds p 2 (by omega),<-Zj ds p 3 (by omega)]
               exact(hA.set0 _)
             case measure=>simp[intOf];omega
            ·exfalso;omega
            ·exfalso;omega
            ·exfalso;omega
        ·have hkn:k=n:=by omega
         subst hkn
         have e0: ∀q,Uk ds q k -Uk ds q (k -k)=Uk ds q k:=fun q=>by rw[Nat.sub_self];show _ -0=_;omega
         rw[e0,e0,e0,e0] at hA
         obtain⟨⟨ac0,ac1,ac2,ac3⟩,_⟩:=hA
         obtain⟨⟨rc0,rc1,rc2,rc3⟩,rf0,rf1,rf2,rf3⟩:=hR
         have y0:w.heap.size<wr.heap.size:=by omega
         clear e0
         go_wp2
         refine bodyPost_ret (v:= .tuple #[A4 (Uk ds 0 k) (Uk ds 1 k) (Uk ds 2 k) (Uk ds 3 k),iI 0]) (by simp[results,Tryz.results20,go_sem, *]) rfl ⟨?_,?_⟩
         ·rw[PRn.out]
         ·iterate 6 all_goals (go_grown<;>try with_reducible refine below_drewN ?_ _)
   ·go_enter Tryz.func20,Tryz.ntmps20
    go_wp2
    go_loop [4] (fun vi=> ∃k:Nat,k<=n/\vi=iI k/\Hid (∀j,j<k->0<=ixv (cs.getD j 0))) (fun vi=>n -(intOf vi).toNat)
    case atStart=>exact⟨0,by omega,rfl,fun j hj=>by omega⟩
    case round=>
     obtain⟨k,hk,rfl,HK⟩:=hrel
     by_cases hlt:k<n
     ·have hlt':(k:Int)<n:=by omega
      have k1:=HIX.out k hlt
      have kb:=HBD.out k
      have HC:Hid _:=fun(h:ixv (cs.getD k 0)<0)=>PRf.out (isT_not (show k<cs.length by rw[EN.out];exact hlt) h)
      have HS:Hid _:=fun(h:0<=ixv (cs.getD k 0))=>(fun j (hj:j<k+1)=>(by
       by_cases e:j=k
       ·subst e;exact h
       ·exact HK.out j (by omega)): ∀j,j<k+1->0<=ixv (cs.getD j 0))
      generalize cs.getD k 0=c at *
      have h5:c<48\/(48<=c/\c<=57)\/(57<c/\c<97)\/(97<=c/\c<=102)\/102<c:=by omega
      rcases h5 with h | ⟨h,h'⟩ | ⟨h,h'⟩ | ⟨h,h'⟩ | h
      ·have f1: ¬48<=c:=by omega
       have f2: ¬97<=c:=by omega
       go_wp2
       refine bodyPost_ret (v:= .tuple #[A4 0 0 0 0,iI 2]) (by simp[results,Tryz.results20,go_sem]) rfl ⟨?_,?_⟩
       ·rw[HC.out (by unfold ixv;rw[if_neg (by omega),if_neg (by omega)];omega)]
       ·iterate 6 all_goals (go_grown<;>try with_reducible refine below_drewN ?_ _)
      ·have f2:(48:Int)<=c:=h
       go_wp2
       exact⟨⟨k+1,by omega,by go_num,HS.out (by unfold ixv;split<;>(try split)<;>omega)⟩,by simp[intOf];omega⟩
      ·have f0:(48:Int)<=c:=by omega
       have f1: ¬c<=57:=by omega
       have f2: ¬97<=c:=by omega
       go_wp2
       refine bodyPost_ret (v:= .tuple #[A4 0 0 0 0,iI 2]) (by simp[results,Tryz.results20,go_sem]) rfl ⟨?_,?_⟩
       ·rw[HC.out (by unfold ixv;rw[if_neg (by omega),if_neg (by omega)];omega)]
       ·iterate 6 all_goals (go_grown<;>try with_reducible refine below_drewN ?_ _)
      ·have f0:(48:Int)<=c:=by omega
       have f1: ¬c<=57:=by omega
       go_wp2
       exact⟨⟨k+1,by omega,by go_num,HS.out (by unfold ixv;split<;>(try split)<;>omega)⟩,by simp[intOf];omega⟩
      ·have f0:(48:Int)<=c:=by omega
       have f1: ¬c<=57:=by omega
       have f2:97<=c:=by omega
       have f3: ¬c<=102:=by omega
       go_wp2
       refine bodyPost_ret (v:= .tuple #[A4 0 0 0 0,iI 2]) (by simp[results,Tryz.results20,go_sem]) rfl ⟨?_,?_⟩
       ·rw[HC.out (by unfold ixv;rw[if_neg (by omega),if_neg (by omega)];omega)]
       ·iterate 6 all_goals (go_grown<;>try with_reducible refine below_drewN ?_ _)
     ·have hkn:k=n:=by omega
      subst hkn
      have HT:=PRt.out HK.out
      have HOK:Hid _:=HK.out
      clear HK
      by_cases hl:64<k
      ·have hl':(64:Int)<k:=by omega
       go_wp2
       refine bodyPost_ret (v:= .tuple #[A4 0 0 0 0,iI 3]) (by simp[results,Tryz.results20,go_sem]) rfl ⟨?_,?_⟩
       ·rw[PRl.out HT hl]
       ·iterate 6 all_goals (go_grown<;>try with_reducible refine below_drewN ?_ _)
      ·have hl': ¬(64:Int)<k:=by omega
       have HD:Hid _:=HD0.out HT
       have PRn:Hid _:=PRn.out HT hl
       obtain⟨n,en⟩: ∃n,n=k:=⟨_,rfl⟩
       subst en
       clear PRf PRl PRt HD0
       go_wp2
       go_loopw [6,7,8,9] (fun i _ _ _ wr=> ∃k:Nat,k<=n/\i=iI k/\Bw w wr/\w.heap.size+1<wr.heap.size/\C4 wr w.heap.size 0 0 0 0/\C4 wr (w.heap.size+1) (Uk ds 0 n -Uk ds 0 (n -k)) (Uk ds 1 n -Uk ds 1 (n -k)) (Uk ds 2 n -Uk ds 2 (n -k)) (Uk ds 3 n -Uk ds 3 (n -k))) (fun i _ _ _ _=>n -(intOf i).toNat)
       case atStart=>
        refine⟨0,by omega,rfl,?_,by simp,by unfold C4;simp[go_sem],by unfold C4;simp[go_sem]⟩
        iterate 6 all_goals (go_grown<;>try with_reducible refine below_drewN ?_ _)
       case round=>
        obtain⟨k,hk,rfl,hB,hs,hR,hA⟩:=hrel
        by_cases hlt:k<n
        ·have hlt':(k:Int)<(n:Int):=by omega
         obtain⟨p,hp⟩: ∃p,p=n -1 -k:=⟨_,rfl⟩
         have hp':(n:Int) -1 -k=p:=by omega
         have HP:Hid (n -k=p+1/\p<n):=⟨by omega,by omega⟩
         have hpb:(p:Int)<64:=by omega
         have kc:=HIX.out k hlt
         obtain⟨c,ec⟩: ∃c,cs.getD k 0=c:=⟨_,rfl⟩
         have hok:=HOK.out k hlt
         have hxe:dv ds p=ixv (cs.getD k 0):=HDV.out k p hlt (by omega)
         rw[ec] at hok hxe
         simp only[ec] at kc
         rw[HP.out.1] at hA
         have hA':=hA
         obtain⟨⟨ac0,ac1,ac2,ac3⟩,af0,af1,af2,af3⟩:=hA'
         have T0:Hid _:=fun hq=>Tj ds HD.out p n 0 HP.out.2 hq
         have T1:Hid _:=fun hq=>Tj ds HD.out p n 1 HP.out.2 hq
         have T2:Hid _:=fun hq=>Tj ds HD.out p n 2 HP.out.2 hq
         have T3:Hid _:=fun hq=>Tj ds HD.out p n 3 HP.out.2 hq
         have hxb:=ixv_bd c
         obtain⟨x,ex⟩: ∃x,ixv c=x:=⟨_,rfl⟩
         rw[ex] at hxb hxe hok
         have x0:=hok
         have x1:=hxb.2
         have EX:Hid _:=hxe
         have hcase:(48<=c/\c<=57/\x=c -48)\/(97<=c/\c<=102/\x=c -87):=by
          unfold ixv at ex;split at ex
          ·left;omega
          ·split at ex
           ·right;omega
           ·omega
         clear hxe ex hp hxb hok ec
         generalize wr=u at *
         rcases hcase with⟨c0,c1,e⟩ | ⟨c0,c1,e⟩
         ·have kw:IntKind.u8.wrap (c -48)=c -48:=by rw[IntKind.wrap_u8];omega
          have kv:IntKind.u64.wrap (c -48)=c -48:=by rw[IntKind.wrap_u64];omega
          have c2: ¬(97<=c):=by omega
          have E:Hid _:=e
          clear e
          go_wp2
          go_loop [7,9] (fun vx vj=> ∃j:Nat,j<=p%16/\vj=iI j/\vx=iU (x*2^(j*4))) (fun _ vj=>p%16 -(intOf vj).toNat)
          case atStart=>exact⟨0,by omega,rfl,by simp;exact E.out.symm⟩
          case round=>
           obtain⟨j,hj,rfl,rfl⟩:=hrel
           by_cases hj2:j<p%16
           ·have hj3:(j:Int)<(p:Int)%16:=by omega
            have H8:Hid _:=step4 x j (p%16) x0 x1 hj2 (by omega)
            generalize x*2^(j*4)=y at *
            go_wp2
            go_roundw
            case rel=>exact⟨j+1,by omega,by go_num,congrArg (Value.int IntKind.u64) H8.out⟩
            case measure=>simp[intOf];omega
           ·have hje:j=p%16:=by omega
            subst hje
            have hj3: ¬((p%16:Nat):Int)<(p:Int)%16:=by omega
            obtain⟨y,ey⟩: ∃y,x*2^(p%16*4)=y:=⟨_,rfl⟩
            rw[ey]
            have hq:p/16=0\/p/16=1\/p/16=2\/p/16=3:=by omega
            have EY:Hid _:=ey
            clear ey
            rcases hq with hq | hq | hq | hq
            ·have hq':(p:Int)/16=0:=by omega
             have HQ:Hid _:=hq
             clear hq
             go_wp2
             go_roundw
             case rel=>
              refine⟨k+1,by omega,by go_num,?_,by simpa using hs,hR.other _ (by simp<;>omega) _,?_⟩
              ·iterate 6 all_goals (go_grown<;>try with_reducible refine below_drewN ?_ _)
              ·have ht:=T0.out HQ.out
               rw[EX.out,EY.out] at ht
               have hf:=HQ.out
               rw[show n -(k+1)=p by have:=HP.out;omega,<-ht,<-Zj ds p 1 (by omega),<-Zj ds p 2 (by omega),<-Zj ds p 3 (by omega)]
               exact(hA.set0 _)
             case measure=>simp[intOf];omega
            ·have hq':(p:Int)/16=1:=by omega
             have HQ:Hid _:=hq
             clear hq
             go_wp2
             go_roundw
             case rel=>
              refine⟨k+1,by omega,by go_num,?_,by simpa using hs,hR.other _ (by simp<;>omega) _,?_⟩
              ·iterate 6 all_goals (go_grown<;>try with_reducible refine below_drewN ?_ _)
              ·have ht:=T1.out HQ.out
               rw[EX.out,EY.out] at ht
               have hf:=HQ.out
               rw[show n -(k+1)=p by have:=HP.out;omega,<-ht,<-Zj ds p 0 (by omega),<-Zj ds p 2 (by omega),<-Zj ds p 3 (by omega)]
               exact(hA.set1 _)
             case measure=>simp[intOf];omega
            ·have hq':(p:Int)/16=2:=by omega
             have HQ:Hid _:=hq
             clear hq
             go_wp2
             go_roundw
             case rel=>
              refine⟨k+1,by omega,by go_num,?_,by simpa using hs,hR.other _ (by simp<;>omega) _,?_⟩
              ·iterate 6 all_goals (go_grown<;>try with_reducible refine below_drewN ?_ _)
              ·have ht:=T2.out HQ.out
               rw[EX.out,EY.out] at ht
               have hf:=HQ.out
               rw[show n -(k+1)=p by have:=HP.out;omega,<-ht,<-Zj ds p 0 (by omega),<-Zj ds p 1 (by omega),<-Zj ds p 3 (by omega)]
               exact(hA.set2 _)
             case measure=>simp[intOf];omega
            ·have hq':(p:Int)/16=3:=by omega
             have HQ:Hid _:=hq
             clear hq
             go_wp2
             go_roundw
             case rel=>
              refine⟨k+1,by omega,by go_num,?_,by simpa using hs,hR.other _ (by simp<;>omega) _,?_⟩
              ·iterate 6 all_goals (go_grown<;>try with_reducible refine below_drewN ?_ _)
              ·have ht:=T3.out HQ.out
               rw[EX.out,EY.out] at ht
               have hf:=HQ.out
               rw[show n -(k+1)=p by have:=HP.out;omega,<-ht,<-Zj ds p 0 (by omega),<-Zj ds p 1 (by omega),<-Zj ds p 2 (by omega)]
               exact(hA.set3 _)
             case measure=>simp[intOf];omega
         ·have kw:IntKind.u8.wrap (c -48)=c -48:=by rw[IntKind.wrap_u8];omega
          have kv:IntKind.u64.wrap (c -48)=c -48:=by rw[IntKind.wrap_u64];omega
          have kw2:IntKind.u8.wrap (c -97)=c -97:=by rw[IntKind.wrap_u8];omega
          have kv2:IntKind.u64.wrap (c -97)=c -97:=by rw[IntKind.wrap_u64];omega
          have kv3:IntKind.u64.wrap (c -97+10)=c -87:=by rw[IntKind.wrap_u64];omega
          have E:Hid _:=e
          clear e
          go_wp2
          go_loop [7,9] (fun vx vj=> ∃j:Nat,j<=p%16/\vj=iI j/\vx=iU (x*2^(j*4))) (fun _ vj=>p%16 -(intOf vj).toNat)
          case atStart=>exact⟨0,by omega,rfl,by simp;have:=E.out;omega⟩
          case round=>
           obtain⟨j,hj,rfl,rfl⟩:=hrel
           by_cases hj2:j<p%16
           ·have hj3:(j:Int)<(p:Int)%16:=by omega
            have H8:Hid _:=step4 x j (p%16) x0 x1 hj2 (by omega)
            generalize x*2^(j*4)=y at *
            go_wp2
            go_roundw
            case rel=>exact⟨j+1,by omega,by go_num,congrArg (Value.int IntKind.u64) H8.out⟩
            case measure=>simp[intOf];omega
           ·have hje:j=p%16:=by omega
            subst hje
            have hj3: ¬((p%16:Nat):Int)<(p:Int)%16:=by omega
            obtain⟨y,ey⟩: ∃y,x*2^(p%16*4)=y:=⟨_,rfl⟩
            rw[ey]
            have hq:p/16=0\/p/16=1\/p/16=2\/p/16=3:=by omega
            have EY:Hid _:=ey
            clear ey
            rcases hq with hq | hq | hq | hq
            ·have hq':(p:Int)/16=0:=by omega
             have HQ:Hid _:=hq
             clear hq
             go_wp2
             go_roundw
             case rel=>
              refine⟨k+1,by omega,by go_num,?_,by simpa using hs,hR.other _ (by simp<;>omega) _,?_⟩
              ·iterate 6 all_goals (go_grown<;>try with_reducible refine below_drewN ?_ _)
              ·have ht:=T0.out HQ.out
               rw[EX.out,EY.out] at ht
               have hf:=HQ.out
               rw[show n -(k+1)=p by have:=HP.out;omega,<-ht,<-Zj ds p 1 (by omega),<-Zj ds p 2 (by omega),<-Zj ds p 3 (by omega)]
               exact(hA.set0 _)
             case measure=>simp[intOf];omega
            ·have hq':(p:Int)/16=1:=by omega
             have HQ:Hid _:=hq
             clear hq
             go_wp2
             go_roundw
             case rel=>
              refine⟨k+1,by omega,by go_num,?_,by simpa using hs,hR.other _ (by simp<;>omega) _,?_⟩
              ·iterate 6 all_goals (go_grown<;>try with_reducible refine below_drewN ?_ _)
              ·have ht:=T1.out HQ.out
               rw[EX.out,EY.out] at ht
               have hf:=HQ.out
               rw[show n -(k+1)=p by have:=HP.out;omega,<-ht,<-Zj ds p 0 (by omega),<-Zj ds p 2 (by omega),<-Zj ds p 3 (by omega)]
               exact(hA.set1 _)
             case measure=>simp[intOf];omega
            ·have hq':(p:Int)/16=2:=by omega
             have HQ:Hid _:=hq
             clear hq
             go_wp2
             go_roundw
             case rel=>
              refine⟨k+1,by omega,by go_num,?_,by simpa using hs,hR.other _ (by simp<;>omega) _,?_⟩
              ·iterate 6 all_goals (go_grown<;>try with_reducible refine below_drewN ?_ _)
              ·have ht:=T2.out HQ.out
               rw[EX.out,EY.out] at ht
               have hf:=HQ.out
               rw[show n -(k+1)=p by have:=HP.out;omega,<-ht,<-Zj ds p 0 (by omega),<-Zj ds p 1 (by omega),<-Zj ds p 3 (by omega)]
               exact(hA.set2 _)
             case measure=>simp[intOf];omega
            ·have hq':(p:Int)/16=3:=by omega
             have HQ:Hid _:=hq
             clear hq
             go_wp2
             go_roundw
             case rel=>
              refine⟨k+1,by omega,by go_num,?_,by simpa using hs,hR.other _ (by simp<;>omega) _,?_⟩
              ·iterate 6 all_goals (go_grown<;>try with_reducible refine below_drewN ?_ _)
              ·have ht:=T3.out HQ.out
               rw[EX.out,EY.out] at ht
               have hf:=HQ.out
               rw[show n -(k+1)=p by have:=HP.out;omega,<-ht,<-Zj ds p 0 (by omega),<-Zj ds p 1 (by omega),<-Zj ds p 2 (by omega)]
               exact(hA.set3 _)
             case measure=>simp[intOf];omega
        ·have hkn:k=n:=by omega
         subst hkn
         have e0: ∀q,Uk ds q k -Uk ds q (k -k)=Uk ds q k:=fun q=>by rw[Nat.sub_self];show _ -0=_;omega
         rw[e0,e0,e0,e0] at hA
         obtain⟨⟨ac0,ac1,ac2,ac3⟩,_⟩:=hA
         obtain⟨⟨rc0,rc1,rc2,rc3⟩,rf0,rf1,rf2,rf3⟩:=hR
         have y0:w.heap.size<wr.heap.size:=by omega
         clear e0
         go_wp2
         refine bodyPost_ret (v:= .tuple #[A4 (Uk ds 0 k) (Uk ds 1 k) (Uk ds 2 k) (Uk ds 3 k),iI 0]) (by simp[results,Tryz.results20,go_sem, *]) rfl ⟨?_,?_⟩
         ·rw[PRn.out]
         ·iterate 6 all_goals (go_grown<;>try with_reducible refine below_drewN ?_ _)
end Go.Proofs.YtdhlekdohebbbaaGreatDoor
