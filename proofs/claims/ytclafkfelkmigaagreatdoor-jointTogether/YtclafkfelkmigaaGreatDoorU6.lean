import Derived.Test.YtclafkfelkmigaaGreatDoorAN8
namespace Go.Proofs.YtclafkfelkmigaaGreatDoor
set_option linter.unusedVariables false
set_option linter.unusedSimpArgs false
set_option maxRecDepth 100000
set_option maxHeartbeats 4000000
open Go.RowKit
set_option maxHeartbeats 8000000 in
theorem rP16(S:ByteArray)(n:Nat)(c d vF:Nat->Int)(w:World)(hS:S.size=n)(hn:n<=16)(h1:(1:Int)<n)(hne:S.toList.isEmpty=false)(hix:Hid (∀j,j<n-> ∀W,(Instr.index 9 (.string S) (.int .i64 j)).run Tryz.prog W= .ok (.int .u8 (c j)) W))(h0:c 0≠48)(hc:Hid (∀j,j<n->(48<=c j/\c j<=57/\d j=c j -48)\/(97<=c j/\c j<=102/\d j=c j -87)))(hv0:Hid (vF 0=0))(hvs:Hid (∀j,j<n->vF (j+1)=vF j+d j*16^(n -1 -j)))(hvb:Hid (∀j,j<=n->0<=vF j/\vF j<18446744073709551616))(hdb:Hid (∀j,j<n-> ∀k,k<n->0<=d j*16^k/\d j*16^k<18446744073709551616)):
 CC 70 #[.string S] w (.tuple #[A4 (vF n) 0 0 0,.int .i64 0]):=by
 have k0:=hix.out 0 (by omega)
 rw[show (Value.int .i64 ((0:Nat):Int))= .int .i64 0 from rfl] at k0
 obtain⟨c0,e0⟩: ∃x,c 0=x:=⟨_,rfl⟩
 rw[e0] at k0 h0
 have hl: ¬(64:Int)<n:=by omega
 go_enter Tryz.func70,Tryz.ntmps70
 go_wp2
 go_loop [4] (fun vi=> ∃k:Nat,k<=n/\vi= .int .i64 k) (fun vi=>n -(intOf vi).toNat)
 case atStart=>exact⟨0,by omega,rfl⟩
 case round=>
  obtain⟨k,hk,rfl⟩:=hrel
  by_cases hlt:k<n
  ·have hlt':(k:Int)<n:=by omega
   have k1:=hix.out k hlt
   have hck:=hc.out k hlt
   obtain⟨x,ex⟩: ∃x,c k=x:=⟨_,rfl⟩
   rw[ex] at k1 hck
   clear ex
   rcases hck with⟨a1,a2,-⟩ | ⟨a1,a2,-⟩
   ·go_wp2
    exact⟨⟨k+1,by omega,by go_num⟩,by simp[intOf];omega⟩
   ·have a3:48<=x:=by omega
    have a4: ¬x<=57:=by omega
    go_wp2
    exact⟨⟨k+1,by omega,by go_num⟩,by simp[intOf];omega⟩
  ·have hlt': ¬(k:Int)<n:=by omega
   go_wp2
   go_loopw [6,7,8,9] (fun i _ _ _ wr=> ∃k:Nat,k<=n/\i= .int .i64 k/\Bw w wr/\w.heap.size+1<wr.heap.size/\C4 wr w.heap.size 0 0 0 0/\C4 wr (w.heap.size+1) (vF k) 0 0 0) (fun i _ _ _ _=>n -(intOf i).toNat)
   case atStart=>
    have hv:=hv0.out
    refine⟨0,by omega,rfl,?_,by simp,by unfold C4;simp[go_sem],by rw[hv];unfold C4;simp[go_sem]⟩
    iterate 6 all_goals (go_grown<;>try with_reducible refine below_drewN ?_ _)
   case round=>
    obtain⟨i,hi,rfl,hB,hs,hR,hA⟩:=hrel
    by_cases hj:i<n
    ·have hlt2:(i:Int)<n:=by omega
     obtain⟨p,hp⟩: ∃p,n -1 -i=p:=⟨_,rfl⟩
     have hp':(n:Int) -1 -i=p:=by omega
     have hp16:(p:Int)<16:=by omega
     have kc:=hix.out i hj
     have hci:=hc.out i hj
     have hvi:=hvs.out i hj
     have hb1:=hvb.out i hi
     have hb2:=hvb.out (i+1) (by omega)
     have hd:=fun k (hk:k<=p)=>hdb.out i hj k (by omega)
     rw[hp] at hvi
     obtain⟨y,ey⟩: ∃y,vF (i+1)=y:=⟨_,rfl⟩
     obtain⟨v,ev⟩: ∃v,vF i=v:=⟨_,rfl⟩
     obtain⟨x,ex⟩: ∃x,c i=x:=⟨_,rfl⟩
     obtain⟨z,ez⟩: ∃z,d i=z:=⟨_,rfl⟩
     rw[ey,ev,ez] at hvi
     rw[ev] at hb1 hA
     rw[ey] at hb2
     rw[ex] at kc hci
     rw[ez] at hci
     simp only[ez] at hd
     have hvi:Hid _:=hvi
     have hd:Hid _:=hd
     have EY:Hid _:=ey
     have hA':=hA
     obtain⟨⟨ac0,ac1,ac2,ac3⟩,af0,af1,af2,af3⟩:=hA'
     clear ex ev ez hp ey
     generalize wr=u at *
     rcases hci with⟨a1,a2,e⟩ | ⟨a1,a2,e⟩
     case' inl=>
      have kw:IntKind.u8.wrap (x -48)=x -48:=by rw[IntKind.wrap_u8];omega
      have kv:IntKind.u64.wrap (x -48)=x -48:=by rw[IntKind.wrap_u64];omega
      have a3: ¬97<=x:=by omega
     case' inr=>
      have kw:IntKind.u8.wrap (x -48)=x -48:=by rw[IntKind.wrap_u8];omega
      have kv:IntKind.u64.wrap (x -48)=x -48:=by rw[IntKind.wrap_u64];omega
      have kx:IntKind.u8.wrap (x -97)=x -97:=by rw[IntKind.wrap_u8];omega
      have ky:IntKind.u64.wrap (x -97)=x -97:=by rw[IntKind.wrap_u64];omega
      have kz:IntKind.u64.wrap (x -97+10)=x -97+10:=by rw[IntKind.wrap_u64];omega
     all_goals
      have E:Hid _:=e
      clear e
      go_wp2
      go_loop [7,9] (fun vx vj=> ∃j:Nat,j<=p/\vj= .int .i64 j/\vx= .int .u64 (z*16^j)) (fun _ vj=>p -(intOf vj).toNat)
      case atStart=>exact⟨0,by omega,rfl,by have:=E.out;simp;omega⟩
      case round=>
       obtain⟨j,hj2,rfl,rfl⟩:=hrel
       have hq:(p:Int)%16=p:=by omega
       by_cases hj3:j<p
       ·have hj4:(j:Int)<p:=by omega
        have hm:=hd.out (j+1) (by omega)
        rw[Int.pow_succ,<-Int.mul_assoc] at hm
        have hw:IntKind.u64.wrap (z*16^j*16)=z*16^j*16:=by rw[IntKind.wrap_u64];omega
        go_wp2
        exact⟨⟨j+1,by omega,by go_num,by rw[Int.pow_succ,<-Int.mul_assoc]⟩,by simp[intOf];omega⟩
       ·have hj4: ¬(j:Int)<p:=by omega
        obtain rfl:j=p:=by omega
        have hq2:(j:Int)/16=0:=by omega
        have hvo:=hvi.out
        obtain⟨g,eg⟩: ∃g,z*16^j=g:=⟨_,rfl⟩
        rw[eg] at hvo⊢
        have hw:IntKind.u64.wrap (v+g)=v+g:=by rw[IntKind.wrap_u64];omega
        have hvo:Hid _:=hvo
        clear eg
        go_wp2
        go_roundw
        case rel=>
         refine⟨i+1,by omega,by go_num,?_,by simpa using hs,hR.other _ (by simp<;>omega) _,?_⟩
         ·iterate 6 all_goals (go_grown<;>try with_reducible refine below_drewN ?_ _)
         ·rw[EY.out,hvo.out];exact(hA.set0 _)
        case measure=>simp[intOf];omega
    ·have hlt2: ¬(i:Int)<n:=by omega
     obtain rfl:i=n:=by omega
     obtain⟨⟨ac0,ac1,ac2,ac3⟩,af0,af1,af2,af3⟩:=hA
     obtain⟨⟨rc0,rc1,rc2,rc3⟩,rf0,rf1,rf2,rf3⟩:=hR
     generalize wr=u at *
     go_wp2
     refine bodyPost_ret (v:= .tuple #[A4 (vF i) 0 0 0,.int .i64 0]) (by simp[results,Tryz.results70,go_sem,rc0,rc1,rc2,rc3]) rfl ⟨rfl,?_⟩
     iterate 6 all_goals (go_grown<;>try with_reducible refine below_drewN ?_ _)
def vp(cs:List Int):Nat->Int
 | 0=>0
 | j+1=>vp cs j+ixv (cs.getD j 0)*16^(cs.length -1 -j)
theorem rPs(cs:List Int)(v:Int)(w:World)(hn:cs.length<=16)(h1:1<cs.length)(hb:Bytes8 cs)(h0:cs.getD 0 0≠48)(hc: ∀j,j<cs.length->(48<=cs.getD j 0/\cs.getD j 0<=57/\ixv (cs.getD j 0)=cs.getD j 0 -48)\/(97<=cs.getD j 0/\cs.getD j 0<=102/\ixv (cs.getD j 0)=cs.getD j 0 -87))(hvb: ∀j,j<cs.length+1->0<=vp cs j/\vp cs j<18446744073709551616)(hdb: ∀j,j<cs.length-> ∀k,k<cs.length->0<=ixv (cs.getD j 0)*16^k/\ixv (cs.getD j 0)*16^k<18446744073709551616)(hv:A4 (vp cs cs.length) 0 0 0=NV v):CC 70 #[.string (strOfNums cs)] w (.tuple #[NV v,.int .i64 0]):=by
 rw[<-hv]
 refine rP16 (strOfNums cs) cs.length (fun j=>cs.getD j 0) (fun j=>ixv (cs.getD j 0)) (vp cs) w (strOfNums_size cs) hn (by omega) ?_ (fun j hj W=>str_ix cs hb j hj W) h0 hc rfl (fun j hj=>rfl) (fun j hj=>hvb j (by omega)) hdb
 rw[<-decide_eq_emptyBytes,decide_eq_false_iff_not]
 intro e
 have:=congrArg ByteArray.size e
 rw[strOfNums_size] at this
 have:cs.length=0:=this
 omega
end Go.Proofs.YtclafkfelkmigaaGreatDoor
