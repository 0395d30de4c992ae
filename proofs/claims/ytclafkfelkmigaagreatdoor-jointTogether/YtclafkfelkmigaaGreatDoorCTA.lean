import Derived.Test.YtclafkfelkmigaaGreatDoorPK
namespace Go.Proofs.YtclafkfelkmigaaGreatDoor
set_option linter.unusedVariables false
set_option linter.unusedSimpArgs false
set_option maxRecDepth 100000
set_option maxHeartbeats 4000000
section
open Go.RowKit
theorem bdC(n f a:Int)(w:World):(Instr.build 89 [(0,NV n),(1,NV f),(2,NV a)].toArray).run Tryz.prog w= .ok (CX n f a) w:=by kernel_rfl
theorem bsC1(n f a:Int)(w:World):(Instr.buildSlice 85 1 ([0].zip [CX n f a]).toArray).run Tryz.prog w= .ok (.slice (some ⟨w.heap.size,0,none⟩) 1 1) (w.alloc (.cells (CE n f a).toArray 89)):=by kernel_rfl
theorem infoC:(Tryz.prog.info? 89).map (fun i=>(i.zero,i.size,i.bytes))=some (some (CX 0 0 0),12,96):=by kernel_rfl
def stp(ns:List Int):Nat->List (Int×Int×Int)
 | 0=>[]
 | j+1=>stp ns j++[(ns.getD (j+1) 0,ns.getD j 0,2)]
theorem stp_len(ns:List Int): ∀j,(stp ns j).length=j
 | 0=>rfl
 | j+1=>by rw[stp,List.length_append,stp_len ns j];rfl
theorem flC_len: ∀cs:List (Int×Int×Int),(flC cs).length=cs.length*12
 | []=>rfl
 | c::r=>by rw[flC,List.length_append,flC_len r,List.length_cons];simp;omega
theorem flC_app: ∀a b:List (Int×Int×Int),flC (a++b)=flC a++flC b
 | [],_=>rfl
 | c::r,b=>by rw[List.cons_append,flC,flC,flC_app r b,List.append_assoc]
theorem flC_stp(ns:List Int)(j:Nat):flC (stp ns (j+1))=flC (stp ns j)++CE (ns.getD (j+1) 0) (ns.getD j 0) 2:=by
 rw[stp,flC_app];simp[flC]
theorem CE_one{n f a:Int}: ∀v∈CE n f a,v.oneCell'=true:=fun v hv=>by
 simp only[CE,List.mem_cons,List.not_mem_nil,or_false] at hv
 rcases hv with rfl | rfl | rfl | rfl | rfl | rfl | rfl | rfl | rfl | rfl | rfl | rfl<;>rfl
theorem add_drop{xs news zs:List Value}:xs++(zs.take 12)++(zs.drop 12)=xs++zs:=by rw[List.append_assoc,List.take_append_drop]
end
section
def pwm:Nat->Nat->Nat->Nat->Nat
 | 0,_,_,m=>1%m
 | k+1,a,e,m=>cond (Nat.beq (e%2) 1) (a*pwm k (a*a%m) (e/2) m%m) (pwm k (a*a%m) (e/2) m)
theorem pwm_eq: ∀(k a e m:Nat),e<2^k->pwm k a e m=a^e%m
 | 0,a,e,m,h=>by
  have:e=0:=by simpa using h
  rw[pwm,this,Nat.pow_zero]
 | k+1,a,e,m,h=>by
  have h2:e/2<2^k:=by rw[Nat.pow_succ] at h;omega
  have ih:=pwm_eq k (a*a%m) (e/2) m h2
  have e1:(a*a%m)^(e/2)%m=a^(2*(e/2))%m:=by
   rw[<-Nat.pow_mod,Nat.pow_mul,Nat.pow_two]
  rw[pwm,ih,e1]
  by_cases he:e%2=1
  ·rw[show Nat.beq (e%2) 1=true by rw[he];rfl,cond_true]
   rw[Nat.mul_mod,Nat.mod_mod,<-Nat.mul_mod]
   have:a*a^(2*(e/2))=a^e:=by
    rw[Nat.mul_comm,<-Nat.pow_succ];congr 1;omega
   rw[this]
  ·have h0:e%2=0:=by omega
   rw[show Nat.beq (e%2) 1=false by rw[h0];rfl,cond_false]
   congr 2;omega
theorem pow_of_pwm{a e m r:Nat}(k:Nat)(he:e<2^k)(h:pwm k a e m=r):a^e%m=r:=by rw[<-pwm_eq k a e m he,h]
theorem StR.of(N F A q k x:Nat)(h1:N%2=1)(h2:3<=N)(h3:2<=F)(h4:F*q+1=N)(h5:q<F)(hk:N<2^k)(h6:pwm k A (N -1) N=1)(h7:pwm k A q N=x)(hx:1<=x)(h8:Nat.gcd (x -1) N=1):StR N F A:=by
 have hq:q<2^k:=by
  have:1*q<=F*q:=Nat.mul_le_mul_right q (by omega)
  omega
 have k6:=pow_of_pwm k (by omega) h6
 have k7:=pow_of_pwm k hq h7
 have xl:x<N:=by rw[<-k7];exact Nat.mod_lt _ (by omega)
 have e1:((N:Int) -1)=((N -1:Nat):Int):=by omega
 have e2:N -1=F*q:=by omega
 have e3:((N:Int) -1)/F=((q:Nat):Int):=by
  rw[e1,<-Int.natCast_ediv,e2,Nat.mul_div_cancel_left q (by omega)]
 refine⟨by omega,by omega,by omega,?_,by rw[e3];omega,?_,?_⟩
 ·rw[e1,<-Int.natCast_emod,e2,Nat.mul_mod_right];rfl
 ·rw[e1,Int.toNat_natCast,<-Int.natCast_pow,<-Int.natCast_emod,k6];rfl
 ·rw[e3,Int.toNat_natCast,<-Int.natCast_pow,<-Int.natCast_emod,k7]
  have e4:((x:Int) -1)%(N:Int)=((x -1:Nat):Int):=by
   have:((x:Int) -1)=((x -1:Nat):Int):=by omega
   rw[this,<-Int.natCast_emod,Nat.mod_eq_of_lt (by omega)]
  rw[e4]
  unfold gI
  rw[Int.toNat_natCast,Int.toNat_natCast,h8];rfl
theorem Sm.of(n b:Nat)(h2:2<=n)(hl:n<1048576)(hb:n<b*b)(h:(List.range b).all (fun d=>Nat.blt d 2 || !(Nat.beq (n%d) 0))=true):Sm n:=by
 refine⟨by omega,by omega,fun d hd hq he=>?_⟩
 obtain⟨e,rfl⟩: ∃e:Nat,d=e:=⟨d.toNat,by omega⟩
 have hq':e*e<=n:=by
  have:((e*e:Nat):Int)<=n:=by rw[Int.natCast_mul];exact hq
  omega
 have he':n%e=0:=by
  have:((n%e:Nat):Int)=0:=by rw[Int.natCast_emod];exact he
  omega
 have hlt:e<b:=Nat.lt_of_not_le fun hn=>by
  have:=Nat.mul_le_mul hn hn
  omega
 have:=List.all_eq_true.1 h e (List.mem_range.2 hlt)
 rw[he'] at this
 simp[Nat.blt] at this
 omega
theorem small_131101:smB 131101=true:=smB_t (Sm.of 131101 363 (by omega) (by omega) (by omega) (by decide+kernel))
theorem chain0_1:stB 581039633 131101 2=true:=stB_iff.2 (StR.of 581039633 131101 2 4432 30 554694791 (by decide+kernel) (by decide+kernel) (by decide+kernel) (by decide+kernel) (by decide+kernel) (by decide+kernel) (by decide+kernel) (by decide+kernel) (by decide+kernel) (by decide+kernel))
theorem chain0_2:stB 1162079267 581039633 2=true:=stB_iff.2 (StR.of 1162079267 581039633 2 2 31 4 (by decide+kernel) (by decide+kernel) (by decide+kernel) (by decide+kernel) (by decide+kernel) (by decide+kernel) (by decide+kernel) (by decide+kernel) (by decide+kernel) (by decide+kernel))
end
section
open Go.RowKit
def chain0:List (Int×Int×Int):=[(581039633,131101,2),(1162079267,581039633,2)]
theorem chain0_ok:cfB chain0=true:=by simp[cfB,crB,knB,cat,chain0,small_131101,chain0_1,chain0_2]
theorem chain0_in: ∀j,j<chain0.length->In (cat chain0 j).1/\In (cat chain0 j).2.1/\In (cat chain0 j).2.2:=fun j hj=>by
 have:j=0\/j=1:=by have:chain0.length=2:=rfl;omega
 rcases this with rfl | rfl<;>exact⟨⟨by decide,by decide⟩,⟨by decide,by decide⟩,⟨by decide,by decide⟩⟩
theorem Vh(n:Int)(w:World)(h0:0<=n)(h1:n<9223372036854775808):CC 12 #[iI n] w (NV n):=by
 rw[Xz h0 (by omega)]
 have hw:IntKind.u64.wrap n=n:=by simp[IntKind.wrap,IntKind.signed,IntKind.bits];omega
 go_enter Tryz.func12,Tryz.ntmps12
 go_wp2
 go_returns
 exact⟨by simp,by go_grown⟩
end
end Go.Proofs.YtclafkfelkmigaaGreatDoor
