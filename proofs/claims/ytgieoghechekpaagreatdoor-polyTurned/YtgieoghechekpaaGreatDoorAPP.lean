import Derived.Test.YtgieoghechekpaaGreatDoorAPM
namespace Go.Proofs.YtgieoghechekpaaGreatDoor
set_option linter.unusedVariables false
set_option linter.unusedSimpArgs false
set_option maxRecDepth 100000
set_option maxHeartbeats 4000000
section ring
variable {R:Type} [Lean.Grind.CommRing R]
variable (p:Nat) [Lean.Grind.IsCharP R p]
theorem sm_set{fs:List Int}{ps ps':List (Int×Int)}{k:Nat}{b:Int}(ho: ∀i,i≠k->ps'.getD i (0,0)=ps.getD i (0,0))(hk:(cR (ps'.getD k (0,0)).2:R)=cR (ps.getD k (0,0)).2+cR b): ∀j,(cR (smN p fs ps' j):R)=cR (smN p fs ps j)+if k<j then cR (fs.getD k 0)*cR b else 0
 | 0=>by rw[smN,smN,if_neg (by omega)];grind
 | j+1=>by
  rw[smN,smN,Zs,Zs,cR_add,cR_add,Zs,Zs,Yp,Yp,sm_set ho hk j]
  by_cases e:j=k
  ·subst e
   rw[hk,if_neg (by omega),if_pos (by omega)];grind
  ·rw[ho j e]
   by_cases h:k<j
   ·rw[if_pos h,if_pos (by omega)];grind
   ·rw[if_neg h,if_neg (by omega)];grind
end ring
theorem Zo{α:Type}{l:List α}{m i:Nat}{d:α}(h:i<m):(l.take m).getD i d=l.getD i d:=by
 simp[List.getElem?_take,h]
theorem line_yes{xs vs:List Int}{m:Nat}(h:Invs OQ (xs.take m) vs)(ns:List Int)(hn:ns.length<=m)(hm:m<=xs.length)(t:Int):smN OQ (fac OQ t (xs.take m) vs) ((pts OQ ns xs).take m) m=hoN OQ t ns ns.length:=by
 have hl:(xs.take m).length=m:=by rw[List.length_take];omega
 have e:=lagN 581039633 h ns (by omega) t ((pts OQ ns xs).take m) (fun i hi=>by rw[Zo (by omega),Zz (by omega),Zo (by omega)];rfl)
 rw[hl] at e
 exact e
theorem un_ah{q t:Int}{xs:List Int}(h: ∀j,j<xs.length->UN q (t -xs.getD j 0)): ∀k,k<=xs.length->UN q (ahN q t xs k)
 | 0,_=>UN.one q
 | k+1,hk=>by rw[ahN];exact((un_ah h k (by omega)).mul (h k (by omega)).mod).mod
theorem un_bh{q t:Int}{xs:List Int}(h: ∀j,j<xs.length->UN q (t -xs.getD j 0)): ∀k,k<=xs.length->UN q (bhN q t xs k)
 | 0,_=>UN.one q
 | k+1,hk=>by rw[bhN];exact((un_bh h k (by omega)).mul (h _ (by omega)).mod).mod
theorem un_fac{q t:Int}{xs vs:List Int}(hi:Invs q xs vs)(h: ∀j,j<xs.length->UN q (t -xs.getD j 0)){k:Nat}(hk:k<xs.length):UN q ((fac q t xs vs).getD k 0):=by
 rw[fac_get hk]
 have hv:UN q (vs.getD k 0):=by
  obtain⟨c,hc⟩:=(hi.2 k hk).2.2
  exact⟨_,c,by rw[Int.mul_comm];exact hc⟩
 exact((hv.mul (un_ah h k (by omega))).mod.mul (un_bh h _ (by omega))).mod
theorem un_zero{q a b:Int}(h:UN q a)(hd:q∣a*b):q∣b:=by
 obtain⟨x,k,hx⟩:=h
 obtain⟨m,hm⟩:=hd
 exact⟨x*m -k*b,by grind⟩
theorem turned_iff{xs vs ns:List Int}{n k:Nat}{b:Int}{ps':List (Int×Int)}(hap:Apart xs)(hx:xs.length=n+1)(hn:ns.length=n)(h:Invs OQ (xs.take n) vs)(hk:k<=n)(ho: ∀i,i≠k->ps'.getD i (0,0)=(pts OQ ns xs).getD i (0,0))(h1:ps'.getD k (0,0)=(xs.getD k 0,(hoN OQ (xs.getD k 0) ns ns.length+b)%OQ)):
 smN OQ (fac OQ (xs.getD n 0) (xs.take n) vs) (ps'.take n) n=(ps'.getD n (0,0)).2%OQ↔b%OQ=0:=by
 have hl:(xs.take n).length=n:=by rw[List.length_take];omega
 have hy:=line_yes h ns (by omega) (by omega) (xs.getD n 0)
 have hr:=hoN_rng (q:=OQ) (by decide) (x:=xs.getD n 0) (ns:=ns) ns.length
 by_cases e:k=n
 ·subst e
  have es: ∀j,j<=k->smN OQ (fac OQ (xs.getD k 0) (xs.take k) vs) (ps'.take k) j=smN OQ (fac OQ (xs.getD k 0) (xs.take k) vs) ((pts OQ ns xs).take k) j:=by
   intro j
   induction j with
   | zero=>intro _;rfl
   | succ j ih=>intro hj;rw[smN,smN,ih (by omega),Zo (by omega),Zo (by omega),ho j (by omega)]
  rw[es k (Nat.le_refl _),hy,h1]
  generalize hoN OQ (xs.getD k 0) ns ns.length=z at hr
  show z=(z+b)%581039633%581039633↔b%581039633=0
  obtain⟨r1,r2⟩:=hr
  have r2:z<581039633:=r2
  omega
 ·rw[ho n (by omega),Zz (by omega)]
  have hkn:k<n:=by omega
  have hu:UN OQ ((fac OQ (xs.getD n 0) (xs.take n) vs).getD k 0):=un_fac h (fun j hj=>by
   rw[hl] at hj
   rw[Zo hj]
   have en:xs.getD n 0=xs[n]:=by simp[List.getElem?_eq_getElem (show n<xs.length by omega)]
   have ej:xs.getD j 0=xs[j]:=by simp[List.getElem?_eq_getElem (show j<xs.length by omega)]
   have b1:=hap.2 _ (List.getElem_mem (show n<xs.length by omega))
   have b2:=hap.2 _ (List.getElem_mem (show j<xs.length by omega))
   have hp:=List.pairwise_iff_getElem.1 hap.1 j n (by omega) (by omega) hj
   rw[en,ej]
   exact un_small (by omega) (by omega) (by omega)) (by omega)
  have hs:=sm_set (R:=Fin 581039633) 581039633 (fs:=fac OQ (xs.getD n 0) (xs.take n) vs) (ps:=(pts OQ ns xs).take n) (ps':=ps'.take n) (k:=k) (b:=b) (fun i hi=>by
   by_cases hin:i<n
   ·rw[Zo hin,Zo hin,ho i hi]
   ·rw[List.getD_eq_getElem?_getD,List.getD_eq_getElem?_getD,List.getElem?_eq_none (by rw[List.length_take];omega),List.getElem?_eq_none (by rw[List.length_take];omega)]) (by
   rw[Zo hkn,Zo hkn,h1,Zz (by omega)]
   show (cR ((hoN OQ (xs.getD k 0) ns ns.length+b)%((581039633:Nat):Int)):Fin 581039633)=_
   rw[Zs,cR_add]) n
  rw[if_pos hkn] at hs
  have hs:(cR (smN OQ (fac OQ (xs.getD n 0) (xs.take n) vs) (ps'.take n) n):Fin 581039633)=cR (smN OQ (fac OQ (xs.getD n 0) (xs.take n) vs) ((pts OQ ns xs).take n) n)+cR ((fac OQ (xs.getD n 0) (xs.take n) vs).getD k 0)*cR b:=hs
  rw[hy] at hs
  have rr:=smN_rng (q:=OQ) (by decide) (fs:=fac OQ (xs.getD n 0) (xs.take n) vs) (ps:=ps'.take n) n
  generalize (fac OQ (xs.getD n 0) (xs.take n) vs).getD k 0=F at *
  generalize smN OQ (fac OQ (xs.getD n 0) (xs.take n) vs) (ps'.take n) n=S at *
  generalize hoN OQ (xs.getD n 0) ns ns.length=z at *
  rw[<-Yp,<-cR_add,cR_ext 581039633] at hs
  show S=z%OQ↔_
  have hz:z%OQ=z:=Int.emod_eq_of_lt hr.1 hr.2
  have hS:S%OQ=S:=Int.emod_eq_of_lt rr.1 rr.2
  have hs:S%OQ=(z+F*b)%OQ:=hs
  rw[hz]
  constructor
  ·intro e2
   have hd:OQ∣F*b:=by
    have e3:(z+F*b)%OQ=z%OQ:=by rw[<-hs,e2]
    have:=Int.emod_emod_of_dvd
    exact(Int.emod_eq_emod_iff_emod_sub_eq_zero.1 e3|>fun h=>by rw[show z+F*b -z=F*b by omega] at h;exact Int.dvd_of_emod_eq_zero h)
   exact Int.emod_eq_zero_of_dvd (un_zero hu hd)
  ·intro e2
   obtain⟨c,hc⟩:=Int.dvd_of_emod_eq_zero e2
   rw[<-hS,hs,hc,show z+F*(OQ*c)=z+OQ*(F*c) by rw[<-Int.mul_assoc,<-Int.mul_assoc,Int.mul_comm F OQ],Int.add_mul_emod_self_left,hz]
end Go.Proofs.YtgieoghechekpaaGreatDoor
