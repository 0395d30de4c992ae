import Derived.Test.YtgieoghechekpaaGreatDoorAPH
import Derived.Test.YtgieoghechekpaaGreatDoorAPP
namespace Go.Proofs.YtgieoghechekpaaGreatDoor
set_option linter.unusedVariables false
set_option linter.unusedSimpArgs false
set_option maxRecDepth 100000
set_option maxHeartbeats 4000000
open Go.RowKit
theorem cDegOf{d:Nat}{w:World}(hd:d<256): ∀u,Bw w u->CC 43 #[.int .i64 (d:Int)] u .nilIface:=fun u hB=>pDegreeOf d u hd
theorem flt_take: ∀(ps:List (Int×Int)) (m:Nat),flt (ps.take m)=(flt ps).take (2*m)
 | [],m=>by simp[flt]
 | p::l,0=>by simp[flt]
 | p::l,m+1=>by rw[List.take_succ_cons,flt,flt_take l m,flt,show 2*(m+1)=2*m+1+1 by omega,List.take_succ_cons,List.take_succ_cons]
theorem flN_take: ∀(ns:List Int) (m:Nat),flN (ns.take m)=(flN ns).take (4*m)
 | [],m=>by simp[flN]
 | n::l,0=>by simp[flN]
 | n::l,m+1=>by rw[List.take_succ_cons,flN,flN_take l m,flN,show 4*(m+1)=(LN n).length+4*m by show _=4+4*m;omega,List.take_length_add_append]
theorem SN.take{w:World}{g o:Nat}{ns:List Int}(h:SN w g o ns)(m:Nat):SN w g o (ns.take m):=fun j v hj=>by
 rw[flN_take,List.getElem?_take] at hj
 split at hj
 ·exact h j v hj
 ·cases hj
theorem PtL.take{u:World}{sl:Option Addr}{cap m:Nat}{ps:List (Int×Int)}(h:PtL u (.slice sl ps.length cap) ps)(hm:m<=ps.length):PtL u (.slice sl m cap) (ps.take m):=by
 obtain⟨sl',gb,go,cap',e,h2,h3,h4,h5,h6⟩:=h
 cases e
 have hl:(ps.take m).length=m:=by rw[List.length_take];omega
 refine⟨sl,gb,go,cap,by rw[hl],by omega,h3,?_,?_,by rw[flt_take];exact h6.take _⟩
 ·rcases h4 with h4 | h4
  ·subst h4;exact .inl (by simp)
  ·exact .inr h4
 ·rcases h5 with h5 | h5
  ·exact .inl (by omega)
  ·exact .inr h5
theorem NL.take{u:World}{b n m:Nat}{ns:List Int}(hb:b<u.heap.size)(h:CV u b (flN ns))(hn:ns.length=n)(hm:m<=n):NL u (.slice (some ⟨b,0,none⟩) (ns.take m).length n) (ns.take m):=
 ⟨_,b,0,n,rfl,by rw[List.length_take];omega,(by simp),.inr rfl,.inr hb,(show SN u b 0 ns from fun j v hj=>by rw[Nat.zero_add];exact(h j v hj).1).take m⟩
theorem cLine(q:Int)(d m:Nat)(vs:List Int)(ps:List (Int×Int))(v:Value)(w:World)(rb:Bool)(hG:GP w)(hq:In q)(hq2:2<=q)(hd:d<256)(hv:PtL w v ps)(hps: ∀p∈ps,In p.1/\In p.2)(h1:1<=ps.length)(hl:ps.length<=256)(hm:m=min (d+1) ps.length)(hi:Invs q ((ps.map Prod.fst).take m) vs)(hD: ∀i,i<ps.length-> ∀x∈(ps.map Prod.fst).take i,x%q≠(ps.map Prod.fst).getD i 0%q)
 (hrb:rb=true↔ ∀k,m<=k->k<ps.length->smN q (fac q (ps.getD k (0,0)).1 ((ps.map Prod.fst).take m) vs) (ps.take m) m=(ps.getD k (0,0)).2%q):
 CC 24 #[NV q,.int .i64 (d:Int),v] w (.tuple #[.bool rb,.int .i64 0]):=by
 have hv':=hv
 obtain⟨sl,gb,go,cap,rfl,h2,h3,h4,h5,h6⟩:=hv
 have hxl:(ps.map Prod.fst).length=ps.length:=by simp
 have hxs: ∀z∈ps.map Prod.fst,In z:=fun z hz=>by
  obtain⟨p,hp,rfl⟩:=List.mem_map.1 hz
  exact(hps p hp).1
 have hxt: ∀z∈(ps.map Prod.fst).take m,In z:=fun z hz=>hxs z (List.mem_of_mem_take hz)
 have hmn:m<=ps.length:=by omega
 have htl:((ps.map Prod.fst).take m).length=m:=by rw[List.length_take,hxl];omega
 have hpt:(ps.take m).length=m:=by rw[List.length_take];omega
 have hq0:q≠0:=by omega
 have h4':cap=0\/sl=some ⟨gb,go,none⟩:=h4.imp (fun e=>by subst e;simp at h1) id
 have hgd: ∀k,k<ps.length->ps.getD k (0,0)∈ps:=fun k hk=>by simp[List.getElem?_eq_getElem hk]
 obtain⟨sl2,hs1,hs2⟩:=slP sl gb go ps.length cap m hmn h2 h4'
 refine line_ok q sl sl2 gb go cap d m (ps.length -m) ps (ps.map Prod.fst) vs (fun k=>smN q (fac q (ps.getD k (0,0)).1 ((ps.map Prod.fst).take m) vs) (ps.take m) m) rb w hq hq0 (by omega) (by omega) hmn (by omega) rfl h2 h3 (PtL.ix h4) h5 h6 (by omega) hs1 hs2 (cPtsOf hG hq hq2 hl h1) (cDegOf hd) (fun u hB=>?_) (fun u bx hB hb hK=>?_) (fun u bx hB hb hK=>?_) (fun u bx bd k hB hk1 hk2 hb hd2 hKx hKd=>?_) (fun k=>smN_In hq hq0 _) (fun k hk=>hps _ (hgd k hk)) hrb
 ·obtain⟨sl',gb',go',cap',e,k2,k3,k4,k5,k6⟩:=hv'.up hB
  cases e
  exact allX_core sl gb' go' cap ps (ps.map Prod.fst) u hxl (fun k hk=>by simp[List.getElem?_map,List.getElem?_eq_getElem hk]) (PtL.ix k4) k5 k6 (by omega)
 ·obtain⟨s',g',o',c',e,k2,k3,k4,k5,k6⟩:=row_nl hb hK
  cases e
  exact apart_ok q _ g' o' _ (ps.map Prod.fst) u hq hq0 (NL.ix (u:=u) k4) k5 k6 (Zz hxs) (by omega) (fun i hi=>hD i (by omega))
 ·have h:=cBaseOf q ((ps.map Prod.fst).take m) vs (some ⟨bx,0,none⟩) (ps.map Prod.fst).length u hq hq2 (NL.take hb hK rfl (by omega)) hxt (by omega) hi
  rw[htl] at h
  exact h
 ·have h:=cSumB q (ps.getD k (0,0)).1 ((ps.map Prod.fst).take m) vs (ps.take m) (.slice sl m cap) (some ⟨bx,0,none⟩) (ps.map Prod.fst).length bd u hq hq2 (hps _ (hgd k hk2)).1 (NL.take hb hKx rfl (by omega)) hxt (by omega) hi hd2 hKd ((hv'.up hB).take hmn) (fun p hp=>(hps p (List.mem_of_mem_take hp)).2) (by omega)
  rw[htl,hpt] at h
  exact h
theorem cAddS(q:Int)(aa bs:List Int)(v vb:Value)(w:World)(hG:GP w)(hq:In q)(hq2:2<=q)(hv:NL w v aa)(hna: ∀z∈aa,In z)(h1:1<=aa.length)(hl:aa.length<=256)(hvb:NL w vb bs)(hnb: ∀z∈bs,In z)(h1b:1<=bs.length)(hlb:bs.length<=256):
 Calls Tryz.prog 13 #[NV q,v,vb] w fun e u=> ∃y,e= .returned (.tuple #[y,.int .i64 0])/\PRw w.heap.size (sAd q aa bs) u y/\Bw w u:=by
 obtain⟨sa,ga,oa,ca,rfl,a2,a3,a4,a5,a6⟩:=hv
 obtain⟨sb,gb,ob,cb,rfl,b2,b3,b4,b5,b6⟩:=hvb
 by_cases hs:aa.length<bs.length
 ·exact add_sw q sb sa gb ob cb ga oa ca bs aa (sAd q aa bs) w hq (by omega) (by omega) (by simp;omega) (cPolyn hG hq hq2 hl h1) (cPolyn hG hq hq2 hlb h1b) (NL.ix (u:=w) b4) b5 b6 (Zz hnb) (NL.ix (u:=w) a4) a5 a6 (Zz hna) (by omega) (by show (sAd q aa bs).length=bs.length;rw[sAd_len];omega) (fun k hk=>by unfold sAd;rw[tab_get (by omega),Int.add_comm])
 ·exact add_ok q sa sb ga oa ca gb ob cb aa bs (sAd q aa bs) w hq (by omega) (by omega) (by simp;omega) (cPolyn hG hq hq2 hl h1) (cPolyn hG hq hq2 hlb h1b) (NL.ix (u:=w) a4) a5 a6 (Zz hna) (NL.ix (u:=w) b4) b5 b6 (Zz hnb) (by omega) (by show (sAd q aa bs).length=aa.length;rw[sAd_len];omega) (fun k hk=>by unfold sAd;rw[tab_get (by omega)])
end Go.Proofs.YtgieoghechekpaaGreatDoor
