/- Proved: for any number, GrpParams returns true and leaves its arguments as they were. The five variables that the program lays as its text says. -/
import Derived.Test.YtdhlekdohebbbaaGreatDoorAN8
import Derived.Test.YtdhlekdohebbbaaGreatDoorAO9
import Derived.Test.YtdhlekdohebbbaaGreatDoorTie
import Derived.Test.YtdhlekdohebbbaaGreatDoorCards
import Derived.LaidMore
import Derived.SevenTiedAt
namespace Go.Proofs.YtdhlekdohebbbaaGreatDoor
set_option linter.unusedVariables false
set_option linter.unusedSimpArgs false
set_option maxRecDepth 100000
set_option maxHeartbeats 4000000
section
open Go.RowKit
theorem fieldsG:(Tryz.prog.fieldsOf 26).toList.all (fun f=>f.type==24&&(f.offset==0 || f.offset==4 || f.offset==8 || f.offset==12))=true:=by kernel_rfl
theorem neq_g(p q:Operand)(n f a b:Int)(w:World):(do eqGuard .neq 26 p q (GX n f a b) (GX n f a b);binOp .neq 26 (GX n f a b) (GX n f a b):Sem Value).run Tryz.prog w= .ok (.bool false) w:=by
 have h:(Op.equalIn 10000 26 (GX n f a b) (GX n f a b)).run Tryz.prog w= .ok true w:=by
  rw[show (10000:Nat)=9999+1 from rfl,run_equalIn_struct w 9999 26 _ _ (by kernel_rfl) (by kernel_rfl)]
  refine Uf 9999 _ w _ fun g hg=>?_
  have h1:=List.all_eq_true.1 fieldsG g hg
  simp only[Bool.and_eq_true,Bool.or_eq_true,beq_iff_eq] at h1
  obtain⟨h2,h3⟩:=h1
  rw[h2]
  rcases h3 with((h3 | h3) | h3) | h3<;>rw[h3]
  ·exact⟨NV n,by kernel_rfl,eqN9 _ _ _ _ w⟩
  ·exact⟨NV f,by kernel_rfl,eqN9 _ _ _ _ w⟩
  ·exact⟨NV a,by kernel_rfl,eqN9 _ _ _ _ w⟩
  ·exact⟨NV b,by kernel_rfl,eqN9 _ _ _ _ w⟩
 rw[Sem.run_bind,run_eqGuard_agg w .neq 26 p q _ _ (by kernel_rfl),Result.andThen_ok,run_neq_struct,h]
 rfl
theorem xGroup_ps(p q g h:Int)(b0 cap n:Nat)(cs:List (Int×Int×Int))(w:World)(hn:n=cs.length)(hp:In p)(hq:In q)(hg:In g)(hh:In h)(hcs:cs.length<=256)(hin:Hid (∀j,j<cs.length->In (cat cs j).1/\In (cat cs j).2.1/\In (cat cs j).2.2))(he:gpE p q g h cs=0)(hlt:b0<w.heap.size)(hcv:CV w b0 (flC cs)):
 CC 8 #[GX p q g h,.slice (some ⟨b0,0,none⟩) n cap] w (iI 0):=by
 subst hn
 have:=xGroup p q g h b0 cap cs w hp hq hg hh hcs hin hlt hcv
 rw[he] at this
 exact this
theorem grpParams_bad(k P Q g hh:Int)(w:World)(hP:Hid (∀u,Bw w u->CC 4 #[iI k] u (.tuple #[GX P Q g hh,iI 2])))
 (hR:Hid (∀u,Bw w u->CC 5 #[iI k] u (.tuple #[GX P Q g hh,iI 2])))
 (hW:Hid (∀u,Bw w u->CC 6 #[] u (.bool true))):
 CC 3 #[iI k] w (.bool true):=by
 go_enter Tryz.func3,Tryz.ntmps3
 have HB0:Bw w w:=Below.refl _ _
 have K0_1:=Bk.nil (w.heap.size) w
 go_upto_region 1 with fail
 refine Rp K0_1 HB0 [] [(5,3,L0g,some (6,GE P Q g hh))] [(0,10,iI k),(1,11,.tuple #[GX P Q g hh,iI 2]),(2,9,.tuple #[GX P Q g hh,iI 2]),(3,12,GX P Q g hh),(4,13,iI 2),(7,4,iI 2)] [(6,5)] [] [] (oc g_mv<|oc (g_cb Wj hP.out)<|oc g_mv<|oc g_ex<|oc g_ex<|oc (g_al 0 Xg)<|oc (g_sn 0 Z3)<|oc g_as on) fun u1 b1_5 HB1 _ K1=>?_
 simp only[sQ] at K1⊢
 go_upto_region 2 with fail
 refine Rp K1 HB1 [] [(5,5,L0g,some (6,GE P Q g hh))] [(0,15,iI k),(1,16,.tuple #[GX P Q g hh,iI 2]),(2,14,.tuple #[GX P Q g hh,iI 2]),(3,17,GX P Q g hh),(4,18,iI 2),(7,6,iI 2)] [(6,5)] [] [] (oc g_mv<|oc (g_cb X6 hR.out)<|oc g_mv<|oc g_ex<|oc g_ex<|oc (g_al 0 Xg)<|oc (g_sn 0 Z3)<|oc g_as on) fun u2 b2_5 HB2 _ K2=>?_
 simp only[sQ] at K2⊢
 go_upto_region 3 with fail
 refine Rn K2 HB2 (cG 0 19 [GX P Q g hh,GX P Q g hh,.bool false,.bool false,iI 2,iI 2,.bool false,.bool false] []) (oc (g_ld 0 Tryz.underlying26 Z3)<|oc (g_ld 1 Tryz.underlying26 Z3)<|oc (g_bn (neq_g _ _ P Q g hh))<|oc g_mv<|oc g_mv<|oc g_mv<|oc (g_bn (fun uZ=>V9 _ _ _ 2 2 _ uZ rfl))<|oc g_pk on) fun u3 HB3 _ K3=>?_
 simp only[sQ] at K3⊢
 go_upto_region 5 with fail
 refine Rn K3 HB3 [(0,27,iI 2),(1,28,.bool true)] (oc g_mv<|oc (g_bn (fun uZ=>V9 _ _ _ 2 0 _ uZ rfl)) on) fun u4 HB4 _ K4=>?_
 simp only[sQ] at K4⊢
 go_upto_region 6 with fail
 refine Rn K4 HB4 [(0,29,.bool true),(1,2,.bool true)] (oc (g_cb Xe hW.out)<|oc g_as on) fun u5 HB5 _ K5=>?_
 simp only[sQ] at K5⊢
 go_wp2
 refine bodyPost_ret (v:= .bool true) (by simp[results,Tryz.results3,go_sem,]) rfl ⟨rfl,HB5⟩
theorem grpParams_core(k P Q g hh:Int)(n:Nat)(cs:List (Int×Int×Int))(w:World)(hn:Hid (n=cs.length))(h0:0<n)(h20:n<=20)(iP:In P)(iQ:In Q)(ig:In g)(ih:In hh)(hin:Hid (∀j,j<cs.length->In (cat cs j).1/\In (cat cs j).2.1/\In (cat cs j).2.2))(hgp:gpE P Q g hh cs=0)
 (hX:Hid (∀u,Calls Tryz.prog 7 #[iI k] u fun e u'=> ∃v,e= .returned v/\PT 0 u.heap.size n (flC cs) u' v/\Bw u u'))
 (hP:Hid (∀u,Bw w u->CC 4 #[iI k] u (.tuple #[GX P Q g hh,iI 0])))
 (hR:Hid (∀u,Bw w u->CC 5 #[iI k] u (.tuple #[GX P Q g hh,iI 0])))
 (hW:Hid (∀u,Bw w u->CC 6 #[] u (.bool true))):
 CC 3 #[iI k] w (.bool true):=by
 go_enter Tryz.func3,Tryz.ntmps3
 have HB0:Bw w w:=Below.refl _ _
 have K0_1:=Bk.nil (w.heap.size) w
 go_upto_region 1 with fail
 refine Rp K0_1 HB0 [] [(5,3,L0g,some (6,GE P Q g hh))] [(0,10,iI k),(1,11,.tuple #[GX P Q g hh,iI 0]),(2,9,.tuple #[GX P Q g hh,iI 0]),(3,12,GX P Q g hh),(4,13,iI 0),(7,4,iI 0)] [(6,5)] [] [] (oc g_mv<|oc (g_cb Wj hP.out)<|oc g_mv<|oc g_ex<|oc g_ex<|oc (g_al 0 Xg)<|oc (g_sn 0 Z3)<|oc g_as on) fun u1 b1_5 HB1 _ K1=>?_
 simp only[sQ] at K1⊢
 go_upto_region 2 with fail
 refine Rp K1 HB1 [] [(5,5,L0g,some (6,GE P Q g hh))] [(0,15,iI k),(1,16,.tuple #[GX P Q g hh,iI 0]),(2,14,.tuple #[GX P Q g hh,iI 0]),(3,17,GX P Q g hh),(4,18,iI 0),(7,6,iI 0)] [(6,5)] [] [] (oc g_mv<|oc (g_cb X6 hR.out)<|oc g_mv<|oc g_ex<|oc g_ex<|oc (g_al 0 Xg)<|oc (g_sn 0 Z3)<|oc g_as on) fun u2 b2_5 HB2 _ K2=>?_
 simp only[sQ] at K2⊢
 go_upto_region 3 with fail
 refine Rn K2 HB2 (cG 0 19 [GX P Q g hh,GX P Q g hh,.bool false,.bool false,iI 0,iI 0,.bool false,.bool false] []) (oc (g_ld 0 Tryz.underlying26 Z3)<|oc (g_ld 1 Tryz.underlying26 Z3)<|oc (g_bn (neq_g _ _ P Q g hh))<|oc g_mv<|oc g_mv<|oc g_mv<|oc (g_bn (fun uZ=>V9 _ _ _ 0 0 _ uZ rfl))<|oc g_pk on) fun u3 HB3 _ K3=>?_
 simp only[sQ] at K3⊢
 go_upto_region 5 with fail
 refine Rn K3 HB3 [(0,27,iI 0),(1,28,.bool false)] (oc g_mv<|oc (g_bn (fun uZ=>V9 _ _ _ 0 0 _ uZ rfl)) on) fun u4 HB4 _ K4=>?_
 simp only[sQ] at K4⊢
 go_upto_region 7 with fail
 refine Rf K4 HB4 [] [] [(0,31,iI k),(4,34,iI 0),(6,8,iI 0)] [] [] [⟨1,32,none,PT 0 u4.heap.size n (flC cs)⟩,⟨2,30,none,PT 0 u4.heap.size n (flC cs)⟩,⟨3,33,some 5,PS u4.heap.size n (flC cs)⟩,⟨5,7,none,PS u4.heap.size n (flC cs)⟩] [] (hst:=(.cons (fun _ _ _ h1 h2=>h2.stab h1)<| .cons (fun _ _ _ h1 h2=>h2.stab h1)<| .cons (fun _ _ _ h1 h2=>h2.stab h1)<| .cons (fun _ _ _ h1 h2=>h2.stab h1)<|Stab.nil)) (oc g_mv<|oc (g_cE 0 (PT 0 u4.heap.size n (flC cs)) Yi (fun u hB hs=>(hX.out u).mono fun e u2 ⟨v,e1,h1,h2⟩=>⟨v,e1,h1.mono hs,h2⟩))<|oc (g_mE 0 1 (PT 0 u4.heap.size n (flC cs)))<|oc (g_xE 1 2 (PT 0 u4.heap.size n (flC cs)) (PS u4.heap.size n (flC cs)) PT.fst)<|oc (g_xV 1 (PT 0 u4.heap.size n (flC cs)) PT.snd)<|oc (g_sE 2 3 (PS u4.heap.size n (flC cs)))<|oc g_as on) fun u5 v5_1 hv5_1 v5_2 hv5_2 v5_3 hv5_3 v5_5 hv5_5 HB5 _ K5=>?_
 simp only[sQ] at K5⊢
 obtain⟨bl,cl,rfl,l1,l2,l3,l4⟩:=hv5_5 rfl
 have K5xl:=Bk.more3 K4 K5 l1 l2 l4 (by intro x hx;first | (simp at hx;done) | (simp at hx⊢;omega))
 simp only[aK] at K5xl
 go_upto_region 8 with fail
 refine Rn K5xl HB5 (cG 0 35 [GX P Q g hh,.slice (some ⟨bl,0,none⟩) n cl,iI 0,.bool true,.bool true,.bool true,.bool true] [(7,2,.bool true)]) (oc (g_ld 0 Tryz.underlying26 Z3)<|oc g_mv<|oc (g_ck Wo (fun fZ uZ kZ sZ=>xGroup_ps P Q g hh bl cl n cs uZ hn.out iP iQ ig ih (by have:=hn.out;omega) hin hgp (kZ.lb sZ 2) (kZ.cv 2)))<|oc (g_bn (fun uZ=>Vb _ _ _ 0 0 _ uZ rfl))<|oc g_mv<|oc (g_cb Xe hW.out)<|oc g_pk<|oc g_as on) fun u6 HB6 _ K6=>?_
 simp only[sQ] at K6⊢
 go_wp2
 refine bodyPost_ret (v:= .bool true) (by simp[results,Tryz.results3,go_sem,]) rfl ⟨rfl,HB6⟩
theorem h0_nums:1<meN P0 [104]/\meN P0 [104]<P0 -1/\4≠meN P0 [104]:=by decide+kernel
theorem h1_nums:1<meN PB1 [104]/\meN PB1 [104]<PB1 -1/\4≠meN PB1 [104]:=by decide+kernel
theorem pr1:Pr PB1.toNat:=(cfB_pr chain1_in chain1_ok).2
theorem gp_of{p q h:Int}{cs:List (Int×Int×Int)}(hp:Pr p.toNat)(hg:gOk p q)(hc:cfB cs=true)(h1:(cat cs (cs.length -1)).1=p)(h2:(cat cs (cs.length -1)).2.1=q)(h4:4%p=4)(hx:4<p -1)(hh:Mb p q h)(hn:1<h/\h<p -1/\4≠h):gpE p q 4 h cs=0:=by
 refine gpE_t ?_
 have m4:Mb p q 4:=by
  have:=sq_Mb (x:=2) hp hg (by have:=hg.2;rw[Int.emod_eq_of_lt (by omega) (by omega)];omega)
  rwa [show (2*2:Int)=4 from rfl,h4] at this
 have e1:gnB 4 p q=true:=decide_eq_true ⟨by omega,hx,m4.2.2⟩
 have e2:gnB h p q=true:=decide_eq_true ⟨hn.1,hn.2.1,hh.2.2⟩
 have e3:twB p q=true:=by
  unfold twB
  simp[hg.1]
 unfold gpB
 rw[hc,e1,e2,e3,decide_eq_true h1,decide_eq_true h2,decide_eq_false hn.2.2]
 rfl
theorem mb_h1:Mb PB1 QB1 (meN PB1 [104]):=meN_Mb pr1 g1_ok _
theorem In_P1':In PB1:=⟨by decide+kernel,by decide+kernel⟩
theorem In_Q1':In QB1:=⟨by decide+kernel,by decide+kernel⟩
theorem gp0:gpE P0 Q0 4 (meN P0 [104]) (stp ns0 2)=0:=gp_of pr0 g0_ok chain0_ok rfl rfl (by decide) (by decide) mb_h0 h0_nums
theorem gp1:gpE PB1 QB1 4 (meN PB1 [104]) (stp ns1 5)=0:=gp_of pr1 g1_ok chain1_ok rfl rfl (by decide+kernel) (by decide+kernel) mb_h1 h1_nums
theorem grpParams_any(k:Int)(w:World)(k1: -9223372036854775808<=k)(k2:k<=9223372036854775807)(hP:GPar w)(hQ:GPa0 w)(hE:GExp w)(hI:GIs w)(hC:GChk w):
 CC 3 #[iI k] w (.bool true):=by
 have hW:=fun u (hB:Bw w u)=>works9 u (hQ.up hB) (hE.up hB) (hI.up hB) (hC.up hB)
 have hp:=fun u (hB:Bw w u)=>hP u k hB k1 k2
 have hr:=fun u (_:Bw w u)=>xParams k u
 by_cases e0:k=0
 ·subst e0
  rw[paP0,paQ0,paG0,paH0,paE0] at hp hr
  exact grpParams_core 0 P0 Q0 4 (meN P0 [104]) 2 (stp ns0 2) w rfl (by omega) (by omega) U7 In_Q0' In_n4 (In_Mb U7 mb_h0) chain0_in gp0 (fun u=>xChain0 u) hp hr hW
 ·by_cases e1:k=1
  ·subst e1
   have a1:paP 1=PB1:=(if_neg e0).trans (if_pos rfl)
   have a2:paQ 1=QB1:=(if_neg e0).trans (if_pos rfl)
   have a3:paG 1=4:=if_pos (.inr rfl)
   have a4:paH 1=meN PB1 [104]:=(if_neg e0).trans (if_pos rfl)
   have a5:paE 1=0:=if_pos (.inr rfl)
   rw[a1,a2,a3,a4,a5] at hp hr
   exact grpParams_core 1 PB1 QB1 4 (meN PB1 [104]) 5 (stp ns1 5) w rfl (by omega) (by omega) In_P1' In_Q1' In_n4 (In_Mb In_P1' mb_h1) chain1_in gp1 (fun u=>xChain1 u) hp hr hW
  ·have a5:paE k=2:=by simp[paE,e0,e1]
   rw[a5] at hp hr
   exact grpParams_bad k _ _ _ _ w hp hr hW
def PGI(ys:List Nat)(u:World)(v:Value):Prop:=IN u u.heap.size v ys
theorem PGI.stab{ys:List Nat}{u u2:World}{x:Value}(hB:Bw u u2)(h:PGI ys u x):PGI ys u2 x:=(IN.below h hB).mono hB.size
theorem gPa0(w:World)(hV:GV w):GPa0 w:=fun u hB=>par_k 0 P0 Q0 _ u (fun u _=>cNumbers 0 1162079267 581039633 [131101,581039633,1162079267] u (by decide) (by decide) rfl rfl (fun u=>cPrimes0 u)) (fun u2 y hB2 hy=>cMemberOf P0 [104] y u2 (hV.below (Yl hB hB2) hV.sz) U7 (by decide) hy (by decide) (by decide))
theorem cParG(k:Int)(w:World)(hV:GV w)(hG:GT w)(h0: -9223372036854775808<=k)(h1:k<=9223372036854775807):
 CC 4 #[iI k] w (.tuple #[GX (paP k) (paQ k) (paG k) (paH k),iI (paE k)]):=by
 have mem: ∀p:Int,In p->p≠0->Hid (∀u y,Bw w u->PIn [104] u y->CC 13 #[NV p,y] u (NV (meN p [104]))):=fun p hp hp0 u y hB hy=>cMemberOf p [104] y u (hV.below hB hV.sz) hp hp0 hy (by decide) (by decide)
 by_cases e0:k=0
 ·subst e0
  rw[paP0,paQ0,paG0,paH0,paE0]
  exact par_k 0 P0 Q0 _ w (fun u _=>cNumbers 0 1162079267 581039633 [131101,581039633,1162079267] u (by decide) (by decide) rfl rfl (fun u=>cPrimes0 u)) (mem P0 U7 (by decide))
 ·by_cases e1:k=1
  ·subst e1
   rw[show paP 1=PB1 from (if_neg (by decide)).trans (if_pos rfl),show paQ 1=QB1 from (if_neg (by decide)).trans (if_pos rfl),show paG 1=4 from if_pos (.inr rfl),show paH 1=meN PB1 [104] from (if_neg (by decide)).trans (if_pos rfl),show paE 1=0 from if_pos (.inr rfl)]
   exact par_k 1 PB1 QB1 _ w (fun u _=>cNumbers 1 PB1 QB1 ns1 u (by decide) (by decide) rfl rfl (fun u=>cPrimes1 u)) (mem PB1 ⟨by decide,by decide⟩ (by decide))
  ·rw[show paP k=0 from (if_neg e0).trans (if_neg e1),show paQ k=0 from (if_neg e0).trans (if_neg e1),show paG k=0 from if_neg (by omega),show paH k=0 from (if_neg e0).trans (if_neg e1),show paE k=2 from if_neg (by omega)]
   exact par_n k w hG h0 h1 (fun u _=>cNumbers_bad k u (by simpa using e0) (by simpa using e1)) (fun u _=>gTold2 _ u (.wrap _ _ .leaf))
theorem gChk(w:World):GChk w:=fun u p q g h hB hp hq hg hh=>cCheckG p q g h u hp hq
theorem gIs(w:World)(hG:GT w):GIs w:=fun u p q g h x hB hp hq hg hh hx=>cIsG p q g h x u (hG.below hB) hp hq hx
theorem gExp(w:World)(hG:GT w):GExp w:=fun u p q g h x e hB hp hq hg hh hx he=>cExpG p q g h x e u (hG.below hB) hp hq hx he
theorem gPar(w:World)(hV:GV w)(hG:GT w):GPar w:=fun u k hB h0 h1=>cParG k u (hV.below hB hV.sz) (hG.below hB) h0 h1
end
section
open Go.ChangeShapes Go.WideShapes Go.ChangeAt Go.RowKit
theorem own4:ownKnob Tryz.prog.godebug=none:=by kernel_rfl
theorem laid4:laidOutB Tryz.prog=true:=by kernel_rfl
abbrev lstG:List (String×DataW Unit):=[("math/bits.deBruijn32tab",Rows.laid_math_bits_deBruijn32tab),("math/bits.deBruijn64tab",Rows.laid_math_bits_deBruijn64tab),("internal/strconv.uint64pow10",Rows.laid_internal_strconv_uint64pow10),("seneschal/sha.constants",Rows.laid_seneschal_sha_constants),("seneschal/sha.first",Rows.laid_seneschal_sha_first)]
theorem gCon:Tryz.prog.globalNamed "seneschal/sha.constants" =some 7:=by kernel_rfl
theorem gFir:Tryz.prog.globalNamed "seneschal/sha.first" =some 6:=by kernel_rfl
theorem tCon:(Tryz.prog.globals[7]?).map (·.type)=some 184:=by kernel_rfl
theorem tFir:(Tryz.prog.globals[6]?).map (·.type)=some 172:=by kernel_rfl
theorem tPow:(Tryz.prog.globals[0]?).map (·.type)=some 143:=by kernel_rfl
theorem powIs:(Rows.laid_internal_strconv_uint64pow10:DataW Unit)=Lib.tabData .u64 Lib.pow10Tab:=by kernel_rfl
def lits{H:Type}(ks:List Nat):DataW H:= .agg (ks.map fun(k:Nat)=>.lit (.int .u32 (k:Int)))
theorem con_is{H:Type}:(Rows.laid_seneschal_sha_constants:DataW H)=lits kcs:=by kernel_rfl
theorem fir_is{H:Type}:(Rows.laid_seneschal_sha_first:DataW H)=lits fst8:=by kernel_rfl
theorem cells32:Tryz.prog.cellsOf 144=1:=by kernel_rfl
theorem arr_cells{H:Type}{enc:TypeId×Value->H}{W:World}{base fuel:Nat}{sp:Nat->Bool}{held:Bool}{t:TypeId}{n:Nat}(ht:Tryz.prog.underlying t=some (.array n 144)){cs:List Value}{ks:List Nat}{pl:List MemPlace}(h:DataW.trod enc Tryz.prog W base sp held fuel t cs=some (lits ks,pl))(hk:ks.length=n): ∀i,i<n->cs[i]?=some (.int .u32 ((ks.getD i 0:Nat):Int)):=fun i hi=>by
 obtain⟨xs,m,rfl,hx,hlen,hn,hel⟩:=DataW.trod_array ht h
 simp only[Prod.mk.injEq,lits,DataW.agg.injEq] at hx
 have h1:=hel i hi
 rw[cells32,Nat.mul_one,List.getElem?_eq_getElem (by omega)] at h1
 obtain⟨k,e1,e2,_⟩:=DataW.trod_int Tryz.underlying144 h1
 have e3:(xs.map (·.1))[i]?=some (.lit (.int .u32 k)):=by
  rw[List.getElem?_map,List.getElem?_eq_getElem (by omega)]
  simp[e2]
 rw[<-hx.1,List.getElem?_map,List.getElem?_eq_getElem (by omega)] at e3
 simp at e3
 have e4:(cs.drop i)[0]?=some (.int .u32 k):=by
  have:((cs.drop i).take 1)[0]?=some (.int .u32 k):=by rw[e1];rfl
  rwa [List.getElem?_take_of_lt (by omega)] at this
 rw[List.getElem?_drop,Nat.add_zero] at e4
 rw[e4,List.getD_eq_getElem?_getD,List.getElem?_eq_getElem (by omega),<-e3]
 rfl
structure GG(w:World):Prop where
 v:GV w
 t:GT w
 sz:0<w.heap.size
theorem of_laidG{W:World}(h:laidMetH Tryz.prog lstG W):GG W:=by
 rw[MakeChecks.laidMetH_plain _ _ _ (by kernel_rfl)] at h
 obtain⟨ps,⟨g0,t0,cs0,f0,p0,q0,hg0,ht0,hv0,hd0,⟨g1,t1,cs1,f1,p1,q1,hg1,ht1,hv1,hd1,⟨g2,t2,cs2,f2,p2,q2,hg2,ht2,hv2,hd2,⟨g3,t3,cs3,f3,p3,q3,hg3,ht3,hv3,hd3,⟨g4,t4,cs4,f4,p4,q4,hg4,ht4,hv4,hd4,_,_⟩,_⟩,_⟩,_⟩,_⟩,_,_⟩:=h
 obtain rfl:=Option.some.inj (gPowG.symm.trans hg2)
 obtain rfl:=Option.some.inj (tPow.symm.trans ht2)
 obtain rfl:=Option.some.inj (gCon.symm.trans hg3)
 obtain rfl:=Option.some.inj (gFir.symm.trans hg4)
 obtain rfl:=Option.some.inj (tCon.symm.trans ht3)
 obtain rfl:=Option.some.inj (tFir.symm.trans ht4)
 rw[powIs] at hd2
 rw[con_is] at hd3
 rw[fir_is] at hd4
 have htab:Lib.TabIs Tryz.prog W "internal/strconv.uint64pow10" .u64 Lib.pow10Tab:=by
  unfold Lib.TabIs
  rw[hv2,<-Lib.cells_of_tab Tryz.underlying143 Tryz.underlying22 (by kernel_rfl) (by kernel_rfl) hd2]
 have hc2:=htab.cell gPowG 0 (by rw[Lib.pow10Tab_length];omega)
 have k0:=arr_cells Tryz.underlying184 hd3 rfl
 have k1:=arr_cells Tryz.underlying172 hd4 rfl
 have c0: ∀t,t<64->W.cell? ⟨7,t,none⟩=some (.int .u32 ((kcs.getD t 0:Nat):Int)):=fun t ht=>by
  rw[World.var?_cell hg3 hv3 t,<-Array.getElem?_toList];exact k0 t ht
 have c1: ∀t,t<8->W.cell? ⟨6,t,none⟩=some (.int .u32 ((fst8.getD t 0:Nat):Int)):=fun t ht=>by
  rw[World.var?_cell hg4 hv4 t,<-Array.getElem?_toList];exact k1 t ht
 have s0:7<W.heap.size:=World.block_lt_of_cell? W _ (c0 0 (by decide))
 have s1:6<W.heap.size:=World.block_lt_of_cell? W _ (c1 0 (by decide))
 exact⟨⟨by omega,c0,c1⟩,⟨World.block_lt_of_cell? W _ hc2,htab⟩,by omega⟩
theorem doorG(os:Go.Os)(args:Array Value):laidMetH Tryz.prog lstG ((World.doorLaid Tryz.prog 400 os).forCall (fun _ _=>0) ⟨#[],args,[]⟩).memory:=
 laidMetH_of_parts3 (fuel:=8) (laidMet_of_run' 8 (by kernel_rfl) (by kernel_rfl)) (by kernel_rfl) (by kernel_rfl)
theorem grpParams_lifted(os:Go.Os)(started:os.Started)(H:Type)(enc:TypeId×Value->H):
 ReturnsInHanded {} Tryz.checked os 3 .any (fun w args=>(Rows.grpParamsSpec.pre enc Tryz.prog Tryz.f3 [] false w args/\laidMetH Tryz.prog lstG w)/\sizedMet enc Tryz.prog Tryz.f3 (OpenSpec.ofChange Rows.grpParamsSpec) false w args)
  (Rows.grpParamsSpec.post enc Tryz.prog Tryz.f3 false true false false):=by
 refine returnsInHanded_of_change_and (C:=Tryz.checked) (X:=fun w _=>laidMetH Tryz.prog lstG w) (fun _ _ _ hh h=>h.of_heap hh) own4 started (by kernel_rfl) Tryz.func3
  (ChangeSpec.witness_shaped (enc:=enc) (C:=Tryz.checked) (os:=os) (X:=fun w _=>laidMetH Tryz.prog lstG w) false (World.doorLaid Tryz.prog 400 os) #[iI 0] 8 rfl (World.shaped_of_RefB (by kernel_rfl) (by kernel_rfl)) (by kernel_rfl) (by kernel_rfl) (by kernel_rfl) (doorG os _)) ?_
 intro W base args ds gs before hval0 hW _ _ hL _
 have hval: ∀(j:Nat) t v,Tryz.f3.params[j]?=some t->args[j]?=some v->Value.okWide Tryz.prog W .any base t v:=hval0
 have hW':=hW
 obtain⟨p,q,hA0,hV,rfl,hfz,hnd⟩:=hW
 have hA:DataW.TrodAll enc Tryz.prog W 0 (fun _=>true) true Tryz.f3.params.toList args.toList ds p:=hA0
 rw[Tryz.params3] at hA hval
 obtain⟨v0,d0,rfl,rfl,h0⟩:=trodAll_one hA
 obtain⟨rfl,rfl⟩:=trodVars_none hV
 simp only[List.append_nil] at hW'
 have hGV:=of_laidG hL
 have hlt: ∀x∈p,x.block<W.heap.size:=fun x hx=>by simpa using hW'.lt x (by simpa using hx)
 have hargs: ∀(W':World),Bw W W'->DataW.Trod enc Tryz.prog W' 0 (fun b=>decide (b<W.heap.size)) true 3 v0 d0 p:=
  fun W' hn=>Below.trod laid4 (by kernel_rfl) (of_decide_eq_true (by kernel_rfl)) h0 hn (fun x hx=>hlt x (by simp[hx]))
 have h0k:=h0
 obtain⟨x0,rfl,rfl,rfl,wx0⟩:=open_int Tryz.underlying3 (hval 0 3 v0 rfl rfl) h0k
 have rx0: -9223372036854775808<=x0/\x0<=9223372036854775807:=by simp[Lit.wf,IntKind.min,IntKind.max,IntKind.signed,IntKind.bits] at wx0;omega
 clear hA0 hval0
 have hwalk:=grpParams_any x0 W rx0.1 rx0.2 (gPar W hGV.v hGV.t) (gPa0 W hGV.v) (gExp W hGV.t) (gIs W hGV.t) (gChk W)
 refine hwalk.mono fun e W' ⟨he,bel⟩=>?_
 subst he
 exact⟨_,rfl,_,_,_,[],_,[],hW',trodAll_mk1 (shut_bool Tryz.underlying4 _),trodAll_mk1 (hargs _ bel),rfl,bel.frame _,fun h=>by cases h⟩
theorem grpParams_holds:Rows.GrpParamsSaid:=
 OpenClaim.holds_of_wide 3 Tryz.f3 rfl rfl rfl rfl rfl rfl rfl ⟨rfl,rfl,rfl,rfl,rfl⟩ rfl rfl rfl rfl rfl (by kernel_rfl) Tryz.func3 (by kernel_rfl)
  (of_decide_eq_true (by kernel_rfl)) (by unfold Func.isWrapper;first | (rw[if_pos (by decide+kernel)];kernel_rfl) | (rw[if_neg (by decide+kernel)];exact⟨rfl,rfl⟩))
  (fun os started H enc _=>grpParams_lifted os started H enc)
theorem grpParams_card:Rows.GrpParamsCardSaid:=
 Claim7.holds_tied_plain_at .later [] [.data,.data,.data,.data,.data] true (true, "cde9ae70db5d859d203ddf513844e9d1b2a2a26b8ac2b0d67df9510fb008f702") true
  grpParams_holds (fun _ h=>by cases h) (by kernel_rfl) (fun _ h=>by cases h) grpParams_row_tie rfl ⟨rfl,rfl⟩ (by kernel_rfl) rfl
  (fun f fn hf hfn=>by
   obtain rfl:f=3:=Option.some.inj ((show Tryz.prog.funcNamed "seneschal/seneschallaw09.GrpParams" =some 3 by kernel_rfl).symm.trans hf)|>.symm
   obtain rfl:fn=Tryz.f3:=(Option.some.inj (Tryz.func3.symm.trans hfn)).symm
   exact⟨by kernel_rfl,fun j t ht=>by
    rw[Tryz.params3] at ht
    have hm:t∈[3]:=by simpa using Array.mem_of_getElem? ht
    have hall:([3].all fun u=>!Tryz.prog.wantsStandIn u)=true:=by kernel_rfl
    exact(show Tryz.prog.wantsStandIn t=false by simpa using List.all_eq_true.1 hall t hm)⟩)
  (by kernel_rfl)
#print axioms grpParams_card
end
end Go.Proofs.YtdhlekdohebbbaaGreatDoor
