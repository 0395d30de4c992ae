import Derived.Test.YtofcppgfaelloaaGreatDoorCTP
namespace Go.Proofs.YtofcppgfaelloaaGreatDoor
set_option linter.unusedVariables false
set_option linter.unusedSimpArgs false
set_option maxRecDepth 100000
set_option maxHeartbeats 4000000
open Go.RowKit
theorem Wj:EnT 64:=fun _ _=>by kernel_rfl
theorem sca_n (p q g h:Int) (vb:Value) (T:TypeId) (xv:Value) (w:World) (hG:Hid (∀u,Bw w u->CC 55 #[GX p q g h] u (.iface T xv)))(hT:Hid (∀u,Bw w u->CC 56 #[.iface T xv] u (iI 90))):
 CC 33 #[GX p q g h,vb] w (.tuple #[A4 0 0 0 0,iI 90]):=by
 go_enter Tryz.func33,Tryz.ntmps33
 go_upto_region 1 with fail
 obtain⟨v0,hC,HB0,K0⟩:=bx2 w (GE (p) (q) (g) (h)) 26 L0s 24
 rw[hC]
 clear hC
 refine Rp K0 HB0 [] [] [(0,7,_),(1,8,_),(2,6,_)] [] [] [false] (oc (g_ld 0 Tryz.underlying26 Z0)<|oc (g_cb Xp hG.out)<|oc g_as on) fun u1 HB1 _ K1=>?_
 simp only[sQ] at K1⊢
 go_upto_region 2 with fail
 refine Rn K1 HB1 [(0,9,_),(1,10,_)] (oc g_mv<|oc (g_bn (Uz _ _ _ _)) on) fun u2 HB2 _ K2=>?_
 simp only[sQ] at K2⊢
 go_upto_region 3 with fail
 refine Rp K2 HB2 [.all 3 ([iU (0),iU (0),iU (0),iU (0)])] [] (cG 0 11 [_,_,_] [(4,5,_)]) [] [] [] (oc (g_bd zN)<|oc g_mv<|oc (g_cb W7 hT.out)<|oc (g_st 0 iN)<|oc g_as on) fun u3 HB3 _ K3=>?_
 simp only[sQ] at K3⊢
 have c4:=(K3.cv 0).n4
 go_wp2
 refine bodyPost_ret (v:= .tuple #[A4 0 0 0 0,iI 90]) (by simp[results,Tryz.results33,go_sem,c4]) rfl ⟨rfl,HB3⟩
theorem sca_k (p q g h r:Int) (vb:Value) (w:World) (hG:Hid (∀u,Bw w u->CC 55 #[GX p q g h] u (.nilIface)))(hP:Hid (∀u,Bw w u->CC 57 #[.string ⟨#[115,99,97,108,97,114]⟩,vb,NV q] u (NV r))):
 CC 33 #[GX p q g h,vb] w (.tuple #[NV r,iI 0]):=by
 go_enter Tryz.func33,Tryz.ntmps33
 go_upto_region 1 with fail
 obtain⟨v0,hC,HB0,K0⟩:=bx2 w (GE (p) (q) (g) (h)) 26 L0s 24
 rw[hC]
 clear hC
 refine Rn K0 HB0 [(0,7,_),(1,8,_),(2,6,_)] (oc (g_ld 0 Tryz.underlying26 Z0)<|oc (g_cb Xp hG.out)<|oc g_as on) fun u1 HB1 _ K1=>?_
 simp only[sQ] at K1⊢
 go_upto_region 2 with fail
 refine Rn K1 HB1 [(0,9,_),(1,10,_)] (oc g_mv<|oc (g_bn (Uy _ _)) on) fun u2 HB2 _ K2=>?_
 simp only[sQ] at K2⊢
 go_upto_region 4 with fail
 refine Rp K2 HB2 [.no,.all 4 (LN r)] [] (cG 0 14 [_,_,_,_] [(5,5,_)]) [] [] [false] (oc g_mv<|oc (g_fd (fdG1 _))<|oc (g_lo 0 4 uN iN)<|oc (g_cb ent_grp_digest hP.out)<|oc (g_st 1 iN)<|oc g_as on) fun u3 HB3 _ K3=>?_
 simp only[sQ] at K3⊢
 have c4:=(K3.cv 0).n4
 go_wp2
 refine bodyPost_ret (v:= .tuple #[NV r,iI 0]) (by simp[results,Tryz.results33,go_sem,c4]) rfl ⟨rfl,HB3⟩
theorem cScaG (p q g h:Int) (bs:List Nat) (v:Value) (w:World) (hV:GV w) (hp:In p) (hq:In q) (hin:IN w w.heap.size v bs) (hb: ∀x∈bs,x<256) (hl:bs.length<=900):
 CC 33 #[GX p q g h,v] w (.tuple #[NV (scX p q bs),iI (chE p q)]):=by
 have hC:=fun u=>gGroup p q g h u hp hq
 rcases grV_is p q with⟨hg,he⟩ | ⟨hg,he⟩
 ·rw[he] at hC
  have h7:=hg.2
  have h3:=hg.q3
  rw[show chE p q=0 from if_pos hg,show scX p q bs=_ from if_pos hg]
  exact sca_k p q g h _ v w (fun u _=>hC u) (fun u hB=>cDigest bs v _ q u (hV.below hB hV.sz) hq (by omega) ((IN.below hin hB).mono hB.size) hb (by omega) (by decide))
 ·obtain⟨T,xv,ex⟩:=he.some
  rw[ex] at hC he
  rw[show chE p q=90 from if_neg hg,show scX p q bs=0 from if_neg hg,NV_0]
  exact sca_n p q g h v T xv w (fun u _=>hC u) (fun u _=>gTold9 _ u he)
end Go.Proofs.YtofcppgfaelloaaGreatDoor
