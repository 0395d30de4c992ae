import Derived.Test.YtofcppgfaelloaaGreatDoorSN
namespace Go.Proofs.YtofcppgfaelloaaGreatDoor
set_option linter.unusedVariables false
set_option linter.unusedSimpArgs false
set_option maxRecDepth 100000
set_option maxHeartbeats 4000000
open Go.RowKit
abbrev Z64b:List Value:=[.int .u8 0,.int .u8 0,.int .u8 0,.int .u8 0,.int .u8 0,.int .u8 0,.int .u8 0,.int .u8 0,.int .u8 0,.int .u8 0,.int .u8 0,.int .u8 0,.int .u8 0,.int .u8 0,.int .u8 0,.int .u8 0,.int .u8 0,.int .u8 0,.int .u8 0,.int .u8 0,.int .u8 0,.int .u8 0,.int .u8 0,.int .u8 0,.int .u8 0,.int .u8 0,.int .u8 0,.int .u8 0,.int .u8 0,.int .u8 0,.int .u8 0,.int .u8 0,.int .u8 0,.int .u8 0,.int .u8 0,.int .u8 0,.int .u8 0,.int .u8 0,.int .u8 0,.int .u8 0,.int .u8 0,.int .u8 0,.int .u8 0,.int .u8 0,.int .u8 0,.int .u8 0,.int .u8 0,.int .u8 0,.int .u8 0,.int .u8 0,.int .u8 0,.int .u8 0,.int .u8 0,.int .u8 0,.int .u8 0,.int .u8 0,.int .u8 0,.int .u8 0,.int .u8 0,.int .u8 0,.int .u8 0,.int .u8 0,.int .u8 0,.int .u8 0]
theorem Ul:EnT 119:=fun _ _=>by kernel_rfl
theorem Vc:EnT 135:=fun _ _=>by kernel_rfl
theorem ent_mac_Sum:EnT 117:=fun _ _=>by kernel_rfl
theorem rep64 (n:Nat) (h:n<=64):U8 z64=RBm [] (U8 (List.replicate n 0)) (U8 (List.replicate (64 -n) 0)):=by
 show U8 (List.replicate 64 0)=[]++U8 (List.replicate n 0)++U8 (List.replicate (64 -n) 0)
 rw[List.nil_append,<-Xz,List.replicate_append_replicate,show n+(64 -n)=64 by omega]
theorem rbm_app (ks es:List Nat):RBm [] (U8 ks) (U8 es)=U8 (ks++es):=by
 show []++U8 ks++U8 es=_
 rw[List.nil_append,Xz]
theorem cWhole_n (w:World):
 CC 119 #[(.slice none 0 0)] w (.agg (U8 (z64)).toArray):=by
 go_enter Tryz.func119,Tryz.ntmps119
 go_upto_region 1 with fail
 generalize hC:(w.alloc (.cells (Z64b:List Value).toArray 150))=v0 at *
 have HB0:Bw w v0:=by rw[<-hC];exact Z2 (Zm w) _
 have K0:Bk w.heap.size v0 [(true,w.heap.size,U8 (z64))]:=by rw[<-hC];exact(Bk.nil _ w).ad
 clear hC
 refine Rp K0 HB0 [] [(0,3,U8 (z64),none)] [] [] [] [] (oc (g_al 0 W8) on) fun u1 b1_0 HB1 _ K1=>?_
 simp only[sQ] at K1⊢
 have hl1:decide ((64:Int)<((0:Nat):Int))=false:=by simp;try omega
 go_upto_region 2 with fail
 refine Rn K1 HB1 (cG 0 6 [_,_,_] [(3,5,_)]) (oc g_mv<|oc (g_ln Tryz.underlying43)<|oc (g_bn (fun uZ=>gtr_i _ _ ((0:Nat):Int) 64 _ uZ hl1))<|oc g_as on) fun u2 HB2 _ K2=>?_
 simp only[sQ] at K2⊢
 go_upto_region 5 with fail
 refine Rn K2 HB2 (cG 0 12 [_,_,_] []) (oc (g_sl (sl64 b1_0))<|oc g_mv<|oc (g_cp0 (fun u=>cpN b1_0 64 _ u)) on) fun u3 HB3 _ K3=>?_
 simp only[sQ] at K3⊢
 go_upto_region 6 with fail
 refine Rp K3 HB3 [.all 1 (U8 (z64))] [] [(0,15,_)] [] [] [true,false] (oc (g_lR 1 0 (cs:=U8 (z64)) (fun j v h=>by rw[Nat.zero_add];exact h) Tryz.underlying150 (by rw[Z1,(show z64.length=64 from rfl)];exact Z6))<|oc (g_st 0 Z6 (h1:=Yq _) (hm:=by rw[Z1,(show z64.length=64 from rfl)]) (hl:=by first | rw[Z1,Z1,(show z64.length=64 from rfl),show z64.length=64 from rfl] | rfl)) on) fun u4 HB4 _ K4=>?_
 simp only[sQ] at K4⊢
 go_wp2
 refine bodyPost_ret (Zy Tryz.results119 rfl (K4.cv 0) Tryz.underlying150 rfl (by rw[Z1,(show z64.length=64 from rfl)];exact Z6)) rfl ⟨rfl,HB4⟩
theorem cWhole_s (n cap:Nat) (ad:Addr) (bs:List Nat) (w:World) (hn:n<=64) (hbs:bs.length=n) (hmin:Hid (n=Nat.min n 64)) (hsrc:Hid (∀u,Bw w u-> ∀j v,(U8 bs)[j]?=some v->u.cell? (ad.add j)=some v)):
 CC 119 #[(.slice (some ad) n cap)] w (.agg (U8 (bs++List.replicate (64 -n) 0)).toArray):=by
 go_enter Tryz.func119,Tryz.ntmps119
 go_upto_region 1 with fail
 generalize hC:(w.alloc (.cells (Z64b:List Value).toArray 150))=v0 at *
 have HB0:Bw w v0:=by rw[<-hC];exact Z2 (Zm w) _
 have K0:Bk w.heap.size v0 [(true,w.heap.size,U8 (z64))]:=by rw[<-hC];exact(Bk.nil _ w).ad
 clear hC
 refine Rp K0 HB0 [] [(0,3,U8 (z64),none)] [] [] [] [] (oc (g_al 0 W8) on) fun u1 b1_0 HB1 _ K1=>?_
 simp only[sQ] at K1⊢
 have hl1:decide ((64:Int)<((n:Nat):Int))=false:=by simp;try omega
 go_upto_region 2 with fail
 refine Rn K1 HB1 (cG 0 6 [_,_,_] [(3,5,_)]) (oc g_mv<|oc (g_ln Tryz.underlying43)<|oc (g_bn (fun uZ=>gtr_i _ _ ((n:Nat):Int) 64 _ uZ hl1))<|oc g_as on) fun u2 HB2 _ K2=>?_
 simp only[sQ] at K2⊢
 rw[rep64 n (by omega)] at K2
 go_upto_region 5 with fail
 refine Rp K2 HB2 [.no,.all 2 (RBm ([]) (U8 (bs)) (U8 (List.replicate (64 -n) 0)))] [] (cG 0 12 [_,_,_] []) [] [] [] (oc (g_sl (sl64 b1_0))<|oc g_mv<|oc (g_cp 1 (sl:=n) (dl:=64) [] (U8 (List.replicate n 0)) (U8 (List.replicate (64 -n) 0)) (U8 bs) Tryz.underlying43 Vl (by rw[Z1,hbs];exact hmin.out) (fun f u kZ bZ=>hsrc.out u bZ) Vh rfl (by rw[Z1,Z1,hbs,List.length_replicate]) (hv:=by rw[Z1,hbs];rfl)) on) fun u3 HB3 _ K3=>?_
 simp only[sQ] at K3⊢
 rw[<-rep64 n (by omega),rbm_app] at K3
 have hfl:(bs++List.replicate (64 -n) 0).length=64:=by rw[List.length_append,List.length_replicate,hbs]<;>try omega
 go_upto_region 6 with fail
 refine Rp K3 HB3 [.all 1 (U8 (bs++List.replicate (64 -n) 0))] [] [(0,15,_)] [] [] [true,false] (oc (g_lR 1 0 (cs:=U8 (bs++List.replicate (64 -n) 0)) (fun j v h=>by rw[Nat.zero_add];exact h) Tryz.underlying150 (by rw[Z1,hfl];exact Z6))<|oc (g_st 0 Z6 (h1:=Yq _) (hm:=by rw[Z1,hfl]) (hl:=by first | rw[Z1,Z1,hfl,show z64.length=64 from rfl] | rfl)) on) fun u4 HB4 _ K4=>?_
 simp only[sQ] at K4⊢
 go_wp2
 refine bodyPost_ret (Zy Tryz.results119 rfl (K4.cv 0) Tryz.underlying150 rfl (by rw[Z1,hfl];exact Z6)) rfl ⟨rfl,HB4⟩
theorem cWhole_b (n cap:Nat) (sl:Option Addr) (ds:List Nat) (w:World) (hn:64<n) (hds:ds.length=32) (hSu:Hid (∀(u:World),Bw w u->CC 136 #[.slice sl n cap] u (.agg (U8 (ds)).toArray))):
 CC 119 #[(.slice sl n cap)] w (.agg (U8 (ds++List.replicate (64 -32) 0)).toArray):=by
 go_enter Tryz.func119,Tryz.ntmps119
 go_upto_region 1 with fail
 generalize hC:(w.alloc (.cells (Z64b:List Value).toArray 150))=v0 at *
 have HB0:Bw w v0:=by rw[<-hC];exact Z2 (Zm w) _
 have K0:Bk w.heap.size v0 [(true,w.heap.size,U8 (z64))]:=by rw[<-hC];exact(Bk.nil _ w).ad
 clear hC
 refine Rp K0 HB0 [] [(0,3,U8 (z64),none)] [] [] [] [] (oc (g_al 0 W8) on) fun u1 b1_0 HB1 _ K1=>?_
 simp only[sQ] at K1⊢
 have hl1:decide ((64:Int)<((n:Nat):Int))=true:=by simp;omega
 go_upto_region 2 with fail
 refine Rn K1 HB1 (cG 0 6 [_,_,_] [(3,5,_)]) (oc g_mv<|oc (g_ln Tryz.underlying43)<|oc (g_bn (fun uZ=>gtr_i _ _ ((n:Nat):Int) 64 _ uZ hl1))<|oc g_as on) fun u2 HB2 _ K2=>?_
 simp only[sQ] at K2⊢
 go_upto_region 3 with fail
 refine Rp K2 HB2 [] [(2,4,U8 (z32),some (3,U8 (ds)))] [(0,9,_),(1,10,_)] [(3,2)] [] [] (oc g_mv<|oc (g_cb ent_sha_Sum hSu.out)<|oc (g_al 0 Ya)<|oc (g_sn 0 Z3 (h1:=Yq _) (hm:=by rw[Z1,hds]) (hl:=by first | rw[Z1,Z1,hds,show z32.length=32 from rfl] | rfl)) on) fun u3 b3_2 HB3 _ K3=>?_
 simp only[sQ] at K3⊢
 go_upto_region 4 with fail
 refine Rn K3 HB3 [(0,11,_),(1,0,_)] (oc (g_sl (sl32 b3_2))<|oc g_as on) fun u4 HB4 _ K4=>?_
 simp only[sQ] at K4⊢
 rw[rep64 32 (by omega)] at K4
 go_upto_region 5 with fail
 refine Rp K4 HB4 [.no,.all 2 (RBm ([]) (U8 (ds)) (U8 (List.replicate (64 -32) 0)))] [] (cG 0 12 [_,_,_] []) [] [] [true,true,false] (oc (g_sl (sl64 b1_0))<|oc g_mv<|oc (g_cp 1 (sl:=32) (dl:=64) [] (U8 (List.replicate 32 0)) (U8 (List.replicate (64 -32) 0)) (U8 ds) Tryz.underlying43 Vl (by rw[Z1,hds];exact rfl) (fun f u kZ bZ=>CV.src (kZ.cv 2)) Vh rfl (by rw[Z1,Z1,hds,List.length_replicate]) (hv:=by rw[Z1,hds];rfl)) on) fun u5 HB5 _ K5=>?_
 simp only[sQ] at K5⊢
 rw[<-rep64 32 (by omega),rbm_app] at K5
 have hfl:(ds++List.replicate (64 -32) 0).length=64:=by rw[List.length_append,List.length_replicate,hds]<;>try omega
 go_upto_region 6 with fail
 refine Rp K5 HB5 [.all 1 (U8 (ds++List.replicate (64 -32) 0))] [] [(0,15,_)] [] [] [true,false] (oc (g_lR 1 0 (cs:=U8 (ds++List.replicate (64 -32) 0)) (fun j v h=>by rw[Nat.zero_add];exact h) Tryz.underlying150 (by rw[Z1,hfl];exact Z6))<|oc (g_st 0 Z6 (h1:=Yq _) (hm:=by rw[Z1,hfl]) (hl:=by first | rw[Z1,Z1,hfl,show z64.length=64 from rfl] | rfl)) on) fun u6 HB6 _ K6=>?_
 simp only[sQ] at K6⊢
 go_wp2
 refine bodyPost_ret (Zy Tryz.results119 rfl (K6.cv 0) Tryz.underlying150 rfl (by rw[Z1,hfl];exact Z6)) rfl ⟨rfl,HB6⟩
theorem cWhole (ks:List Nat) (v:Value) (w:World) (hV:GV w) (hin:IN w w.heap.size v ks) (hsn: ∀n c,v= .slice none n c->c=0) (hx: ∀x∈ks,x<256) (hl:ks.length<=10000):
 CC 119 #[v] w (.agg (U8 (whl ks)).toArray):=by
 have hin0:=hin
 obtain⟨sl,cap,gb,go,rfl,h1,h2,h3,h4⟩:=hin
 by_cases hb:64<ks.length
 ·have h:=cWhole_b ks.length cap sl (dig ks) w hb (dig_B ks).len (fun u hB=>cSum ks _ u (hV.below hB hV.sz) ((hin0.below hB).mono hB.size) hx hl)
  unfold whl whk
  rw[if_pos hb,(dig_B ks).len]
  exact h
 ·unfold whl whk
  rw[if_neg hb]
  cases sl with
  | none=>
   have hc:=hsn _ _ rfl
   have h0:ks.length=0:=by omega
   have hx:ks=[]:=List.length_eq_zero_iff.1 h0
   subst hx hc
   exact cWhole_n w
  | some ad=>
   exact cWhole_s ks.length cap ad ks w (by omega) rfl (by show _=min _ _;omega) (fun u hB j v hj=>by
    rcases h2 with h0 | h0
    ·have:=(List.getElem?_eq_some_iff.1 hj).1;rw[Z1] at this;omega
    ·cases h0
     have hj':j<ks.length:=by have:=(List.getElem?_eq_some_iff.1 hj).1;rwa [Z1] at this
     rw[Addr.add_lit,h4.below hB h3 j hj',<-hj]
     exact(Y2 ks j hj').symm)
end Go.Proofs.YtofcppgfaelloaaGreatDoor
