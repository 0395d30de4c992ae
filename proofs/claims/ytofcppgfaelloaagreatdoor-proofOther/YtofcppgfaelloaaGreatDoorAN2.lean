import Derived.Test.YtofcppgfaelloaaGreatDoorRN2
namespace Go.Proofs.YtofcppgfaelloaaGreatDoor
set_option linter.unusedVariables false
set_option linter.unusedSimpArgs false
set_option maxRecDepth 100000
set_option maxHeartbeats 4000000
open Go.RowKit
def exPE (p q x:Int):Int:=if isB p q x then 0 else 90
def exPX (p q x e:Int):Int:=if isB p q x then x^(e%q).toNat%p else 0
theorem isB_t {p q x:Int} (h:isB p q x=true):gOk p q/\Mb p q x:=of_decide_eq_true h
theorem xexp_n (p q g h x e:Int) (w:World) (hp:In p) (hq:In q) (hg:In g) (hh:In h)(hI:Hid (∀u,CC 44 #[GX p q g h,NV x] u (.bool false))):
 CC 20 #[GX p q g h,NV x,NV e] w (.tuple #[A4 0 0 0 0,iI 90]):=by
 go_enter Tryz.func20,Tryz.ntmps20
 go_upto_region 1 with fail
 obtain⟨v0,hC,HB0,K0⟩:=bx4 w (GE (p) (q) (g) (h)) 26 (LN x) 24 (LN e) 24 L0s 24
 rw[hC]
 clear hC
 refine Rp K0 HB0 [] [] (cG 0 10 [GX (p) (q) (g) (h),NV x,.bool false,.bool true] []) [] [] [false,false,false] (oc (g_ld 0 Tryz.underlying26 Z0)<|oc (g_ld 1 uN iN)<|oc (g_cl Zh hI.out)<|oc (g_un (fun uZ=>rfl)) on) fun u1 HB1 _ K1=>?_
 simp only[sQ] at K1⊢
 go_upto_region 2 with fail
 refine Rp K1 HB1 [.all 1 ([iU (0),iU (0),iU (0),iU (0)])] [] [(0,14,A4 (0) (0) (0) (0)),(2,7,(Go.Value.int Go.IntKind.i64 90))] [] [] [] (oc (g_bd zN)<|oc (g_st 0 iN)<|oc g_as on) fun u2 HB2 _ K2=>?_
 simp only[sQ] at K2⊢
 have c6:=(K2.cv 0).n4
 go_wp2
 refine bodyPost_ret (v:= .tuple #[A4 0 0 0 0,iI 90]) (by simp[results,Tryz.results20,go_sem,c6]) rfl ⟨rfl,HB2⟩
theorem xexp_k (p q g h x e:Int) (w:World) (hp:In p) (hq:In q) (hg:In g) (hh:In h)(hx:In x) (he:In e) (hp0:p≠0) (hq0:q≠0)(hI:Hid (∀u,CC 44 #[GX p q g h,NV x] u (.bool true))):
 CC 20 #[GX p q g h,NV x,NV e] w (.tuple #[NV (x^(e%q).toNat%p),iI 0]):=by
 go_enter Tryz.func20,Tryz.ntmps20
 go_upto_region 1 with fail
 obtain⟨v0,hC,HB0,K0⟩:=bx4 w (GE (p) (q) (g) (h)) 26 (LN x) 24 (LN e) 24 L0s 24
 rw[hC]
 clear hC
 refine Rn K0 HB0 (cG 0 10 [GX (p) (q) (g) (h),NV x,.bool true,.bool false] []) (oc (g_ld 0 Tryz.underlying26 Z0)<|oc (g_ld 1 uN iN)<|oc (g_cl Zh hI.out)<|oc (g_un (fun uZ=>rfl)) on) fun u1 HB1 _ K1=>?_
 simp only[sQ] at K1⊢
 go_upto_region 3 with fail
 refine Rd K1 HB1 [] [(8,8,L0s,some (9,LN (e%q)))] (cG 0 16 [NV e,WV e,.pointer (some ⟨w.heap.size,4,none⟩),NV q,.tuple #[NV (e%q),iI 0]] [(5,15,.tuple #[NV (e%q),iI 0]),(6,21,NV (e%q)),(7,22,iI 0),(10,9,iI 0)]) [(9,8)] [] [true,true,false] (oc (g_ld 2 uN iN)<|oc (g_cl Zu (fun uZ=>nrWiden e uZ he))<|oc (g_fd (fdG1 _))<|oc (g_lo 0 4 uN iN)<|oc (g_cl Zd (fun uZ=>U1 e q uZ he.wide hq hq0))<|oc g_mv<|oc g_ex<|oc g_ex<|oc (g_al 0 aN)<|oc (g_sn 0 iN)<|oc g_as on) fun u2 b2_8 HB2 _ K2=>?_
 simp only[sQ] at K2⊢
 go_upto_region 4 with fail
 refine Rp K2 HB2 [.no,.no,.all 7 (LN (x^(e%q).toNat%p))] [] (cG 0 23 [NV x,NV (e%q),.pointer (some ⟨w.heap.size,0,none⟩),NV p,.tuple #[NV (x^(e%q).toNat%p),iI 0],NV (x^(e%q).toNat%p),iI 0] [(8,7,iI 0)]) [] [] [false,false,true,false] (oc (g_ld 1 uN iN)<|oc (g_ld 3 uN iN)<|oc (g_fd (fdG0 _))<|oc (g_lo 0 0 uN iN)<|oc (g_cl Ye (fun uZ=>xExp x (e%q) p uZ hx (Zx hq hq0) hp hp0))<|oc g_ex<|oc g_ex<|oc (g_st 2 iN)<|oc g_as on) fun u3 HB3 _ K3=>?_
 simp only[sQ] at K3⊢
 have c6:=(K3.cv 0).n4
 go_wp2
 refine bodyPost_ret (v:= .tuple #[NV (x^(e%q).toNat%p),iI 0]) (by simp[results,Tryz.results20,go_sem,c6]) rfl ⟨rfl,HB3⟩
theorem xExpG (p q g h x e:Int) (w:World) (hp:In p) (hq:In q) (hg:In g) (hh:In h) (hx:In x) (he:In e):
 CC 20 #[GX p q g h,NV x,NV e] w (.tuple #[NV (exPX p q x e),iI (exPE p q x)]):=by
 have hI:Hid (∀u,CC 44 #[GX p q g h,NV x] u (.bool (isB p q x))):=fun u=>xIs p q g h x u hp hq hx
 unfold exPX exPE
 cases hb:isB p q x with
 | false=>rw[hb] at hI;rw[if_neg (by decide),if_neg (by decide),NV_0];exact xexp_n p q g h x e w hp hq hg hh hI
 | true=>
  rw[hb] at hI
  have h3:=(isB_t hb).1.q3
  have h7:=(isB_t hb).1.2
  rw[if_pos rfl,if_pos rfl];exact xexp_k p q g h x e w hp hq hg hh hx he (by omega) (by omega) hI
theorem xcom_g (p q g h s t:Int) (w:World) (hp:In p) (hq:In q) (hg:In g) (hh:In h)(hI:Hid (∀u,CC 44 #[GX p q g h,NV g] u (.bool false))):
 CC 21 #[GX p q g h,NV s,NV t] w (.tuple #[A4 0 0 0 0,iI 90]):=by
 go_enter Tryz.func21,Tryz.ntmps21
 go_upto_region 1 with fail
 obtain⟨v0,hC,HB0,K0⟩:=bx4 w (GE (p) (q) (g) (h)) 26 (LN s) 24 (LN t) 24 L0s 24
 rw[hC]
 clear hC
 refine Rp K0 HB0 [] [] (cG 0 8 [GX (p) (q) (g) (h),.pointer (some ⟨w.heap.size,8,none⟩),NV g,.bool false,.bool true,.bool true,undef,undef,undef,undef,undef,(Go.Value.bool Bool.true)] []) [] [] [false,false,false] (oc (g_ld 0 Tryz.underlying26 Z0)<|oc (g_fd (fdG2 _))<|oc (g_lo 0 8 uN iN)<|oc (g_cl Zh hI.out)<|oc (g_un (fun uZ=>rfl))<|oc g_mv<|oc g_sk<|oc g_sk<|oc g_sk<|oc g_sk<|oc g_sk<|oc g_pk on) fun u1 HB1 _ K1=>?_
 simp only[sQ] at K1⊢
 go_upto_region 2 with fail
 refine Rp K1 HB1 [.all 1 ([iU (0),iU (0),iU (0),iU (0)])] [] [(0,20,A4 (0) (0) (0) (0)),(2,7,(Go.Value.int Go.IntKind.i64 90))] [] [] [] (oc (g_bd zN)<|oc (g_st 0 iN)<|oc g_as on) fun u2 HB2 _ K2=>?_
 simp only[sQ] at K2⊢
 have c6:=(K2.cv 0).n4
 go_wp2
 refine bodyPost_ret (v:= .tuple #[A4 0 0 0 0,iI 90]) (by simp[results,Tryz.results21,go_sem,c6]) rfl ⟨rfl,HB2⟩
theorem xcom_h (p q g h s t:Int) (w:World) (hp:In p) (hq:In q) (hg:In g) (hh:In h)(hI:Hid (∀u,CC 44 #[GX p q g h,NV g] u (.bool true)))(hJ:Hid (∀u,CC 44 #[GX p q g h,NV h] u (.bool false))):
 CC 21 #[GX p q g h,NV s,NV t] w (.tuple #[A4 0 0 0 0,iI 90]):=by
 go_enter Tryz.func21,Tryz.ntmps21
 go_upto_region 1 with fail
 obtain⟨v0,hC,HB0,K0⟩:=bx4 w (GE (p) (q) (g) (h)) 26 (LN s) 24 (LN t) 24 L0s 24
 rw[hC]
 clear hC
 refine Rp K0 HB0 [] [] (cG 0 8 [GX (p) (q) (g) (h),.pointer (some ⟨w.heap.size,8,none⟩),NV g,.bool true,.bool false,.bool false,GX (p) (q) (g) (h),.pointer (some ⟨w.heap.size,12,none⟩),NV h,.bool false,.bool true,.bool true] []) [] [] [false,false,false] (oc (g_ld 0 Tryz.underlying26 Z0)<|oc (g_fd (fdG2 _))<|oc (g_lo 0 8 uN iN)<|oc (g_cl Zh hI.out)<|oc (g_un (fun uZ=>rfl))<|oc g_mv<|oc (g_ld 0 Tryz.underlying26 Z0)<|oc (g_fd (fdG3 _))<|oc (g_lo 0 12 uN iN)<|oc (g_cl Zh hJ.out)<|oc (g_un (fun uZ=>rfl))<|oc g_pk on) fun u1 HB1 _ K1=>?_
 simp only[sQ] at K1⊢
 go_upto_region 2 with fail
 refine Rp K1 HB1 [.all 1 ([iU (0),iU (0),iU (0),iU (0)])] [] [(0,20,A4 (0) (0) (0) (0)),(2,7,(Go.Value.int Go.IntKind.i64 90))] [] [] [] (oc (g_bd zN)<|oc (g_st 0 iN)<|oc g_as on) fun u2 HB2 _ K2=>?_
 simp only[sQ] at K2⊢
 have c6:=(K2.cv 0).n4
 go_wp2
 refine bodyPost_ret (v:= .tuple #[A4 0 0 0 0,iI 90]) (by simp[results,Tryz.results21,go_sem,c6]) rfl ⟨rfl,HB2⟩
theorem xcom_k (p q g h s t c:Int) (w:World) (hp:In p) (hq:In q) (hg:In g) (hh:In h)(hI:Hid (∀u,CC 44 #[GX p q g h,NV g] u (.bool true)))(hJ:Hid (∀u,CC 44 #[GX p q g h,NV h] u (.bool true)))(hP:Hid (∀u,CC 31 #[GX p q g h,NV s,NV t] u (NV c))):
 CC 21 #[GX p q g h,NV s,NV t] w (.tuple #[NV c,iI 0]):=by
 go_enter Tryz.func21,Tryz.ntmps21
 go_upto_region 1 with fail
 obtain⟨v0,hC,HB0,K0⟩:=bx4 w (GE (p) (q) (g) (h)) 26 (LN s) 24 (LN t) 24 L0s 24
 rw[hC]
 clear hC
 refine Rn K0 HB0 (cG 0 8 [GX (p) (q) (g) (h),.pointer (some ⟨w.heap.size,8,none⟩),NV g,.bool true,.bool false,.bool false,GX (p) (q) (g) (h),.pointer (some ⟨w.heap.size,12,none⟩),NV h,.bool true,.bool false,.bool false] []) (oc (g_ld 0 Tryz.underlying26 Z0)<|oc (g_fd (fdG2 _))<|oc (g_lo 0 8 uN iN)<|oc (g_cl Zh hI.out)<|oc (g_un (fun uZ=>rfl))<|oc g_mv<|oc (g_ld 0 Tryz.underlying26 Z0)<|oc (g_fd (fdG3 _))<|oc (g_lo 0 12 uN iN)<|oc (g_cl Zh hJ.out)<|oc (g_un (fun uZ=>rfl))<|oc g_pk on) fun u1 HB1 _ K1=>?_
 simp only[sQ] at K1⊢
 go_upto_region 3 with fail
 refine Rp K1 HB1 [.no,.no,.no,.all 4 (LN c)] [] (cG 0 21 [GX (p) (q) (g) (h),NV s,NV t,NV c] [(5,7,(Go.Value.int Go.IntKind.i64 0))]) [] [] [false,false,false] (oc (g_ld 0 Tryz.underlying26 Z0)<|oc (g_ld 1 uN iN)<|oc (g_ld 2 uN iN)<|oc (g_cl Wv hP.out)<|oc (g_st 3 iN)<|oc g_as on) fun u2 HB2 _ K2=>?_
 simp only[sQ] at K2⊢
 have c6:=(K2.cv 0).n4
 go_wp2
 refine bodyPost_ret (v:= .tuple #[NV c,iI 0]) (by simp[results,Tryz.results21,go_sem,c6]) rfl ⟨rfl,HB2⟩
def coE (p q g h:Int):Int:=if isB p q g&&isB p q h then 0 else 90
def coX (p q g h s t:Int):Int:=if isB p q g&&isB p q h then g^(s%q).toNat%p*(h^(t%q).toNat%p)%p else 0
theorem xCommit (p q g h s t:Int) (w:World) (hp:In p) (hq:In q) (hg:In g) (hh:In h) (hs:In s) (ht:In t):
 CC 21 #[GX p q g h,NV s,NV t] w (.tuple #[NV (coX p q g h s t),iI (coE p q g h)]):=by
 have hI:Hid (∀u,CC 44 #[GX p q g h,NV g] u (.bool (isB p q g))):=fun u=>xIs p q g h g u hp hq hg
 have hJ:Hid (∀u,CC 44 #[GX p q g h,NV h] u (.bool (isB p q h))):=fun u=>xIs p q g h h u hp hq hh
 unfold coX coE
 cases hb:isB p q g with
 | false=>rw[hb] at hI;simp only[Bool.false_and];rw[if_neg (by decide),if_neg (by decide),NV_0];exact xcom_g p q g h s t w hp hq hg hh hI
 | true=>
  rw[hb] at hI
  have h3:=(isB_t hb).1.q3
  have h7:=(isB_t hb).1.2
  cases hb2:isB p q h with
  | false=>rw[hb2] at hJ;simp only[Bool.and_false];rw[if_neg (by decide),if_neg (by decide),NV_0];exact xcom_h p q g h s t w hp hq hg hh hI hJ
  | true=>rw[hb2] at hJ;rw[show (true&&true)=true from rfl,if_pos rfl,if_pos rfl];exact xcom_k p q g h s t _ w hp hq hg hh hI hJ (fun u=>xPair p q g h s t u hp hq hg hh hs ht (by omega) (by omega))
theorem cDerive_core (kv sv:Value) (s:ByteArray) (x er:Int) (ds ys:List Nat) (w:World) (hds:ds.length=32) (hEx:Hid (∀(u:World),Bw w u->CC 100 #[sv,kv] u (.agg (U8 (ds)).toArray)))
 (hEp:Hid (∀(u:World) (b:Nat),Bw w u->CV u b (U8 (ds))->b<u.heap.size->Calls Tryz.prog 101 #[.slice (some ⟨b,0,none⟩) 32 32,.string s,iI x] u fun e u'=> ∃v,e= .returned v/\PTX er ys u' v/\Bw u u')):
 Calls Tryz.prog 80 #[kv,sv,.string s,iI x] w fun e w'=> ∃v,e= .returned v/\PTX er ys w' v/\Bw w w':=by
 have hst:=sc32 ds hds
 have hU:(U8 ds).length=32:=by rw[Z1];exact hds
 go_enter Tryz.func80,Tryz.ntmps80
 go_upto_region 2 with(go_at_call 100;refine(hEx.out _ (Below.refl _ _)).mono ?_;rintro e u1 ⟨rfl,hB1⟩)
 have hBA:Bw w u1:=hB1
 have K0:=bk32 ds hds w.heap.size u1 hBA.size
 have HB0:Bw w ((u1.alloc (.cells #[.int .u8 0,.int .u8 0,.int .u8 0,.int .u8 0,.int .u8 0,.int .u8 0,.int .u8 0,.int .u8 0,.int .u8 0,.int .u8 0,.int .u8 0,.int .u8 0,.int .u8 0,.int .u8 0,.int .u8 0,.int .u8 0,.int .u8 0,.int .u8 0,.int .u8 0,.int .u8 0,.int .u8 0,.int .u8 0,.int .u8 0,.int .u8 0,.int .u8 0,.int .u8 0,.int .u8 0,.int .u8 0,.int .u8 0,.int .u8 0,.int .u8 0,.int .u8 0] 110)).setCells u1.heap.size 0 (U8 ds)):=Zo hBA.size (U8 ds) 0 _ (Z2 hBA _)
 generalize hC:((u1.alloc (.cells #[.int .u8 0,.int .u8 0,.int .u8 0,.int .u8 0,.int .u8 0,.int .u8 0,.int .u8 0,.int .u8 0,.int .u8 0,.int .u8 0,.int .u8 0,.int .u8 0,.int .u8 0,.int .u8 0,.int .u8 0,.int .u8 0,.int .u8 0,.int .u8 0,.int .u8 0,.int .u8 0,.int .u8 0,.int .u8 0,.int .u8 0,.int .u8 0,.int .u8 0,.int .u8 0,.int .u8 0,.int .u8 0,.int .u8 0,.int .u8 0,.int .u8 0,.int .u8 0] 110)).setCells u1.heap.size 0 (U8 ds))=v0 at *
 have hc0:=K0.cv 0
 have hl0:=K0.lt 0
 clear hst hU hC K0
 go_wp2_with (go_at_call 101;refine(hEp.out _ u1.heap.size HB0 hc0 hl0).mono ?_;rintro e u2 ⟨v,rfl,⟨y,rfl,hy⟩,hB2⟩)
 exact bodyPost_ret (v:= .tuple #[y,iI er]) (by simp[results,Tryz.results80,go_sem]) rfl ⟨_,rfl,⟨y,rfl,hy⟩,Yu HB0 hB2⟩
theorem cDeriveR_core (kv sv:Value) (s:ByteArray) (x er:Int) (ds ys:List Nat) (w:World) (hds:ds.length=32) (hEx:Hid (∀(u:World),Bw w u->CC 84 #[sv,kv] u (.agg (U8 (ds)).toArray)))
 (hEp:Hid (∀(u:World) (b:Nat),Bw w u->CV u b (U8 (ds))->b<u.heap.size->Calls Tryz.prog 85 #[.slice (some ⟨b,0,none⟩) 32 32,.string s,iI x] u fun e u'=> ∃v,e= .returned v/\PTX er ys u' v/\Bw u u')):
 Calls Tryz.prog 63 #[kv,sv,.string s,iI x] w fun e w'=> ∃v,e= .returned v/\PTX er ys w' v/\Bw w w':=by
 have hst:=sc32 ds hds
 have hU:(U8 ds).length=32:=by rw[Z1];exact hds
 go_enter Tryz.func63,Tryz.ntmps63
 go_upto_region 2 with(go_at_call 84;refine(hEx.out _ (Below.refl _ _)).mono ?_;rintro e u1 ⟨rfl,hB1⟩)
 have hBA:Bw w u1:=hB1
 have K0:=bk32 ds hds w.heap.size u1 hBA.size
 have HB0:Bw w ((u1.alloc (.cells #[.int .u8 0,.int .u8 0,.int .u8 0,.int .u8 0,.int .u8 0,.int .u8 0,.int .u8 0,.int .u8 0,.int .u8 0,.int .u8 0,.int .u8 0,.int .u8 0,.int .u8 0,.int .u8 0,.int .u8 0,.int .u8 0,.int .u8 0,.int .u8 0,.int .u8 0,.int .u8 0,.int .u8 0,.int .u8 0,.int .u8 0,.int .u8 0,.int .u8 0,.int .u8 0,.int .u8 0,.int .u8 0,.int .u8 0,.int .u8 0,.int .u8 0,.int .u8 0] 110)).setCells u1.heap.size 0 (U8 ds)):=Zo hBA.size (U8 ds) 0 _ (Z2 hBA _)
 generalize hC:((u1.alloc (.cells #[.int .u8 0,.int .u8 0,.int .u8 0,.int .u8 0,.int .u8 0,.int .u8 0,.int .u8 0,.int .u8 0,.int .u8 0,.int .u8 0,.int .u8 0,.int .u8 0,.int .u8 0,.int .u8 0,.int .u8 0,.int .u8 0,.int .u8 0,.int .u8 0,.int .u8 0,.int .u8 0,.int .u8 0,.int .u8 0,.int .u8 0,.int .u8 0,.int .u8 0,.int .u8 0,.int .u8 0,.int .u8 0,.int .u8 0,.int .u8 0,.int .u8 0,.int .u8 0] 110)).setCells u1.heap.size 0 (U8 ds))=v0 at *
 have hc0:=K0.cv 0
 have hl0:=K0.lt 0
 clear hst hU hC K0
 go_wp2_with (go_at_call 85;refine(hEp.out _ u1.heap.size HB0 hc0 hl0).mono ?_;rintro e u2 ⟨v,rfl,⟨y,rfl,hy⟩,hB2⟩)
 exact bodyPost_ret (v:= .tuple #[y,iI er]) (by simp[results,Tryz.results63,go_sem]) rfl ⟨_,rfl,⟨y,rfl,hy⟩,Yu HB0 hB2⟩
theorem cDerive (ks ss:List Nat) (v sv:Value) (s:ByteArray) (x:Int) (w:World) (hV:GV w) (hin:IN w w.heap.size v ks) (hin2:IN w w.heap.size sv ss) (hsn: ∀n c,sv= .slice none n c->c=0) (hk: ∀x∈ks,x<256) (hss: ∀x∈ss,x<256) (hkl:ks.length<=1000) (hsl:ss.length<=1000) (hs:s.size<=1000):
 Calls Tryz.prog 80 #[v,sv,.string s,iI x] w fun e w'=> ∃v,e= .returned v/\PTX (exE x) (exY (mac ss ks) (txt s) x) w' v/\Bw w w':=by
 have hm:=mac_B ss ks
 have hE: ∀u,Bw w u->_:=fun u hB=>cExtract ss ks sv v u (hV.below hB hV.sz) ((hin2.below hB).mono hB.size) hsn ((hin.below hB).mono hB.size) hss hk hsl hkl
 obtain⟨ds,eds⟩: ∃ds,mac ss ks=ds:=⟨_,rfl⟩
 rw[eds] at hm hE⊢
 exact cDerive_core v sv s x (exE x) ds (exY ds (txt s) x) w hm.len hE (fun u b hB hc hb=>cExpandX ds _ s x u (hV.below hB hV.sz) (CV_in hm.len hc hb) (fun n c e=>by cases e) hm.mem (by rw[hm.len];omega) hs)
theorem cDeriveR (ks ss:List Nat) (v sv:Value) (s:ByteArray) (x:Int) (w:World) (hz:0<w.heap.size) (hin:IN w w.heap.size v ks) (hin2:IN w w.heap.size sv ss) (hk: ∀x∈ks,x<256) (hss: ∀x∈ss,x<256) (hkl:ks.length<=1000) (hsl:ss.length<=1000) (hs:s.size<=1000):
 Calls Tryz.prog 63 #[v,sv,.string s,iI x] w fun e w'=> ∃v,e= .returned v/\PTX (exE x) (exY (mac ss ks) (txt s) x) w' v/\Bw w w':=by
 have hm:=mac_B ss ks
 have hE: ∀u,Bw w u->_:=fun u hB=>cExtractR ss ks sv v u ((hin2.below hB).mono hB.size) ((hin.below hB).mono hB.size) hss hk hsl (by omega)
 obtain⟨ds,eds⟩: ∃ds,mac ss ks=ds:=⟨_,rfl⟩
 rw[eds] at hm hE⊢
 exact cDeriveR_core v sv s x (exE x) ds (exY ds (txt s) x) w hm.len hE (fun u b hB hc hb=>cExpandRX ds _ s x u (by have:=hB.size;omega) (CV_in hm.len hc hb) hm.mem (by rw[hm.len];omega) hs)
theorem nu_from: ∀(b:List Nat) (n:Nat),b.foldl (fun n b=>256*n+b) n=n*256^b.length+num8 b
 | [],n=>by simp[num8]
 | x::b,n=>by
  have e1:num8 (x::b)=(256*0+x)*256^b.length+num8 b:=nu_from b (256*0+x)
  rw[List.foldl_cons,nu_from b,e1,List.length_cons,Nat.pow_succ];grind
theorem nu_app (a b:List Nat):num8 (a++b)=num8 a*256^b.length+num8 b:=by
 have h:=nu_from b (num8 a)
 unfold num8 at h⊢
 rw[List.foldl_append];exact h
theorem nu_step {bs:List Nat} {i:Nat} (h:i<bs.length):num8 (bs.take (i+1))=256*num8 (bs.take i)+bs.getD i 0:=by
 have e:bs.getD i 0=bs[i]:=by rw[List.getD_eq_getElem?_getD,List.getElem?_eq_getElem h];rfl
 rw[List.take_succ_eq_append_getElem h,nu_app,e]
 simp[num8];omega
theorem nu_lt {bs:List Nat} (hx: ∀i,bs.getD i 0<256): ∀i,num8 (bs.take i)<256^i
 | 0=>by simp[num8]
 | i+1=>by
  have h1:=nu_lt hx i
  have h2:=hx i
  have h3:256^(i+1)=256*256^i:=by rw[Nat.pow_succ,Nat.mul_comm]
  by_cases h:i<bs.length
  ·rw[nu_step h];omega
  ·rw[List.take_of_length_le (by omega)] at h1⊢;omega
def cntL (i c:Nat):Nat:=min 8 (i -8*(7 -c))
def lmb (d:List Nat) (i c:Nat):Nat:=num8 ((d.drop (8*(7 -c))).take (cntL i c))*256^(8 -cntL i c)
def lmbs (d:List Nat) (i:Nat):List Nat:=(List.range 8).map (lmb d i)
theorem Ud (d:List Nat) (i:Nat):(lmbs d i).length=8:=by simp[lmbs]
theorem lmbs_get (d:List Nat) (i c:Nat) (h:c<8):(lmbs d i).getD c 0=lmb d i c:=by
 unfold lmbs
 rw[List.getD_eq_getElem?_getD,List.getElem?_map,List.getElem?_range h];rfl
theorem cnt_here {i:Nat} (h:i<64):cntL i (7 -i/8)=i%8/\cntL (i+1) (7 -i/8)=i%8+1:=by unfold cntL;omega
theorem cnt_else {i c:Nat} (h:i<64) (hc:c<8) (hn:c≠7 -i/8):cntL (i+1) c=cntL i c:=by unfold cntL;omega
theorem dr_getD (d:List Nat) (a j:Nat):(d.drop a).getD j 0=d.getD (a+j) 0:=by simp[List.getD_eq_getElem?_getD,List.getElem?_drop]
theorem lmb_here {d:List Nat} {i:Nat} (hd:d.length=64) (h:i<64):lmb d (i+1) (7 -i/8)=lmb d i (7 -i/8)+d.getD i 0*256^((63 -i)%8):=by
 obtain⟨e1,e2⟩:=cnt_here h
 unfold lmb
 rw[e1,e2]
 have hl:i%8<(d.drop (8*(7 -(7 -i/8)))).length:=by rw[List.length_drop];omega
 rw[nu_step hl,dr_getD,show 8*(7 -(7 -i/8))+i%8=i by omega,show 8 -i%8=(8 -(i%8+1))+1 by omega,show (63 -i)%8=8 -(i%8+1) by omega,Nat.pow_succ]
 grind
theorem lmbs_step {d:List Nat} {i:Nat} (hd:d.length=64) (h:i<64):lmbs d (i+1)=(lmbs d i).set (7 -i/8) (lmb d i (7 -i/8)+d.getD i 0*256^((63 -i)%8)):=by
 refine List.ext_getElem (by rw[List.length_set,Ud,Ud]) fun c h1 h2=>?_
 rw[Ud] at h1
 rw[List.getElem_set]
 have g: ∀k (hk:c<(lmbs d k).length),(lmbs d k)[c]=lmb d k c:=fun k hk=>by
  have:=lmbs_get d k c h1
  rwa [List.getD_eq_getElem?_getD,List.getElem?_eq_getElem hk] at this
 rw[g]
 split
 ·rename_i e;rw[<-e];exact lmb_here hd h
 ·rename_i e
  rw[g];unfold lmb;rw[cnt_else h h1 (fun x=>e x.symm)]
theorem lmb_lt {d:List Nat} (hx: ∀i,d.getD i 0<256) (i c:Nat):lmb d i c<18446744073709551616:=by
 unfold lmb
 have h:=nu_lt (bs:=d.drop (8*(7 -c))) (fun j=>by rw[dr_getD];exact hx _) (cntL i c)
 have hc:cntL i c<=8:=by unfold cntL;omega
 have e:256^cntL i c*256^(8 -cntL i c)=18446744073709551616:=by rw[<-Nat.pow_add,show cntL i c+(8 -cntL i c)=8 by omega]
 have:=Nat.mul_lt_mul_of_pos_right h (show 0<256^(8 -cntL i c) from Nat.pow_pos (by decide))
 omega
theorem lmb_0 (d:List Nat) (c:Nat):lmb d 0 c=0:=by
 have e:cntL 0 c=0:=by unfold cntL;omega
 unfold lmb;rw[e,List.take_zero,show num8 []=0 from rfl,Nat.zero_mul]
theorem lmbs_0 (d:List Nat):lmbs d 0=[0,0,0,0,0,0,0,0]:=by
 have e:lmb d 0=fun _=>0:=funext (lmb_0 d)
 unfold lmbs;rw[e];rfl
theorem Th (d:List Nat) (c:Nat) (h:c<8):lmb d 64 c=num8 ((d.drop (8*(7 -c))).take 8):=by
 have e:cntL 64 c=8:=by unfold cntL;omega
 unfold lmb;rw[e];simp
theorem Tf {d:List Nat} {a:Nat} (h:8+a<=d.length):num8 (d.drop a)=num8 ((d.drop a).take 8)*256^(d.length -a -8)+num8 (d.drop (a+8)):=by
 have:=nu_app ((d.drop a).take 8) ((d.drop a).drop 8)
 rw[List.take_append_drop,List.drop_drop,List.length_drop] at this
 rw[this];try congr 3
theorem lmb_sum {d:List Nat} (hd:d.length=64):(num8 d:Int)=V (lmb d 64 0) (lmb d 64 1) (lmb d 64 2) (lmb d 64 3)+V (lmb d 64 4) (lmb d 64 5) (lmb d 64 6) (lmb d 64 7)*0x10000000000000000000000000000000000000000000000000000000000000000:=by
 have h0:=Tf (d:=d) (a:=0) (by omega)
 have h1:=Tf (d:=d) (a:=8) (by omega)
 have h2:=Tf (d:=d) (a:=16) (by omega)
 have h3:=Tf (d:=d) (a:=24) (by omega)
 have h4:=Tf (d:=d) (a:=32) (by omega)
 have h5:=Tf (d:=d) (a:=40) (by omega)
 have h6:=Tf (d:=d) (a:=48) (by omega)
 have h7:=Tf (d:=d) (a:=56) (by omega)
 rw[hd] at h0 h1 h2 h3 h4 h5 h6 h7
 rw[show d.drop (56+8)=[] from List.drop_eq_nil_of_le (by omega)] at h7
 simp only[List.drop_zero] at h0
 rw[Th d 0 (by omega),Th d 1 (by omega),Th d 2 (by omega),Th d 3 (by omega),Th d 4 (by omega),Th d 5 (by omega),Th d 6 (by omega),Th d 7 (by omega)]
 simp only[Nat.reduceSub,Nat.reduceMul,Nat.reducePow,Nat.reduceAdd,List.drop_zero] at *
 have e0:num8 []=0:=rfl
 unfold V
 omega
theorem U64_setG (l:List Nat) (c z:Nat):U64 (l.set c z)=(U64 l).set c (iU (z:Int)):=by unfold U64;rw[List.map_set]
theorem xDigest_core (vb:Value) (s:ByteArray) (d:List Nat) (m r:Int) (L:Nat->List Nat) (x:Nat->Nat) (w:World) (hm:In m) (hd:d.length=64) (hdx:Hid (∀i,d.getD i 0<256))
 (hL0:Hid (L 0=[0,0,0,0,0,0,0,0])) (hLl:Hid (∀i,(L i).length=8)) (hLs:Hid (∀i,i<64->L (i+1)=(L i).set (7 -i/8) ((L i).getD (7 -i/8) 0+d.getD i 0*256^((63 -i)%8)))) (hLt:Hid (∀i c,(L i).getD c 0<18446744073709551616))
 (hD:Hid (∀u,Bw w u->Calls Tryz.prog 63 #[vb,.slice none 0 0,.string s,iI 64] u fun e u'=> ∃v,e= .returned v/\PTX 0 d u' v/\Bw u u'))
 (hR:Hid (∀u,CC 45 #[A8 (((L 64).getD 0 0:Nat):Int) (((L 64).getD 1 0:Nat):Int) (((L 64).getD 2 0:Nat):Int) (((L 64).getD 3 0:Nat):Int) (((L 64).getD 4 0:Nat):Int) (((L 64).getD 5 0:Nat):Int) (((L 64).getD 6 0:Nat):Int) (((L 64).getD 7 0:Nat):Int),NV m] u (.tuple #[NV r,iI 0]))):
 CC 42 #[vb,.string s,NV m] w (NV r):=by
 obtain⟨w0,ew0⟩: ∃x,(w.alloc (.cells (LN m).toArray 24)).alloc (.cells #[iU 0,iU 0,iU 0,iU 0] 24)=x:=⟨_,rfl⟩
 have hB0:Bw w w0:=by rw[<-ew0];exact Z2 (Z2 (Zm w) _) _
 have hDw:=hD.out w0 hB0
 go_enter Tryz.func42,Tryz.ntmps42
 go_wp2_with (first | (go_at_call 63;refine hDw.mono ?_;clear hDw;rintro e ua ⟨y,rfl,⟨yd,rfl,hyd⟩,hBa⟩;obtain⟨sd,cd,gb,go,rfl,q1,q2,q3,q4⟩:=hyd) | fail)
 have hBwa:Bw w ua:=Yu hB0 hBa
 have hsa:=hBa.size
 have hs0:w0.heap.size=w.heap.size+2:=by rw[<-ew0];simp
 have hm0:ua.cell? ⟨w.heap.size,0,none⟩=some (iU (D0 m)):=(hBa.cell (p:=⟨w.heap.size,0,none⟩) (by simp[hs0])).trans (by rw[<-ew0];simp)
 have hm1:ua.cell? ⟨w.heap.size,1,none⟩=some (iU (D1 m)):=(hBa.cell (p:=⟨w.heap.size,1,none⟩) (by simp[hs0])).trans (by rw[<-ew0];simp)
 have hm2:ua.cell? ⟨w.heap.size,2,none⟩=some (iU (D2 m)):=(hBa.cell (p:=⟨w.heap.size,2,none⟩) (by simp[hs0])).trans (by rw[<-ew0];simp)
 have hm3:ua.cell? ⟨w.heap.size,3,none⟩=some (iU (D3 m)):=(hBa.cell (p:=⟨w.heap.size,3,none⟩) (by simp[hs0])).trans (by rw[<-ew0];simp)
 have hbr:CV ua (w.heap.size+1) [iU 0,iU 0,iU 0,iU 0]:=by
  have h1:CV w0 (w.heap.size+1) [iU 0,iU 0,iU 0,iU 0]:=by
   rw[<-ew0]
   have:=CV.new (w.alloc (.cells (LN m).toArray 24)) [iU 0,iU 0,iU 0,iU 0] 24
   simpa using this
  exact h1.below hBa (by omega)
 replace hm0:Hid _:=hm0
 replace hm1:Hid _:=hm1
 replace hm2:Hid _:=hm2
 replace hm3:Hid _:=hm3
 replace hbr:Hid (CV ua (w.heap.size+1) [iU 0,iU 0,iU 0,iU 0]):=hbr
 replace q4:Hid (SB ua gb go d):=q4
 replace hs0:Hid _:=hs0
 clear hB0 ew0 hBa
 obtain rfl:sd=some ⟨gb,go,none⟩:=q2.resolve_left (by omega)
 try rw[hd]
 go_loopw [10] (fun s10 wr=> ∃i:Nat,i<=64/\s10=iI (i:Int)/\Hid (CV wr ua.heap.size (U64 (L i)))/\ua.heap.size<wr.heap.size/\Bw ua wr) (fun s10 _=>64 -(intOf s10).toNat)
 case atStart=>exact⟨0,by omega,rfl,(by rw[hL0.out];exact CV.new _ _ _),by simp,Z2 (Zm ua) _⟩
 case round=>
  obtain⟨i,hi,rfl,Kv,hlt,HBr⟩:=hrel
  by_cases hj:i<64
  ·have hl2:(i:Int)<64:=by omega
   have hc0:wr.cell? ⟨gb,go+i,none⟩=some (.int .u8 ((d.getD i 0:Nat):Int)):=(HBr.cell (p:=⟨gb,go+i,none⟩) q3).trans (q4.out i (by omega))
   have hy:=hdx.out i
   have hs:=hLs.out i hj
   have hlen:=hLl.out i
   obtain⟨pl,epl⟩: ∃x,63 -i=x:=⟨_,rfl⟩
   obtain⟨c,ec⟩: ∃x,7 -i/8=x:=⟨_,rfl⟩
   have hcp:c=pl/8:=by omega
   have hc8:c<8:=by omega
   have hb1:=hLt.out (i+1) c
   rw[epl,ec] at hs
   rw[hs] at hb1
   have hb2:((L i).set c ((L i).getD c 0+d.getD i 0*256^(pl%8))).getD c 0=(L i).getD c 0+d.getD i 0*256^(pl%8):=by
    rw[List.getD_eq_getElem?_getD,List.getElem?_set_self (by omega)];rfl
   rw[hb2] at hb1
   have hcel:=(Kv.out c _ (Zp (L i) c (by omega))).1
   have hfr:=(Kv.out c _ (Zp (L i) c (by omega))).2
   obtain⟨y,ey⟩: ∃x,d.getD i 0=x:=⟨_,rfl⟩
   obtain⟨a,ea⟩: ∃x,(L i).getD c 0=x:=⟨_,rfl⟩
   rw[ey] at hc0 hy hs hb1
   rw[ea] at hs hb1 hcel
   obtain⟨rm,erm⟩: ∃x,pl%8=x:=⟨_,rfl⟩
   rw[erm] at hs hb1
   have hrm:rm<=7:=by omega
   obtain⟨z,ez⟩: ∃x,y*256^rm=x:=⟨_,rfl⟩
   rw[ez] at hs hb1
   have hK2:Hid (CV (wr.setCell ⟨ua.heap.size,c,none⟩ (iU ((a+z:Nat):Int))) ua.heap.size (U64 (L (i+1)))):=by
    rw[hs,U64_setG];exact Kv.out.setC c (by rw[Y4];omega) _
   have w1:IntKind.i64.wrap (63 -(i:Int))=(pl:Int):=by rw[IntKind.wrap_i64];omega
   have w2:IntKind.u64.wrap (y:Int)=(y:Int):=by rw[IntKind.wrap_u64];omega
   have w3:IntKind.u64.wrap ((a:Int)+(z:Int))=((a+z:Nat):Int):=by rw[IntKind.wrap_u64];omega
   have w4:IntKind.i64.wrap ((i:Int)+1)=((i+1:Nat):Int):=by rw[IntKind.wrap_i64];omega
   have r1:Int.tmod (pl:Int) 8=(rm:Int):=by rw[<-erm];rfl
   have r2:Int.tdiv (pl:Int) 8=(c:Int):=by rw[hcp];rfl
   have w5:IntKind.i64.wrap (rm:Int)=(rm:Int):=by rw[IntKind.wrap_i64];omega
   have w6:IntKind.i64.wrap (c:Int)=(c:Int):=by rw[IntKind.wrap_i64];omega
   have hcz:(c:Int)<8:=by omega
   clear ec epl ey ea erm hs hb2 hcp
   go_wp2_with fail
   obtain⟨wo,rfl⟩: ∃x,x=wr:=⟨_,rfl⟩
   go_loopw [13,12] (fun s13 s12 wx=> ∃k:Nat,k<=rm/\s13=iI (k:Int)/\s12=iU ((y*256^k:Nat):Int)/\wx=wo) (fun s13 _ _=>rm -(intOf s13).toNat)
   case atStart=>exact⟨0,by omega,rfl,by simp,rfl⟩
   case round=>
    obtain⟨k,hk,rfl,rfl,hw⟩:=hrel
    have hw:=hw.symm
    subst hw
    by_cases hj2:k<rm
    ·have hl3:(k:Int)<(rm:Int):=by omega
     have hp:256^(k+1)<=256^7:=Nat.pow_le_pow_right (by decide) (by omega)
     have hb3:y*256^(k+1)<18446744073709551616:=by
      have:y*256^(k+1)<=255*256^7:=Nat.mul_le_mul (by omega) hp
      omega
     have e4:y*256^(k+1)=y*256^k*256:=by rw[Nat.pow_succ,Nat.mul_assoc]
     obtain⟨g,eg⟩: ∃x,y*256^k=x:=⟨_,rfl⟩
     rw[eg] at e4
     rw[eg]
     have w7:IntKind.u64.wrap ((g:Int)*256)=((y*256^(k+1):Nat):Int):=by rw[IntKind.wrap_u64,e4];omega
     have w8:IntKind.i64.wrap ((k:Int)+1)=((k+1:Nat):Int):=by rw[IntKind.wrap_i64];omega
     obtain⟨g2,eg2⟩: ∃x,y*256^(k+1)=x:=⟨_,rfl⟩
     rw[eg2] at w7
     clear e4 hb3 eg
     go_wp2
     refine⟨⟨k+1,by omega,by simp,by rw[eg2],by first | rfl | trivial⟩,?_⟩
     simp[intOf];omega
    ·have hl3: ¬(k:Int)<(rm:Int):=by omega
     obtain rfl:k=rm:=by omega
     rw[ez]
     go_wp2
     refine⟨⟨i+1,by omega,by simp,hK2,by simpa using hlt,HBr.setCell (Nat.le_refl _) _⟩,?_⟩
     simp[intOf];omega
  ·obtain rfl:i=64:=by omega
   have hl2: ¬(64:Int)<(64:Int):=by omega
   have hlen:=hLl.out 64
   have c0:=(Kv.out 0 _ (Zp (L 64) 0 (by omega))).1
   have c1:=(Kv.out 1 _ (Zp (L 64) 1 (by omega))).1
   have c2:=(Kv.out 2 _ (Zp (L 64) 2 (by omega))).1
   have c3:=(Kv.out 3 _ (Zp (L 64) 3 (by omega))).1
   have c4:=(Kv.out 4 _ (Zp (L 64) 4 (by omega))).1
   have c5:=(Kv.out 5 _ (Zp (L 64) 5 (by omega))).1
   have c6:=(Kv.out 6 _ (Zp (L 64) 6 (by omega))).1
   have c7:=(Kv.out 7 _ (Zp (L 64) 7 (by omega))).1
   have hs0':=hs0.out
   have m0:wr.cell? ⟨w.heap.size,0,none⟩=some (iU (D0 m)):=(HBr.cell (p:=⟨w.heap.size,0,none⟩) (by show w.heap.size<ua.heap.size;omega)).trans hm0.out
   have m1:wr.cell? ⟨w.heap.size,1,none⟩=some (iU (D1 m)):=(HBr.cell (p:=⟨w.heap.size,1,none⟩) (by show w.heap.size<ua.heap.size;omega)).trans hm1.out
   have m2:wr.cell? ⟨w.heap.size,2,none⟩=some (iU (D2 m)):=(HBr.cell (p:=⟨w.heap.size,2,none⟩) (by show w.heap.size<ua.heap.size;omega)).trans hm2.out
   have m3:wr.cell? ⟨w.heap.size,3,none⟩=some (iU (D3 m)):=(HBr.cell (p:=⟨w.heap.size,3,none⟩) (by show w.heap.size<ua.heap.size;omega)).trans hm3.out
   have hRw:=hR.out wr
   obtain⟨a0,ea0⟩: ∃x,(L 64).getD 0 0=x:=⟨_,rfl⟩
   obtain⟨a1,ea1⟩: ∃x,(L 64).getD 1 0=x:=⟨_,rfl⟩
   obtain⟨a2,ea2⟩: ∃x,(L 64).getD 2 0=x:=⟨_,rfl⟩
   obtain⟨a3,ea3⟩: ∃x,(L 64).getD 3 0=x:=⟨_,rfl⟩
   obtain⟨a4,ea4⟩: ∃x,(L 64).getD 4 0=x:=⟨_,rfl⟩
   obtain⟨a5,ea5⟩: ∃x,(L 64).getD 5 0=x:=⟨_,rfl⟩
   obtain⟨a6,ea6⟩: ∃x,(L 64).getD 6 0=x:=⟨_,rfl⟩
   obtain⟨a7,ea7⟩: ∃x,(L 64).getD 7 0=x:=⟨_,rfl⟩
   rw[ea0,ea1,ea2,ea3,ea4,ea5,ea6,ea7] at hRw
   rw[ea0] at c0
   rw[ea1] at c1
   rw[ea2] at c2
   rw[ea3] at c3
   rw[ea4] at c4
   rw[ea5] at c5
   rw[ea6] at c6
   rw[ea7] at c7
   clear ea0 ea1 ea2 ea3 ea4 ea5 ea6 ea7
   have hBwr:Bw w wr:=Yu hBwa HBr
   have hbw:Hid (CV wr (w.heap.size+1) [iU 0,iU 0,iU 0,iU 0]):=hbr.out.below HBr (by omega)
   have hsr:=HBr.size
   replace hs0':Hid _:=hs0'
   go_wp2_with (first
    | (go_at_call 45;refine hRw.mono ?_;clear hRw;rintro e ub ⟨rfl,hBb⟩;have hbz:=hbw.out.below hBb (by have:=hs0'.out;omega);have k0:=hbz 0 _ rfl;have k1:=hbz 1 _ rfl;have k2:=hbz 2 _ rfl;have k3:=hbz 3 _ rfl;obtain⟨k0,f0⟩:=k0;obtain⟨k1,f1⟩:=k1;obtain⟨k2,f2⟩:=k2;obtain⟨k3,f3⟩:=k3;replace hbz:Hid _:=hbz;have hlz:w.heap.size+1<ub.heap.size:=(by have:=hs0'.out;have:=hBb.size;omega);have hne:w.heap.size+1≠ub.heap.size:=(by omega))
    | fail)
   have hBf:Bw w ub:=Yu hBwr hBb
   exact bodyPost_ret (v:=NV r) (by simp[results,Tryz.results42,go_sem,k0,k1,k2,k3,hlz,hne]) rfl ⟨rfl,Z2 ((((hBf.setCell (Nat.le_succ _) _).setCell (Nat.le_succ _) _).setCell (Nat.le_succ _) _).setCell (Nat.le_succ _) _) _⟩
def dgN (bs:List Nat) (s:ByteArray) (m:Int):Int:=(num8 (exY (mac [] bs) (txt s) 64):Int)%m
theorem exY64 (k tx:List Nat):(exY k tx 64).length=64:=by
 unfold exY
 rw[if_neg (by decide),if_neg (by decide)]
 unfold exN
 rw[List.length_take,Wt];decide
theorem xDigest (bs:List Nat) (v:Value) (s:ByteArray) (m:Int) (w:World) (hm:In m) (hm0:m≠0) (h:IN w w.heap.size v bs) (hb: ∀x∈bs,x<256) (hl:bs.length<=1000) (hs:s.size<=1000):
 CC 42 #[v,.string s,NV m] w (NV (dgN bs s m)):=by
 have hd:(exY (mac [] bs) (txt s) 64).length=64:=exY64 _ _
 have hx: ∀i,(exY (mac [] bs) (txt s) 64).getD i 0<256:=fun i=>by
  by_cases hi:i<(exY (mac [] bs) (txt s) 64).length
  ·rw[List.getD_eq_getElem?_getD,List.getElem?_eq_getElem hi];exact exY_m _ _ _ _ (List.getElem_mem hi)
  ·rw[List.getD_eq_getElem?_getD,List.getElem?_eq_none (by omega)];decide
 have hpos:0<w.heap.size:=by obtain⟨_,_,gb,_,_,_,_,h4,_⟩:=h;omega
 obtain⟨d,ed⟩: ∃x,exY (mac [] bs) (txt s) 64=x:=⟨_,rfl⟩
 unfold dgN
 have hD:=fun(u:World) (hB:Bw w u)=>cDeriveR bs [] v (.slice none 0 0) s 64 u (by have:=hB.size;omega) ((h.below hB).mono hB.size) (IN_nil u (by have:=hB.size;omega)) hb (by simp) hl (by simp) hs
 rw[ed] at hd hx⊢
 simp only[ed] at hD
 have g: ∀c,c<8->(lmbs d 64).getD c 0=lmb d 64 c:=fun c hc=>lmbs_get d 64 c hc
 have W: ∀i c,W64 (lmb d i c:Int):=fun i c=>⟨Int.natCast_nonneg _,by have:=lmb_lt hx i c;omega⟩
 refine xDigest_core v s d m _ (lmbs d) (fun _=>0) w hm hd hx (lmbs_0 d) (Ud d) (fun i hi=>?_) (fun i c=>?_) hD (fun u=>?_)
 ·rw[lmbs_step hd hi,lmbs_get d i _ (by omega)]
 ·by_cases hc:c<8
  ·rw[lmbs_get d i c hc];exact lmb_lt hx i c
  ·rw[List.getD_eq_getElem?_getD,List.getElem?_eq_none (by rw[Ud];omega)];decide
 ·rw[g 0 (by omega),g 1 (by omega),g 2 (by omega),g 3 (by omega),g 4 (by omega),g 5 (by omega),g 6 (by omega),g 7 (by omega),<-WV_of (num8 d:Int) _ _ _ _ _ _ _ _ (W 64 0) (W 64 1) (W 64 2) (W 64 3) (W 64 4) (W 64 5) (W 64 6) (W 64 7) (lmb_sum hd)]
  refine U1 (num8 d:Int) m u ⟨Int.natCast_nonneg _,?_⟩ hm hm0
  have h1:=nu_lt hx 64
  rw[List.take_of_length_le (by omega)] at h1
  have h2:(256:Nat)^64=0x10000000000000000000000000000000000000000000000000000000000000000*0x10000000000000000000000000000000000000000000000000000000000000000:=by decide+kernel
  omega
section
abbrev Z4:List Value:=[iU 0,iU 0,iU 0,iU 0]
def PIn (ys:List Nat) (u:World) (v:Value):Prop:=IN u u.heap.size v ys
theorem PIn.stab {ys:List Nat} {u u2:World} {x:Value} (hB:Bw u u2) (h:PIn ys u x):PIn ys u2 x:=(IN.below h hB).mono hB.size
def P8 (lo:Nat) (xs:List Nat) (u:World) (v:Value):Prop:= ∃b,v= .slice (some ⟨b,0,none⟩) 8 8/\lo<=b/\b<u.heap.size/\CV u b (U8 xs)
theorem P8.stab {lo:Nat} {xs:List Nat} {u u2:World} {x:Value} (hB:Bw u u2) (h:P8 lo xs u x):P8 lo xs u2 x:=by
 obtain⟨b,e,h1,h2,h3⟩:=h
 exact⟨b,e,h1,Nat.lt_of_lt_of_le h2 hB.size,h3.below hB h2⟩
theorem bs8c (i:Nat) (w:World):(Instr.buildSlice 43 8 ([0,1,2,3,4,5,6,7].zip [.int .u8 0,.int .u8 0,.int .u8 0,.int .u8 0,.int .u8 0,.int .u8 0,.int .u8 0,.int .u8 (i:Int)]).toArray).run Tryz.prog w= .ok (.slice (some ⟨w.heap.size,0,none⟩) 8 8) (w.alloc (.cells (U8 [0,0,0,0,0,0,0,i]).toArray 5)):=by kernel_rfl
theorem app_P8 {lo:Nat} {xs ys:List Nat} {b:Nat} {y:Value} {ty:TypeId} {u:World} (hlo:lo<=b) (hlu:lo<=u.heap.size) (hb:b<u.heap.size) (hxl:xs.length=8) (hl:ys.length<=100000) (hy:IN u u.heap.size y ys) (h:CV u b (U8 xs)):
 ∃v u',(Builtin.append_ #[43,43] ty #[.slice (some ⟨b,0,none⟩) 8 8,y]).run Tryz.prog u= .ok v u'/\Bw u u'/\IN u' u'.heap.size v (xs++ys):=by
 obtain⟨ti,hti,htm⟩:=Option.map_eq_some_iff.1 Tu
 simp only[Prod.mk.injEq] at htm
 obtain⟨hzv,hsz,hby⟩:=htm
 obtain⟨v',u',hr,hB,hg⟩:=Ua (P:=Tryz.prog) u (ty:=ty) Tryz.underlying43 hti hzv (by rw[hsz];rfl) (n:=8) (m:=ys.length) (xs:=U8 xs) (news:=U8 ys) h hlo hlu hb (by rw[hsz,Z1,hxl]) (IN_NW hy) (by rw[hsz,Z1];omega) (by rw[hby];omega) (by omega)
 rw[hsz,<-Xz] at hg
 exact⟨v',u',hr,hB,PG_in (by rw[List.length_append,hxl];exact hg)⟩
theorem lss_k (p q:Operand) (x y:Int) (b:Bool) (w:World) (h:decide (x<y)=b):(do eqGuard .lss 3 p q (iI x) (iI y);binOp .lss 3 (iI x) (iI y):Sem Value).run Tryz.prog w= .ok (.bool b) w:=by
 subst h;go_simp
theorem gtr_k (p q:Operand) (x y:Int) (b:Bool) (w:World) (h:decide (y<x)=b):(do eqGuard .gtr 3 p q (iI x) (iI y);binOp .gtr 3 (iI x) (iI y):Sem Value).run Tryz.prog w= .ok (.bool b) w:=by
 subst h;go_simp
theorem bd1m (w:World):(Instr.build 24 [(0,iU 1)].toArray).run Tryz.prog w= .ok (NV 1) w:=by kernel_rfl
theorem cvi8k {o:Oper} {ev:Operand->Value} {x:Operand} {n:Nat} (u:World) (h1:n<256) (ho:o.op= .convert 3 5 x) (hx:ev x=iI (n:Int)):(execOp ev o).run Tryz.prog u= .ok (.value (.int .u8 (n:Int))) u:=by
 have e1:IntKind.u8.wrap (n:Int)=(n:Int):=wraps_u8 _ (by omega) (by omega)
 unfold execOp;rw[ho];simp only[hx];go_simp
section
variable {R:Rg} {P:Program} {ops:Array Oper} {Q:Exit->Act->World->Prop} {f:Nat->Bool} {t:Nat->Value} {u:World} {a:Act} {i:Nat} {o:Oper}
theorem g_aK (n:Nat) (p:World->Value->Prop) {T:TypeId} {x y:Operand} {vx vy:Value} (h: ∀f u,KC f u R.lo R.base R.es->R.base<=u.heap.size->Below R.lo R.w u-> ∃v u',(Builtin.append_ #[T,T] o.type #[vx,vy]).run P u= .ok v u'/\Bw u u'/\p u' v) (hop:o.op= .call {callee:= .builtin .append,args:=[x,y].toArray,argTypes:=[T,T].toArray}:=by rfl) (hx:evR R i o x=some vx:=by rfl) (hy:evR R i o y=some vy:=by rfl) (hn:(R.E[n]?).map (·.p)=some p:=by rfl) (hc:R.chkE ops n i o=true:=by rfl):OG R P ops Q i o:=fun f t u a X=>by
 obtain⟨d,q,hd,hq,_,_,_,_,_,_,_,_,hw⟩:=Zl hc
 obtain⟨v,u',hr,hB,hp⟩:=h f u X.I.2.1 X.I.1.sz X.I.1.bel
 exact X.go hw fun K hK=>U7 hop (X.ev hx) (X.ev hy) hr (hK _ _ (X.putE hc (fun q hq=>by rw[hq] at hn;cases hn;exact hp) hB))
theorem g_cWg (m:Nat) (p:World->Value->Prop) {N:FuncId} {j d:Nat} {args:List Operand} {tys:Array TypeId} {v:Value} (vs:Value->List Value) (hr: ∀(vs:Array Value) (w:World),(callFunc N vs).run P w= .ok (.enter N vs) w)
 (hcall: ∀(u:World) (y:Value),Below R.lo R.w u->p u y->Calls P N (vs y).toArray u fun e u'=>e= .returned v/\Bw u u') (hop:o.op= .call {callee:= .value (.func N),args:=args.toArray,argTypes:=tys}:=by rfl) (hm:R.E[m]?=some ⟨j,d,some i,p⟩:=by rfl) (hx: ∀y,args.mapM (ev1 R i o d y)=some (vs y):=by intro y;rfl) (hd:(Y1 o j&&R.S.contains d)=true:=by rfl) (hv:some v=Zw i R.G:=by rfl) (hc:R.chk ops i o=true:=by rfl):OG R P ops Q i o:=fun f t u a X=>by
 rw[Bool.and_eq_true,List.contains_iff_mem] at hd
 obtain⟨h2,h4⟩:=hd
 have hy:p u (t d):=X.val hm h2 rfl
 exact X.go (Ym hc).choose_spec.2.2.2.2.2.2.2 fun K hK=>Wo hop (evs1 X h4 (hx (t d))) hr (hcall u (t d) X.I.1.bel hy) fun w' hB=>hK _ _ (X.put hv hc (X.I.1.call hB) (X.I.2.1.below hB X.I.1.sz) hB)
end
theorem Yt:EnT 42:=fun _ _=>by kernel_rfl
theorem xMember_core (p q g h rv:Int) (bs:List Nat) (vb:Value) (f sq cf:Nat->Int) (w:World) (hin:IN w w.heap.size vb bs) (hbl:bs.length<=100000)
 (hC:Hid (∀u,CC 41 #[GX p q g h] u (iI 0)))
 (hD:Hid (∀(k:Nat) u y,k<64->Bw w u->PIn ([0,0,0,0,0,0,0,k]++bs) u y->CC 42 #[y,.string ⟨#[109,101,109,98,101,114]⟩,NV p] u (NV (f k))))
 (hM:Hid (∀(k:Nat) u,k<64->CC 32 #[NV (f k),NV (f k),NV p] u (.tuple #[NV (sq k),iI 0])))
 (hQ:Hid (∀(k:Nat) u,k<64->CC 22 #[NV (sq k),NV 1] u (iI (cf k))))
 (hc:Hid (∀k,k<64->(1<sq k->0<cf k)/\(¬1<sq k->cf k<=0)))
 (hE:Hid (∀k,k<64->(∀j,j<k->sq j<=1)->1<sq k->sq k=rv)) (hE2:Hid ((∀j,j<64->sq j<=1)->rv=1)):
 CC 18 #[GX p q g h,vb] w (.tuple #[NV rv,iI 0]):=by
 go_enter Tryz.func18,Tryz.ntmps18
 go_upto_region 1 with fail
 obtain⟨v0,hC,HB0,K0⟩:=bx2 w (GE (p) (q) (g) (h)) 26 L0s 24
 rw[hC]
 clear hC
 refine Rn K0 HB0 (cG 0 11 [_,_,_] []) (oc (g_ld 0 Tryz.underlying26 Z0)<|oc (g_cl Zn hC.out)<|oc (g_bn (fun uZ=>Xk _ _ _ 0 0 _ uZ rfl)) on) fun u1 HB1 _ K1=>?_
 simp only[sQ] at K1⊢
 go_upto_region 3 with fail
 refine Rn K1 HB1 [(0,6,_)] (oc g_as on) fun u2 HB2 _ K2=>?_
 simp only[sQ] at K2⊢
 go_wp2_with fail
 go_loopw [6] (fun s6 wr=> ∃(k:Nat),k<=64/\s6=iI (k:Int)/\Hid (∀j,j<k->sq j<=1)/\Bw w wr/\CV wr (w.heap.size) (GE (p) (q) (g) (h))/\w.heap.size<wr.heap.size/\CV wr (w.heap.size+1) (L0s)/\w.heap.size+1<wr.heap.size) (fun s6 _=>64 -(intOf s6).toNat)
 case atStart=>exact⟨0,by omega,rfl,fun j hj=>absurd hj (by omega),HB2,(K2.cv 0),(K2.lt 0),(K2.cv 1),(K2.lt 1)⟩
 case round=>
  obtain⟨k,hk,rfl,hall,HBr,Kp,lp,Kr,lr⟩:=hrel
  have hnK:=K2.n
  simp at hnK
  by_cases hj:k<64
  ·have hl:decide ((k:Int)<64)=true:=by simp;omega
   have hDg:=fun u y (hB:Bw w u) h=>hD.out k u y hj hB h
   have hMu:=fun u=>hM.out k u hj
   have hCp:=fun u=>hQ.out k u hj
   have hc1:=hc.out k hj
   have hev:=hE.out k hj hall.out
   have hall2: ¬1<sq k->Hid (∀j,j<k+1->sq j<=1):=fun hb j hj2=>by
    by_cases e:j=k
    ·subst e;omega
    ·exact hall.out j (by omega)
   have hDg:Hid _:=hDg
   have hMu:Hid _:=hMu
   have hCp:Hid _:=hCp
   have hk64:(k:Int)<64:=by omega
   obtain⟨x,ex⟩: ∃x,f k=x:=⟨_,rfl⟩
   obtain⟨y,ey⟩: ∃y,sq k=y:=⟨_,rfl⟩
   obtain⟨c,ec⟩: ∃c,cf k=c:=⟨_,rfl⟩
   rw[ex] at hDg hMu
   rw[ey] at hMu hCp hev hall2 hc1
   rw[ec] at hCp hc1
   clear ex ey ec
   by_cases hy1:1<y
   ·have hcb:decide (0<c)=true:=by have:=hc1.1 (by omega);simp;omega
    have hrv:=hev hy1
    subst hrv
    have K2_1:Bk w.heap.size wr [(false,w.heap.size,GE (p) (q) (g) (h)),(true,w.heap.size+1,L0s)]:=⟨.c lp Kp<| .o lr (K2.lo 1) Kr<|trivial,by simp<;>omega⟩
    go_upto_region 4 with fail
    refine Rn K2_1 HBr [(0,15,_),(1,16,_)] (oc g_mv<|oc (g_bn (fun uZ=>lss_k _ _ (k:Int) 64 _ uZ hl)) on) fun u3 HB3 sz3 K3=>?_
    simp only[sQ] at K3⊢
    go_upto_region 6 with fail
    refine Rf K3 HB3 [] [] [(0,19,_),(1,20,_)] [] [] [⟨2,21,some 3,P8 u3.heap.size [0,0,0,0,0,0,0,k]⟩,⟨3,7,none,P8 u3.heap.size [0,0,0,0,0,0,0,k]⟩] [] (oc g_mv<|oc (g_op (fun ev uZ he=>cvi8k uZ (by omega) rfl (he _ _ rfl)))<|oc (g_bR 0 (P8 u3.heap.size [0,0,0,0,0,0,0,k]) [0,1,2,3,4,5,6,7] [.int .u8 0,.int .u8 0,.int .u8 0,.int .u8 0,.int .u8 0,.int .u8 0,.int .u8 0,.int .u8 (k:Int)] (U8 [0,0,0,0,0,0,0,k]) (bs8c k) (fun u hu=>⟨_,rfl,hu,by simp,CV.new u _ _⟩))<|oc (g_sE 0 1 (P8 u3.heap.size [0,0,0,0,0,0,0,k])) on) fun u4 v4_2 hv4_2 v4_3 hv4_3 HB4 sz4 K4=>?_
    simp only[sQ] at K4⊢
    obtain⟨b8,rfl,l1,l2,l3⟩:=hv4_3 rfl
    have K4xe8:=Bk.more3 K3 K4 l1 l2 l3 (by intro x hx;first | (simp at hx;done) | (simp at hx⊢;omega))
    simp only[aK] at K4xe8
    go_upto_region 7 with fail
    refine Re K4xe8 HB4 [] [(6,8,L0s,some (7,LN x))] [(0,22,_),(1,23,_),(3,25,_),(4,26,_),(5,27,_)] [(7,6)] [] [⟨2,24,some 5,PIn ([0,0,0,0,0,0,0,k]++bs)⟩] [true,true,false] (oc g_mv<|oc g_mv<|oc (g_aK 0 (PIn ([0,0,0,0,0,0,0,k]++bs)) (fun f u kZ hs bZ=>app_P8 (lo:=0) (Nat.zero_le _) (Nat.zero_le _) (Nat.lt_of_lt_of_le (KC.get kZ (k:=2) rfl).1 hs) rfl hbl ((IN.below hin bZ).mono bZ.size) (KC.cv kZ 2)))<|oc (g_fd (fdG0 _))<|oc (g_lo 0 0 uN iN)<|oc (g_cWg 0 (PIn ([0,0,0,0,0,0,0,k]++bs)) (fun y=>[y,.string ⟨#[109,101,109,98,101,114]⟩,NV p]) Yt (fun u y bZ hy=>hDg.out u y bZ hy))<|oc (g_al 0 aN)<|oc (g_sn 0 iN) on) fun u5 b5_6 v5_2 hv5_2 HB5 sz5 K5=>?_
    simp only[sQ] at K5⊢
    go_upto_region 8 with fail
    refine Rp K5 HB5 [] [(8,9,L0s,some (9,LN y))] (cG 0 29 [_,_,_,_,_] [(5,28,_),(6,34,_),(7,35,_),(10,10,_)]) [(9,8)] [] [true,true,false] (oc (g_ld 2 uN iN)<|oc (g_ld 2 uN iN)<|oc (g_fd (fdG0 _))<|oc (g_lo 0 0 uN iN)<|oc (g_cl Zq hMu.out)<|oc g_mv<|oc g_ex<|oc g_ex<|oc (g_al 0 aN)<|oc (g_sn 0 iN)<|oc g_as on) fun u6 b6_8 HB6 sz6 K6=>?_
    simp only[sQ] at K6⊢
    go_upto_region 9 with fail
    refine Rn K6 HB6 (cG 0 36 [_,_,_,_] []) (oc (g_ld 2 uN iN)<|oc (g_bd bd1m)<|oc (g_cl Ze hCp.out)<|oc (g_bn (fun uZ=>gtr_k _ _ c 0 _ uZ hcb)) on) fun u7 HB7 sz7 K7=>?_
    simp only[sQ] at K7⊢
    go_upto_region 10 with fail
    refine Rp K7 HB7 [.no,.all 1 (LN y)] [] [(0,40,_),(2,5,_)] [] [] [true,true,false] (oc (g_ld 2 uN iN)<|oc (g_st 1 iN)<|oc g_as on) fun u8 HB8 sz8 K8=>?_
    simp only[sQ] at K8⊢
    have c4:=(K8.cv 1).n4
    go_wp2
    refine bodyPost_ret (v:= .tuple #[NV y,iI 0]) (by simp[results,Tryz.results18,go_sem,c4]) rfl ⟨rfl,HB8⟩
   ·have hcb:decide (0<c)=false:=by have:=hc1.2 (by omega);simp;omega
    have hall3:=hall2 hy1
    have hall3:Hid _:=hall3
    clear hall2 hev
    have K2_1:Bk w.heap.size wr [(false,w.heap.size,GE (p) (q) (g) (h)),(true,w.heap.size+1,L0s)]:=⟨.c lp Kp<| .o lr (K2.lo 1) Kr<|trivial,by simp<;>omega⟩
    go_upto_region 4 with fail
    refine Rn K2_1 HBr [(0,15,_),(1,16,_)] (oc g_mv<|oc (g_bn (fun uZ=>lss_k _ _ (k:Int) 64 _ uZ hl)) on) fun u3 HB3 sz3 K3=>?_
    simp only[sQ] at K3⊢
    go_upto_region 6 with fail
    refine Rf K3 HB3 [] [] [(0,19,_),(1,20,_)] [] [] [⟨2,21,some 3,P8 u3.heap.size [0,0,0,0,0,0,0,k]⟩,⟨3,7,none,P8 u3.heap.size [0,0,0,0,0,0,0,k]⟩] [] (oc g_mv<|oc (g_op (fun ev uZ he=>cvi8k uZ (by omega) rfl (he _ _ rfl)))<|oc (g_bR 0 (P8 u3.heap.size [0,0,0,0,0,0,0,k]) [0,1,2,3,4,5,6,7] [.int .u8 0,.int .u8 0,.int .u8 0,.int .u8 0,.int .u8 0,.int .u8 0,.int .u8 0,.int .u8 (k:Int)] (U8 [0,0,0,0,0,0,0,k]) (bs8c k) (fun u hu=>⟨_,rfl,hu,by simp,CV.new u _ _⟩))<|oc (g_sE 0 1 (P8 u3.heap.size [0,0,0,0,0,0,0,k])) on) fun u4 v4_2 hv4_2 v4_3 hv4_3 HB4 sz4 K4=>?_
    simp only[sQ] at K4⊢
    obtain⟨b8,rfl,l1,l2,l3⟩:=hv4_3 rfl
    have K4xe8:=Bk.more3 K3 K4 l1 l2 l3 (by intro x hx;first | (simp at hx;done) | (simp at hx⊢;omega))
    simp only[aK] at K4xe8
    go_upto_region 7 with fail
    refine Re K4xe8 HB4 [] [(6,8,L0s,some (7,LN x))] [(0,22,_),(1,23,_),(3,25,_),(4,26,_),(5,27,_)] [(7,6)] [] [⟨2,24,some 5,PIn ([0,0,0,0,0,0,0,k]++bs)⟩] [true,true,false] (oc g_mv<|oc g_mv<|oc (g_aK 0 (PIn ([0,0,0,0,0,0,0,k]++bs)) (fun f u kZ hs bZ=>app_P8 (lo:=0) (Nat.zero_le _) (Nat.zero_le _) (Nat.lt_of_lt_of_le (KC.get kZ (k:=2) rfl).1 hs) rfl hbl ((IN.below hin bZ).mono bZ.size) (KC.cv kZ 2)))<|oc (g_fd (fdG0 _))<|oc (g_lo 0 0 uN iN)<|oc (g_cWg 0 (PIn ([0,0,0,0,0,0,0,k]++bs)) (fun y=>[y,.string ⟨#[109,101,109,98,101,114]⟩,NV p]) Yt (fun u y bZ hy=>hDg.out u y bZ hy))<|oc (g_al 0 aN)<|oc (g_sn 0 iN) on) fun u5 b5_6 v5_2 hv5_2 HB5 sz5 K5=>?_
    simp only[sQ] at K5⊢
    go_upto_region 8 with fail
    refine Rp K5 HB5 [] [(8,9,L0s,some (9,LN y))] (cG 0 29 [_,_,_,_,_] [(5,28,_),(6,34,_),(7,35,_),(10,10,_)]) [(9,8)] [] [true,true,false] (oc (g_ld 2 uN iN)<|oc (g_ld 2 uN iN)<|oc (g_fd (fdG0 _))<|oc (g_lo 0 0 uN iN)<|oc (g_cl Zq hMu.out)<|oc g_mv<|oc g_ex<|oc g_ex<|oc (g_al 0 aN)<|oc (g_sn 0 iN)<|oc g_as on) fun u6 b6_8 HB6 sz6 K6=>?_
    simp only[sQ] at K6⊢
    go_upto_region 9 with fail
    refine Rp K6 HB6 [] [] (cG 0 36 [_,_,_,_] []) [] [] [true,true,false] (oc (g_ld 2 uN iN)<|oc (g_bd bd1m)<|oc (g_cl Ze hCp.out)<|oc (g_bn (fun uZ=>gtr_k _ _ c 0 _ uZ hcb)) on) fun u7 HB7 sz7 K7=>?_
    simp only[sQ] at K7⊢
    go_upto_region 5 with fail
    refine Rp K7 HB7 [] [] [(0,17,_),(1,18,_),(2,6,_)] [(2,0)] [(2,6)] [] (oc g_mv<|oc (g_bn (fun uZ=>Zr _ _ (k:Int) 1 ((k+1:Nat):Int) uZ (by omega) (by omega) (by omega)))<|oc g_as on) fun u8 HB8 sz8 K8=>?_
    simp only[sQ] at K8⊢
    go_wp2
    refine⟨⟨k+1,by omega,rfl,hall3.out,HB8,(K8.cv 0),(K8.lt 0),(K8.cv 1),(K8.lt 1)⟩,?_⟩
    simp[intOf]<;>omega
  ·have hl:decide ((k:Int)<64)=false:=by simp;omega
   have hkn:k=64:=by omega
   have hrv:=hE2.out (by rw[<-hkn];exact hall.out)
   clear hkn
   subst hrv
   have K2_1:Bk w.heap.size wr [(false,w.heap.size,GE (p) (q) (g) (h)),(true,w.heap.size+1,L0s)]:=⟨.c lp Kp<| .o lr (K2.lo 1) Kr<|trivial,by simp<;>omega⟩
   go_upto_region 4 with fail
   refine Rn K2_1 HBr [(0,15,_),(1,16,_)] (oc g_mv<|oc (g_bn (fun uZ=>lss_k _ _ (k:Int) 64 _ uZ hl)) on) fun u3 HB3 sz3 K3=>?_
   simp only[sQ] at K3⊢
   go_upto_region 11 with fail
   refine Rp K3 HB3 [.no,.all 1 (LN 1)] [] [(0,41,_),(2,5,_)] [] [] [] (oc (g_bd bd1m)<|oc (g_st 1 iN)<|oc g_as on) fun u4 HB4 sz4 K4=>?_
   simp only[sQ] at K4⊢
   have c4:=(K4.cv 1).n4
   go_wp2
   refine bodyPost_ret (v:= .tuple #[NV 1,iI 0]) (by simp[results,Tryz.results18,go_sem,c4]) rfl ⟨rfl,HB4⟩
end
end Go.Proofs.YtofcppgfaelloaaGreatDoor
