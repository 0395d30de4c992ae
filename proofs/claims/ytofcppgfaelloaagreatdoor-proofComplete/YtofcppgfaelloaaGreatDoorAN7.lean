import Derived.Test.YtofcppgfaelloaaGreatDoorAN6
namespace Go.Proofs.YtofcppgfaelloaaGreatDoor
set_option linter.unusedVariables false
set_option linter.unusedSimpArgs false
set_option maxRecDepth 100000
set_option maxHeartbeats 4000000
section
open Go.RowKit
def mlB (p q:Int) (ns:List Int):Bool:=decide (gOk p q)&&ns.all (isB p q)
def mlE (p q:Int) (ns:List Int):Int:=if mlB p q ns then 0 else 90
def mlX (p q:Int) (ns:List Int):Int:=if mlB p q ns then gat (fun a b=>(a*b)%p) (1%p) ns ns.length else 0
end
section
theorem sq_Mb {p q x:Int} (hp:Pr p.toNat) (hg:gOk p q) (h:x%p≠0):Mb p q (x*x%p):=by
 have h7:=hg.2
 have h2:=hg.1
 refine Mb.of hg ?_
 have ha0:=Int.emod_nonneg x (show p≠0 by omega)
 have ha1:=Int.emod_lt_of_pos x (show 0<p by omega)
 have e0:(x*x)^q.toNat%p=(x%p)^(p.toNat -1)%p:=by
  rw[show p.toNat -1=2*q.toNat by omega,Int.pow_mul,<-W3 (x*x),<-W3 ((x%p)^2),Int.pow_succ,Int.pow_succ,Int.pow_zero,Int.one_mul,<-Int.mul_emod]
 rw[e0]
 obtain⟨a,ea⟩: ∃a:Nat,x%p=(a:Int):=⟨(x%p).toNat,by omega⟩
 rw[ea] at h ha1⊢
 have hb: ¬p.toNat∣a:=fun hd=>by have:=Nat.le_of_dvd (by omega) hd;omega
 have hf:=hp.fermat hb
 have hf2:((a^(p.toNat -1)%p.toNat:Nat):Int)=1:=by rw[hf];rfl
 rw[Int.natCast_emod,Int.natCast_pow,Int.toNat_of_nonneg (by omega)] at hf2
 exact hf2
theorem one_Mb {p q:Int} (hg:gOk p q):Mb p q 1:=by
 have h7:=hg.2
 exact⟨by omega,by omega,by rw[Int.one_pow];exact one_mod (by omega)⟩
theorem meF_is {f:Nat->Int}: ∀(k s:Nat),meF f s k=1\/ ∃i,meF f s k=f i/\1<f i
 | 0,s=>.inl rfl
 | k+1,s=>by
  rw[meF]
  by_cases h:1<f s
  ·rw[if_pos h];exact .inr ⟨s,rfl,h⟩
  ·rw[if_neg h];exact meF_is k (s+1)
theorem meN_Mb {p q:Int} (hp:Pr p.toNat) (hg:gOk p q) (bs:List Nat):Mb p q (meN p bs):=by
 unfold meN
 rcases meF_is (f:=sqM p bs) 64 0 with h | ⟨i,h,h1⟩
 ·rw[h];exact one_Mb hg
 ·rw[h]
  unfold sqM at h1⊢
  refine sq_Mb hp hg fun e=>?_
  rw[Int.mul_emod,e,Int.mul_zero,Int.zero_emod] at h1
  omega
theorem dgN_lt (bs:List Nat) (s:ByteArray) {m:Int} (hm:0<m):0<=dgN bs s m/\dgN bs s m<m:=⟨Int.emod_nonneg _ (by omega),Int.emod_lt_of_pos _ hm⟩
theorem Yx {p q x:Int} (hg:gOk p q) (h:Mb p q x):isB p q x=true:=decide_eq_true ⟨hg,h⟩
theorem ml_two {p q x y:Int} (hg:gOk p q) (hx:Mb p q x) (hy:Mb p q y):mlE p q [x,y]=0/\mlX p q [x,y]=x*y%p:=by
 have hb:mlB p q [x,y]=true:=by
  unfold mlB
  rw[decide_eq_true hg]
  simp[Yx hg hx,Yx hg hy]
 unfold mlE mlX
 rw[hb]
 refine⟨rfl,?_⟩
 have h7:=hg.2
 show gat (fun a b=>(a*b)%p) (1%p) [x,y] 2=_
 rw[gat,gat,gat]
 simp only[List.getD_cons_zero,List.getD_cons_succ]
 rw[one_mod (by omega),Int.one_mul,Int.mul_emod,Int.emod_emod,<-Int.mul_emod]
abbrev P0:Int:=1162079267
abbrev Q0:Int:=581039633
theorem X8:gOk P0 Q0:=⟨by decide,by decide⟩
theorem is_4 (hp:Pr P0.toNat):Mb P0 Q0 4:=sq_Mb (x:=2) hp X8 (by decide)
theorem is_9 (hp:Pr P0.toNat):Mb P0 Q0 9:=sq_Mb (x:=3) hp X8 (by decide)
end
section
open Go.RowKit
def byp (a b c d:Int) (p:Nat):Int:=(if p/8=0 then a else if p/8=1 then b else if p/8=2 then c else d)/2^(p%8*8)%256
def CB (w:World) (n k:Nat) (a b c d:Int):Prop:= ∀j,j<32->w.cell? ⟨n,j,none⟩=some (.int .u8 (if 32<=j+k then byp a b c d (31 -j) else 0))/\w.frozen? ⟨n,j,none⟩=false
theorem CB.below {w w':World} {m n k:Nat} {a b c d:Int} (h:CB w n k a b c d) (hb:Below m w w') (hn:n<m):CB w' n k a b c d:=fun j hj=>by
 rw[hb.cell (p:=⟨n,j,none⟩) hn,hb.frozen (p:=⟨n,j,none⟩) hn];exact h j hj
theorem CB.set {w:World} {n k:Nat} {a b c d:Int} (h:CB w n k a b c d) (hk:k<32) (v:Int) (hv:v=byp a b c d k):CB (w.setCell ⟨n,31 -k,none⟩ (.int .u8 v)) n (k+1) a b c d:=fun j hj=>by
 rw[World.frozen?_setCell]
 obtain⟨hc,hf⟩:=h (31 -k) (by omega)
 by_cases e:j=31 -k
 ·subst e
  refine⟨?_,hf⟩
  rw[if_pos (by omega),show 31 -(31 -k)=k by omega,hv]
  simp[go_sem,hc]
 ·obtain⟨hc',hf'⟩:=h j hj
  refine⟨?_,hf'⟩
  rw[World.cell?_setCell_other _ _ _ _ (by simp<;>omega),hc']
  by_cases g:32<=j+k
  ·rw[if_pos g,if_pos (by omega)]
  ·rw[if_neg g,if_neg (by omega)]
def z32b:Array Value:=Array.replicate 32 (.int .u8 0)
theorem CB.new (w:World) (a b c d:Int):CB (w.alloc (.cells z32b 5)) w.heap.size 0 a b c d:=fun j hj=>by
 have hf:(w.alloc (.cells z32b 5)).frozen? ⟨w.heap.size,j,none⟩=false:=by simp[go_sem]
 refine⟨?_,hf⟩
 rw[cell_of_row _ w.heap.size j _ 5 (0,0) (heap_alloc_new _ _),if_neg (by omega)]
 simp[z32b,hj]
end
section
def pwZ (p q x e:Int):Int:=x^(e%q).toNat%p
def cmN (p q g h s t:Int):Int:=pwZ p q g s*pwZ p q h t%p
theorem pw_m (p q x e:Int):pwZ p q x (e%q)=pwZ p q x e:=by unfold pwZ;rw[Int.emod_emod]
theorem pw_add {p q x:Int} (hg:gOk p q) (hx:Mb p q x) (a b:Int):pwZ p q x a*pwZ p q x b%p=pwZ p q x (a+b):=by
 have h3:=hg.q3
 have h:=hx.sum hg (a%q) (b%q) (Int.emod_nonneg _ (by omega)) (Int.emod_nonneg _ (by omega))
 rw[Int.emod_emod,Int.emod_emod,<-Int.add_emod] at h
 exact h
theorem tn_mod {n q:Int} (h:0<=n) (hq:0<q):(n%q).toNat=n.toNat%q.toNat:=by
 have h1:((n.toNat%q.toNat:Nat):Int)=n%q:=by rw[Int.natCast_emod,Int.toNat_of_nonneg h,Int.toNat_of_nonneg (by omega)]
 omega
theorem pw_pw {p q x:Int} (hg:gOk p q) (hx:Mb p q x) (a b:Int):pwZ p q (pwZ p q x a) b=pwZ p q x (a*b):=by
 have h3:=hg.q3
 have h1:1<p:=by have:=hg.2;omega
 have ha:=Int.emod_nonneg a (show q≠0 by omega)
 have hb:=Int.emod_nonneg b (show q≠0 by omega)
 have e:pwZ p q x (a*b)=pwZ p q x (a%q*(b%q)):=by rw[<-pw_m p q x (a*b),<-pw_m p q x (a%q*(b%q)),<-Int.mul_emod]
 rw[e]
 unfold pwZ
 rw[tn_mod (n:=a%q*(b%q)) (Int.mul_nonneg ha hb) (by omega),<-pow_red h1 hx.2.2,W3,<-Int.pow_mul,Int.toNat_mul ha hb]
theorem pw_mul {p q x y:Int} (e:Int):pwZ p q (x*y%p) e=pwZ p q x e*pwZ p q y e%p:=by
 unfold pwZ;rw[W3,mul_powG,<-Int.mul_emod]
theorem pw_Mb {p q x:Int} (hg:gOk p q) (hx:Mb p q x) (e:Int):Mb p q (pwZ p q x e):=hx.pow hg _
theorem cm_Mb {p q g h:Int} (hg:gOk p q) (h1:Mb p q g) (h2:Mb p q h) (s t:Int):Mb p q (cmN p q g h s t):=(pw_Mb hg h1 s).mul hg (pw_Mb hg h2 t)
theorem neg_q {q:Int} (c:Int):(q -c%q)%q=(0 -c)%q:=by
 rw[Int.sub_emod,Int.emod_self,Int.emod_emod,Int.sub_emod 0 c,Int.zero_emod]
theorem pw_neg (p q x c:Int):pwZ p q x (q -c%q)=pwZ p q x (0 -c):=by rw[<-pw_m,neg_q,pw_m]
theorem fg_pw {p q x:Int} (hg:gOk p q) (hx:Mb p q x) (a c s:Int):pwZ p q x ((a+c*s)%q)*pwZ p q (pwZ p q x s) (0 -c)%p=pwZ p q x a:=by
 rw[pw_m,pw_pw hg hx,pw_add hg hx];congr 1;grind
theorem fg_cm {p q g h:Int} (hg:gOk p q) (h1:Mb p q g) (h2:Mb p q h) (x y c s t:Int):cmN p q g h ((x+c*s)%q) ((y+c*t)%q)*pwZ p q (cmN p q g h s t) (0 -c)%p=cmN p q g h x y:=by
 unfold cmN
 rw[pw_mul,<-Int.mul_emod]
 rw[<-fg_pw hg h1 x c s,<-fg_pw hg h2 y c t,<-Int.mul_emod]
 congr 1
 grind
def b32 (x:Int):List Nat:=(List.range 32).map fun j=>(byp (D0 x) (D1 x) (D2 x) (D3 x) (31 -j)).toNat
def chB (l:List Int):List Nat:=l.flatMap b32
theorem b32_len (x:Int):(b32 x).length=32:=by simp[b32]
theorem byp_lt (a b c d:Int) (p:Nat):0<=byp a b c d p/\byp a b c d p<256:=by unfold byp;omega
theorem b32_get (x:Int) {j:Nat} (h:j<32):(((b32 x).getD j 0:Nat):Int)=byp (D0 x) (D1 x) (D2 x) (D3 x) (31 -j):=by
 have:=byp_lt (D0 x) (D1 x) (D2 x) (D3 x) (31 -j)
 simp[b32,List.getElem?_map,List.getElem?_range h]
 omega
theorem b32_lt (x:Int): ∀b∈b32 x,b<256:=fun b hb=>by
 obtain⟨j,_,rfl⟩:=List.mem_map.1 hb
 have:=byp_lt (D0 x) (D1 x) (D2 x) (D3 x) (31 -j)
 omega
theorem chB_len: ∀l:List Int,(chB l).length=32*l.length
 | []=>rfl
 | x::l=>by unfold chB;rw[List.flatMap_cons,List.length_append,b32_len,show (l.flatMap b32).length=32*l.length from chB_len l,List.length_cons];omega
theorem chB_lt (l:List Int): ∀b∈chB l,b<256:=fun b hb=>by
 obtain⟨x,_,hx⟩:=List.mem_flatMap.1 hb
 exact b32_lt x b hx
theorem chB_app (l m:List Int):chB (l++m)=chB l++chB m:=List.flatMap_append
theorem chB_snoc (l:List Int) (x:Int):chB (l++[x])=chB l++b32 x:=by rw[chB_app];simp[chB]
def chZ (p q:Int) (l:List Int):Int:=scX p q (chB l)
theorem chZ_bd {p q:Int} (hg:gOk p q) (l:List Int):0<=chZ p q l/\chZ p q l<q:=by
 have:=hg.q3
 rw[chZ,show scX p q (chB l)=dgN (chB l) tSca q from if_pos hg]
 exact dgN_lt _ _ (by omega)
def mbL (p q:Int) (l:List Int):Bool:=l.all (isB p q)
theorem mbL_g {p q x:Int} {l:List Int} (h:mbL p q (x::l)=true):gOk p q:=by
 unfold mbL at h;rw[List.all_cons,Bool.and_eq_true] at h;exact(isB_t h.1).1
theorem mbL_all {p q:Int} {l:List Int} (h:mbL p q l=true): ∀x∈l,Mb p q x:=fun x hx=>(isB_t (List.all_eq_true.1 h x hx)).2
def pvC (p q g h b s t x y:Int):Int:=chZ p q [g,h,b,pwZ p q b s,cmN p q g h s t,pwZ p q b x,cmN p q g h x y]
def pvY (q x c s:Int):Int:=(x+c*s)%q
def fgV (p q b u c y:Int):Int:=pwZ p q b y*pwZ p q u (0 -c)%p
def fgW (p q g h k c y z:Int):Int:=cmN p q g h y z*pwZ p q k (0 -c)%p
def ckB (p q g h b u k c y z:Int):Bool:=decide (c<q)&&(decide (y<q)&&(decide (z<q)&&decide (c=chZ p q [g,h,b,u,k,fgV p q b u c y,fgW p q g h k c y z])))
def ckE (p q g h b u k c y z:Int):Int:=if mbL p q [g,h,b,u,k] then (if ckB p q g h b u k c y z then 0 else 130) else 90
theorem mb5 {p q g h b u k:Int} (hg:gOk p q) (h1:Mb p q g) (h2:Mb p q h) (h3:Mb p q b) (h4:Mb p q u) (h5:Mb p q k):mbL p q [g,h,b,u,k]=true:=by
 simp[mbL,Yx hg h1,Yx hg h2,Yx hg h3,Yx hg h4,Yx hg h5]
theorem ck_pv {p q g h b:Int} (hg:gOk p q) (h1:Mb p q g) (h2:Mb p q h) (h3:Mb p q b) (s t x y:Int):
 ckE p q g h b (pwZ p q b s) (cmN p q g h s t) (pvC p q g h b s t x y) (pvY q x (pvC p q g h b s t x y) s) (pvY q y (pvC p q g h b s t x y) t)=0:=by
 have hq:=hg.q3
 have hc:=chZ_bd hg [g,h,b,pwZ p q b s,cmN p q g h s t,pwZ p q b x,cmN p q g h x y]
 unfold ckE
 rw[mb5 hg h1 h2 h3 (pw_Mb hg h3 s) (cm_Mb hg h1 h2 s t),if_pos rfl]
 refine if_pos ?_
 unfold ckB
 rw[fgV,fgW,pvY,pvY,fg_pw hg h3,fg_cm hg h1 h2]
 have h4:=Int.emod_lt_of_pos (x+pvC p q g h b s t x y*s) (show 0<q by omega)
 have h5:=Int.emod_lt_of_pos (y+pvC p q g h b s t x y*t) (show 0<q by omega)
 rw[decide_eq_true h4,decide_eq_true h5,decide_eq_true (show pvC p q g h b s t x y<q from hc.2),Bool.true_and,Bool.true_and,Bool.true_and]
 exact decide_eq_true rfl
def tpZ (a:Int) (j:Nat):Int:=a/2^(256 -j)
theorem tp_0 {a:Int} (h:In a):tpZ a 0=0:=Int.ediv_eq_zero_of_lt h.1 h.2
theorem tp_256 (a:Int):tpZ a 256=a:=by simp[tpZ]
theorem tp_s {a:Int} {j:Nat} (h:j<256):tpZ a (j+1)=2*tpZ a j+a/2^(255 -j)%2:=by
 unfold tpZ
 rw[show 256 -(j+1)=255 -j by omega,show 256 -j=(255 -j)+1 by omega,Int.pow_succ,<-Int.ediv_ediv_of_nonneg (Int.le_of_lt (Int.pow_pos (by decide)))]
 omega
theorem db_mod (x b q:Int):(x*b%q+x*b%q)%q=2*x*b%q:=by rw[<-Int.add_emod];congr 1;grind
theorem ad_mod (x b q:Int) (hb:0<=b) (hq:b<q):(2*x*b%q+b)%q=(2*x+1)*b%q:=by
 rw[Int.add_emod,Int.emod_emod,<-Int.add_emod];congr 1;grind
end
section
open Go.RowKit
def dgI (n:Int) (i:Nat):Int:=n/18446744073709551616^i%18446744073709551616
theorem Wm (n:Int) (i:Nat):0<=dgI n i/\dgI n i<18446744073709551616:=by unfold dgI;omega
def mxD (a r:Int) (k:Nat):List Nat:=(List.range 4).map fun j=>(dgI (if j<k then r else a) j).toNat
theorem Tg (a r:Int) (k:Nat):(mxD a r k).length=4:=by simp[mxD]
theorem mx_get (a r:Int) (k j:Nat) (h:j<4):(mxD a r k).getD j 0=(dgI (if j<k then r else a) j).toNat:=by simp[mxD,List.getElem?_map,List.getElem?_range h]
theorem mx_at (a r:Int) (k:Nat) (h:k<4):(U64 (mxD a r k))[k]?=some (.int .u64 (dgI a k)):=by
 have h1:=Zp (mxD a r k) k (by rw[Tg];exact h)
 rw[mx_get a r k k h,if_neg (by omega),Int.toNat_of_nonneg (Wm a k).1] at h1
 exact h1
theorem mx_s (a r:Int) (k:Nat) (h:k<4):mxD a r (k+1)=(mxD a r k).set k (dgI r k).toNat:=by
 refine Ue (n:=4) (Tg _ _ _) (by rw[List.length_set,Tg]) fun j hj=>?_
 rw[Wa _ _ _ _ (by rw[Tg];exact h),mx_get _ _ _ _ hj,mx_get _ _ _ _ hj]
 by_cases e:j=k
 ·subst e;rw[if_pos (by omega),if_pos rfl]
 ·rw[if_neg e]
  by_cases e2:j<k
  ·rw[if_pos (by omega),if_pos e2]
  ·rw[if_neg (by omega),if_neg e2]
theorem ln_dg (r:Int):LN r=[.int .u64 (dgI r 0),.int .u64 (dgI r 1),.int .u64 (dgI r 2),.int .u64 (dgI r 3)]:=by
 show [_,_,_,_]=_
 unfold dgI D0 D1 D2 D3
 rw[show (18446744073709551616:Int)^0=1 by rfl,show (18446744073709551616:Int)^1=18446744073709551616 by rfl,show (18446744073709551616:Int)^2=0x100000000000000000000000000000000 by rfl,show (18446744073709551616:Int)^3=0x1000000000000000000000000000000000000000000000000 by rfl,Int.ediv_one]
theorem mx_4 (a r:Int) (k:Nat) (h:4<=k):U64 (mxD a r k)=LN r:=by
 rw[ln_dg]
 have e:mxD a r k=[(dgI r 0).toNat,(dgI r 1).toNat,(dgI r 2).toNat,(dgI r 3).toNat]:=by
  simp[mxD,List.range,List.range.loop,show (0:Nat)<k by omega,show 1<k by omega,show 2<k by omega,show 3<k by omega]
 rw[e]
 simp[U64,Int.toNat_of_nonneg (Wm r _).1]
theorem mx_0 (a r:Int):U64 (mxD a r 0)=LN a:=mx_4 a a 4 (Nat.le_refl _)
theorem dq_s (n:Int) (i:Nat):n/18446744073709551616^(i+1)=n/18446744073709551616^i/18446744073709551616:=by
 rw[Int.pow_succ,Int.ediv_ediv_of_nonneg (Int.le_of_lt (Int.pow_pos (by decide)))]
def bwI (a b:Int) (i:Nat):Int:=a/18446744073709551616^i -b/18446744073709551616^i -(a -b)/18446744073709551616^i
def cyI (a b:Int) (i:Nat):Int:=(a+b)/18446744073709551616^i -a/18446744073709551616^i -b/18446744073709551616^i
theorem bw_s (a b:Int) (i:Nat):(dgI a i -dgI b i -bwI a b i)%18446744073709551616=dgI (a -b) i/\ -((dgI a i -dgI b i -bwI a b i)/18446744073709551616)=bwI a b (i+1):=by
 unfold dgI bwI;rw[dq_s,dq_s,dq_s];omega
theorem cy_s (a b:Int) (i:Nat):(dgI a i+dgI b i+cyI a b i)%18446744073709551616=dgI (a+b) i/\(dgI a i+dgI b i+cyI a b i)/18446744073709551616=cyI a b (i+1):=by
 unfold dgI cyI;rw[dq_s,dq_s,dq_s];omega
theorem bw_0 (a b:Int):bwI a b 0=0:=by simp[bwI]
theorem cy_0 (a b:Int):cyI a b 0=0:=by simp[cyI];omega
theorem bw_bd (a b:Int): ∀i,0<=bwI a b i/\bwI a b i<=1
 | 0=>by rw[bw_0];omega
 | i+1=>by
  have h1:=bw_bd a b i
  have h2:=Wm a i
  have h3:=Wm b i
  rw[<-(bw_s a b i).2];omega
theorem cy_bd (a b:Int): ∀i,0<=cyI a b i/\cyI a b i<=1
 | 0=>by rw[cy_0];omega
 | i+1=>by
  have h1:=cy_bd a b i
  have h2:=Wm a i
  have h3:=Wm b i
  rw[<-(cy_s a b i).2];omega
theorem pls_core (r:Int) (ys:List Nat) (aF:Nat->List Nat) (dF:Nat->Nat) (xF yF cF:Nat->Int) (w:World) (hL:Hid (∀i,(aF i).length=4)) (hX:Hid (∀i,i<4->(U64 (aF i))[i]?=some (.int .u64 (xF i)))) (hY:Hid (∀i,i<4->(U64 ys)[i]?=some (.int .u64 (yF i)))) (hE:Hid (∀i,i<4-> ∀u,(callFunc 83 #[.int .u64 (xF i),.int .u64 (yF i),.int .u64 (cF i)]).run Tryz.prog u= .ok (.value (.tuple #[.int .u64 (dF i:Nat),.int .u64 (cF (i+1))])) u)) (hS:Hid (∀i,i<4->aF (i+1)=(aF i).set i (dF i))) (h4:Hid (U64 (aF 4)=LN r)) (hc0:Hid (cF 0=0)) (rb:Bool) (hrb:Hid ((cF 4==1)=rb)):
 CC 62 #[.agg (U64 (aF 0)).toArray,.agg (U64 ys).toArray] w (.tuple #[NV r,.bool rb]):=by
 go_enter Tryz.func62,Tryz.ntmps62
 go_upto_region 1 with fail
 obtain⟨v0,hC,HB0,K0⟩:=bx3 w (U64 (aF 0)) 24 (U64 (ys)) 24 Lq 24
 rw[hC]
 clear hC
 go_upto_region 1 with fail
 refine rgP K0 HB0 HB0.size [] [] [(0,6,(Go.Value.int Go.IntKind.u64 0))] [] [] [] ?_ ?_
 ·exact oc g_as on
 intro u1 HB1 sz1 K1
 simp only[sQ] at K1⊢
 clear K0 HB0
 go_upto_region 2 with fail
 refine rgP K1 HB1 HB1.size [] [] [(0,8,(Go.Value.int Go.IntKind.i64 0))] [] [] [] ?_ ?_
 ·exact oc g_mv on
 intro u2 HB2 sz2 K2
 simp only[sQ] at K2⊢
 clear K1 HB1
 go_wp2_with fail
 go_loopw [6,8] (fun s6 s8 wr=> ∃(i:Nat),i<=4/\s8= .int .i64 (i:Int)/\s6= .int .u64 (cF i)/\Bw w wr/\CV wr (w.heap.size) (U64 (aF i))/\w.heap.size<wr.heap.size/\CV wr (w.heap.size+1) (U64 (ys))/\w.heap.size+1<wr.heap.size/\CV wr (w.heap.size+1+1) (Lq)/\w.heap.size+1+1<wr.heap.size) (fun _ s8 _=>4 -(intOf s8).toNat)
 case atStart=>exact⟨0,by omega,rfl,by rw[hc0.out],HB2,(K2.cv 0),(K2.lt 0),(K2.cv 1),(K2.lt 1),(K2.cv 2),(K2.lt 2)⟩
 case round=>
  obtain⟨i,hk,rfl,rfl,HBr,C0,lC0,C1,lC1,C2,lC2⟩:=hrel
  clear HB2
  have hnK:=K2.n
  simp at hnK
  by_cases hj:i<4
  ·have hl:decide ((i:Int)<4)=true:=by simp;omega
   have hx:=hX.out i hj
   have hy:=hY.out i hj
   have he:=hE.out i hj
   have hs:=hS.out i hj
   have hal:=hL.out i
   obtain⟨ps,eq⟩: ∃ps,aF i=ps:=⟨_,rfl⟩
   rw[eq] at hx hs hal C0
   obtain⟨x,ex⟩: ∃x,xF i=x:=⟨_,rfl⟩
   rw[ex] at hx he
   obtain⟨y,ey⟩: ∃y,yF i=y:=⟨_,rfl⟩
   rw[ey] at hy he
   obtain⟨c,ec⟩: ∃c,cF i=c:=⟨_,rfl⟩
   rw[ec] at he
   simp only[ec]
   obtain⟨d,ed⟩: ∃d,dF i=d:=⟨_,rfl⟩
   rw[ed] at he hs
   obtain⟨c2,ec2⟩: ∃c,cF (i+1)=c:=⟨_,rfl⟩
   rw[ec2] at he
   have hs:Hid _:=hs
   have he:Hid _:=he
   have ec2:Hid _:=ec2
   clear eq ex ey ec ed
   have K2_1:Bk w.heap.size wr [(true,w.heap.size,U64 (ps)),(false,w.heap.size+1,U64 (ys)),(true,w.heap.size+1+1,Lq)]:=⟨.o lC0 (K2.lo 0) C0<| .c lC1 C1<| .o lC2 (K2.lo 2) C2<|trivial,by simp<;>omega⟩
   go_upto_region 3 with fail
   refine rgP K2_1 HBr HBr.size [] [] [(0,9,.bool true)] [] [] [] ?_ ?_
   ·exact oc (g_bn (fun uZ=>Zc _ _ (i:Int) 4 _ uZ hl)) on
   intro u3 HB3 sz3 K3
   simp only[sQ] at K3⊢
   go_upto_region 4 with fail
   refine rgP K3 HB3 HB3.size [] [] [(0,10,.int .i64 (i:Int)),(1,7,.int .i64 (i:Int))] [] [] [] ?_ ?_
   ·exact oc g_mv<|oc g_as on
   intro u4 HB4 sz4 K4
   simp only[sQ] at K4⊢
   clear K3 HB3
   go_upto_region 5 with fail
   refine rgD K4 HB4 HB4.size [.all 13 (U64 (ps.set i d))] [] [(0,12,.int .i64 (i:Int)),(1,13,.int .i64 (i:Int)),(2,14,.pointer (some ⟨w.heap.size,i,none⟩)),(3,15,.int .u64 (x)),(4,16,.int .i64 (i:Int)),(5,17,.pointer (some ⟨w.heap.size+1,i,none⟩)),(6,18,.int .u64 (y)),(7,19,.int .u64 (c)),(8,20,.tuple #[.int .u64 ((d:Nat)),.int .u64 (c2)]),(9,11,.tuple #[.int .u64 ((d:Nat)),.int .u64 (c2)]),(10,21,.int .u64 ((d:Nat))),(11,22,.int .u64 (c2)),(12,23,.pointer (some ⟨w.heap.size,i,none⟩)),(14,6,.int .u64 (c2))] [(13,3),(14,7)] [(14,6)] [] ?_ ?_
   ·exact oc g_mv<|oc g_mv<|oc (g_ix (fun uZ=>xbN (w.heap.size) i uZ hj))<|oc (g_lw 0 (i) l64 (hx))<|oc g_mv<|oc (g_ix (fun uZ=>xbN (w.heap.size+1) i uZ hj))<|oc (g_lw 1 (i) l64 (hy))<|oc g_mv<|oc (g_ce (fun uZ=>he.out uZ))<|oc g_mv<|oc g_ex<|oc g_ex<|oc (g_ix (fun uZ=>xbN (w.heap.size) i uZ hj))<|oc (g_sw 0 (i) s64 (hx) (Vi _ _ _))<|oc g_as on
   intro u5 HB5 sz5 K5
   simp only[sQ] at K5⊢
   clear K4 HB4
   go_upto_region 6 with fail
   refine rgP K5 HB5 HB5.size [] [] [(0,24,.int .i64 ((i+1:Nat):Int)),(1,8,.int .i64 ((i+1:Nat):Int))] [(1,0)] [(1,8)] [] ?_ ?_
   ·exact oc (g_bn (fun uZ=>Zr _ _ (i:Int) 1 ((i+1:Nat):Int) uZ (by omega) (by omega) (by omega)))<|oc g_mv on
   intro u6 HB6 sz6 K6
   simp only[sQ] at K6⊢
   clear K5 HB5
   go_wp2
   refine⟨⟨i+1,by omega,rfl,by rw[ec2.out],HB6,by rw[hs.out];exact(K6.cv 0),(K6.lt 0),(K6.cv 1),(K6.lt 1),(K6.cv 2),(K6.lt 2)⟩,?_⟩
   simp[intOf]<;>omega
  ·have hl:decide ((i:Int)<4)=false:=by simp;omega
   have hi8:i=4:=by omega
   subst hi8
   have e8:=h4.out
   rw[e8] at C0
   obtain⟨c4,ec⟩: ∃c,cF 4=c:=⟨_,rfl⟩
   simp only[ec]
   clear e8
   have K2_1:Bk w.heap.size wr [(true,w.heap.size,LN (r)),(false,w.heap.size+1,U64 (ys)),(true,w.heap.size+1+1,Lq)]:=⟨.o lC0 (K2.lo 0) C0<| .c lC1 C1<| .o lC2 (K2.lo 2) C2<|trivial,by simp<;>omega⟩
   go_upto_region 3 with fail
   refine rgP K2_1 HBr HBr.size [] [] [(0,9,.bool false)] [] [] [] ?_ ?_
   ·exact oc (g_bn (fun uZ=>Zc _ _ ((4:Nat):Int) 4 _ uZ hl)) on
   intro u3 HB3 sz3 K3
   simp only[sQ] at K3⊢
   go_upto_region 7 with fail
   refine rgP K3 HB3 HB3.size [.no,.no,.all 3 (LN (r))] [] [(0,25,NV (r)),(1,26,.int .u64 (c4)),(2,27,.bool rb),(4,5,.bool rb)] [] [] [] ?_ ?_
   ·exact oc (g_ld 0 uQ iQ)<|oc g_mv<|oc (g_bn (fun uZ=>eql_u _ _ _ c4 1 rb uZ (by rw[<-ec];exact hrb.out)))<|oc (g_st 2 iQ)<|oc g_as on
   intro u4 HB4 sz4 K4
   simp only[sQ] at K4⊢
   clear K3 HB3
   have c4:=(K4.cv 2).n4
   go_wp2
   refine bodyPost_ret (v:= .tuple #[NV r,.bool rb]) (by simp[results,Tryz.results62,go_sem,c4]) rfl ⟨rfl,HB4⟩
theorem pLess (a b:Int) (w:World) (ha:In a) (hb:In b):CC 62 #[NV a,NV b] w (.tuple #[NV (a -b),.bool (decide (a<b))]):=by
 have H:=pls_core (a -b) (mxD b b 4) (mxD a (a -b)) (fun i=>(dgI (a -b) i).toNat) (dgI a) (dgI b) (bwI a b) w (fun i=>Tg _ _ _) (fun i hi=>mx_at _ _ _ hi) (fun i hi=>?_) (fun i hi u=>?_) (fun i hi=>mx_s _ _ _ hi) (mx_4 _ _ 4 (by omega)) (bw_0 a b) (decide (a<b)) ?_
 ·rw[mx_0,mx_4 _ _ 4 (by omega)] at H;exact H
 ·have h:=mx_at b b i hi
  rw[show mxD b b i=mxD b b 4 by unfold mxD;simp] at h;exact h
 ·have h1:=Wm a i
  have h2:=Wm b i
  have h3:=bw_bd a b i
  have h4:=bw_s a b i
  rw[sub64L _ _ _ h1.1 h1.2 h2.1 h2.2 h3.1 h3.2,h4.1,h4.2,Int.toNat_of_nonneg (Wm _ _).1]
 ·show (bwI a b 4==1)=_
  unfold bwI
  rw[show (18446744073709551616:Int)^4=0x10000000000000000000000000000000000000000000000000000000000000000 by rfl]
  unfold In at ha hb
  rw[Bool.eq_iff_iff];simp;omega
theorem Xg:EnT 62:=fun _ _=>by kernel_rfl
theorem psm_core (q z s r:Int) (ys:List Nat) (aF:Nat->List Nat) (dF:Nat->Nat) (xF yF cF:Nat->Int) (w:World) (hL:Hid (∀i,(aF i).length=4)) (hX:Hid (∀i,i<4->(U64 (aF i))[i]?=some (.int .u64 (xF i)))) (hY:Hid (∀i,i<4->(U64 ys)[i]?=some (.int .u64 (yF i)))) (hE:Hid (∀i,i<4-> ∀u,(callFunc 73 #[.int .u64 (xF i),.int .u64 (yF i),.int .u64 (cF i)]).run Tryz.prog u= .ok (.value (.tuple #[.int .u64 (dF i:Nat),.int .u64 (cF (i+1))])) u)) (hS:Hid (∀i,i<4->aF (i+1)=(aF i).set i (dF i))) (h4:Hid (U64 (aF 4)=LN r)) (hc0:Hid (cF 0=0)) (lt:Bool) (hM:Hid (∀u,CC 62 #[NV r,NV q] u (.tuple #[NV z,.bool lt]))) (hR:Hid (s=if lt then r else z)):
 CC 51 #[NV q,.agg (U64 (aF 0)).toArray,.agg (U64 ys).toArray] w (NV s):=by
 go_enter Tryz.func51,Tryz.ntmps51
 go_upto_region 1 with fail
 obtain⟨v0,hC,HB0,K0⟩:=bx4 w (LN (q)) 24 (U64 (aF 0)) 24 (U64 (ys)) 24 Lq 24
 rw[hC]
 clear hC
 go_upto_region 1 with fail
 refine rgP K0 HB0 HB0.size [] [] [(0,7,(Go.Value.int Go.IntKind.u64 0))] [] [] [] ?_ ?_
 ·exact oc g_as on
 intro u1 HB1 sz1 K1
 simp only[sQ] at K1⊢
 clear K0 HB0
 go_upto_region 2 with fail
 refine rgP K1 HB1 HB1.size [] [] [(0,11,(Go.Value.int Go.IntKind.i64 0))] [] [] [] ?_ ?_
 ·exact oc g_mv on
 intro u2 HB2 sz2 K2
 simp only[sQ] at K2⊢
 clear K1 HB1
 go_wp2_with fail
 go_loopw [7,11] (fun s7 s11 wr=> ∃(i:Nat),i<=4/\s11= .int .i64 (i:Int)/\s7= .int .u64 (cF i)/\Bw w wr/\CV wr (w.heap.size) (LN (q))/\w.heap.size<wr.heap.size/\CV wr (w.heap.size+1) (U64 (aF i))/\w.heap.size+1<wr.heap.size/\CV wr (w.heap.size+1+1) (U64 (ys))/\w.heap.size+1+1<wr.heap.size/\CV wr (w.heap.size+1+1+1) (Lq)/\w.heap.size+1+1+1<wr.heap.size) (fun _ s11 _=>4 -(intOf s11).toNat)
 case atStart=>exact⟨0,by omega,rfl,by rw[hc0.out],HB2,(K2.cv 0),(K2.lt 0),(K2.cv 1),(K2.lt 1),(K2.cv 2),(K2.lt 2),(K2.cv 3),(K2.lt 3)⟩
 case round=>
  obtain⟨i,hk,rfl,rfl,HBr,C0,lC0,C1,lC1,C2,lC2,C3,lC3⟩:=hrel
  clear HB2
  have hnK:=K2.n
  simp at hnK
  by_cases hj:i<4
  ·have hl:decide ((i:Int)<4)=true:=by simp;omega
   have hx:=hX.out i hj
   have hy:=hY.out i hj
   have he:=hE.out i hj
   have hs:=hS.out i hj
   have hal:=hL.out i
   obtain⟨ps,eq⟩: ∃ps,aF i=ps:=⟨_,rfl⟩
   rw[eq] at hx hs hal C1
   obtain⟨x,ex⟩: ∃x,xF i=x:=⟨_,rfl⟩
   rw[ex] at hx he
   obtain⟨y,ey⟩: ∃y,yF i=y:=⟨_,rfl⟩
   rw[ey] at hy he
   obtain⟨c,ec⟩: ∃c,cF i=c:=⟨_,rfl⟩
   rw[ec] at he
   simp only[ec]
   obtain⟨d,ed⟩: ∃d,dF i=d:=⟨_,rfl⟩
   rw[ed] at he hs
   obtain⟨c2,ec2⟩: ∃c,cF (i+1)=c:=⟨_,rfl⟩
   rw[ec2] at he
   have hs:Hid _:=hs
   have he:Hid _:=he
   have ec2:Hid _:=ec2
   clear eq ex ey ec ed
   have K2_1:Bk w.heap.size wr [(false,w.heap.size,LN (q)),(true,w.heap.size+1,U64 (ps)),(false,w.heap.size+1+1,U64 (ys)),(true,w.heap.size+1+1+1,Lq)]:=⟨.c lC0 C0<| .o lC1 (K2.lo 1) C1<| .c lC2 C2<| .o lC3 (K2.lo 3) C3<|trivial,by simp<;>omega⟩
   go_upto_region 3 with fail
   refine rgP K2_1 HBr HBr.size [] [] [(0,12,.bool true)] [] [] [] ?_ ?_
   ·exact oc (g_bn (fun uZ=>Zc _ _ (i:Int) 4 _ uZ hl)) on
   intro u3 HB3 sz3 K3
   simp only[sQ] at K3⊢
   go_upto_region 4 with fail
   refine rgP K3 HB3 HB3.size [] [] [(0,13,.int .i64 (i:Int)),(1,8,.int .i64 (i:Int))] [] [] [] ?_ ?_
   ·exact oc g_mv<|oc g_as on
   intro u4 HB4 sz4 K4
   simp only[sQ] at K4⊢
   clear K3 HB3
   go_upto_region 5 with fail
   refine rgD K4 HB4 HB4.size [.no,.all 13 (U64 (ps.set i d))] [] [(0,15,.int .i64 (i:Int)),(1,16,.int .i64 (i:Int)),(2,17,.pointer (some ⟨w.heap.size+1,i,none⟩)),(3,18,.int .u64 (x)),(4,19,.int .i64 (i:Int)),(5,20,.pointer (some ⟨w.heap.size+1+1,i,none⟩)),(6,21,.int .u64 (y)),(7,22,.int .u64 (c)),(8,23,.tuple #[.int .u64 ((d:Nat)),.int .u64 (c2)]),(9,14,.tuple #[.int .u64 ((d:Nat)),.int .u64 (c2)]),(10,24,.int .u64 ((d:Nat))),(11,25,.int .u64 (c2)),(12,26,.pointer (some ⟨w.heap.size+1,i,none⟩)),(14,7,.int .u64 (c2))] [(13,3),(14,7)] [(14,7)] [] ?_ ?_
   ·exact oc g_mv<|oc g_mv<|oc (g_ix (fun uZ=>xbN (w.heap.size+1) i uZ hj))<|oc (g_lw 1 (i) l64 (hx))<|oc g_mv<|oc (g_ix (fun uZ=>xbN (w.heap.size+1+1) i uZ hj))<|oc (g_lw 2 (i) l64 (hy))<|oc g_mv<|oc (g_ce (fun uZ=>he.out uZ))<|oc g_mv<|oc g_ex<|oc g_ex<|oc (g_ix (fun uZ=>xbN (w.heap.size+1) i uZ hj))<|oc (g_sw 1 (i) s64 (hx) (Vi _ _ _))<|oc g_as on
   intro u5 HB5 sz5 K5
   simp only[sQ] at K5⊢
   clear K4 HB4
   go_upto_region 6 with fail
   refine rgP K5 HB5 HB5.size [] [] [(0,27,.int .i64 ((i+1:Nat):Int)),(1,11,.int .i64 ((i+1:Nat):Int))] [(1,0)] [(1,11)] [] ?_ ?_
   ·exact oc (g_bn (fun uZ=>Zr _ _ (i:Int) 1 ((i+1:Nat):Int) uZ (by omega) (by omega) (by omega)))<|oc g_mv on
   intro u6 HB6 sz6 K6
   simp only[sQ] at K6⊢
   clear K5 HB5
   go_wp2
   refine⟨⟨i+1,by omega,rfl,by rw[ec2.out],HB6,(K6.cv 0),(K6.lt 0),by rw[hs.out];exact(K6.cv 1),(K6.lt 1),(K6.cv 2),(K6.lt 2),(K6.cv 3),(K6.lt 3)⟩,?_⟩
   simp[intOf]<;>omega
  ·have hl:decide ((i:Int)<4)=false:=by simp;omega
   have hi8:i=4:=by omega
   subst hi8
   have e8:=h4.out
   rw[e8] at C1
   obtain⟨c4,ec⟩: ∃c,cF 4=c:=⟨_,rfl⟩
   simp only[ec]
   clear e8
   have K2_1:Bk w.heap.size wr [(false,w.heap.size,LN (q)),(true,w.heap.size+1,LN (r)),(false,w.heap.size+1+1,U64 (ys)),(true,w.heap.size+1+1+1,Lq)]:=⟨.c lC0 C0<| .o lC1 (K2.lo 1) C1<| .c lC2 C2<| .o lC3 (K2.lo 3) C3<|trivial,by simp<;>omega⟩
   go_upto_region 3 with fail
   refine rgP K2_1 HBr HBr.size [] [] [(0,12,.bool false)] [] [] [] ?_ ?_
   ·exact oc (g_bn (fun uZ=>Zc _ _ ((4:Nat):Int) 4 _ uZ hl)) on
   intro u3 HB3 sz3 K3
   simp only[sQ] at K3⊢
   go_upto_region 7 with fail
   refine rgP K3 HB3 HB3.size [] [(6,9,Lq,some (7,LN (z)))] [(0,29,NV (r)),(1,30,NV (q)),(2,31,.tuple #[NV (z),.bool lt]),(3,28,.tuple #[NV (z),.bool lt]),(4,32,NV (z)),(5,33,.bool lt),(8,10,.bool lt)] [(7,6)] [] [] ?_ ?_
   ·exact oc (g_ld 1 uQ iQ)<|oc (g_ld 0 uQ iQ)<|oc (g_cl Xg (fun uZ=>hM.out uZ))<|oc g_mv<|oc g_ex<|oc g_ex<|oc (g_al 0 aQ)<|oc (g_sn 0 iQ)<|oc g_as on
   intro u4 b4_6 HB4 sz4 K4
   simp only[sQ] at K4⊢
   clear K3 HB3
   cases lt
   ·skip
    go_upto_region 8 with fail
    refine rgP K4 HB4 HB4.size [] [] [(0,34,.bool false),(1,35,.bool true)] [] [] [] ?_ ?_
    ·exact oc g_mv<|oc (g_un (fun uZ=>not_f uZ)) on
    intro u5 HB5 sz5 K5
    simp only[sQ] at K5⊢
    clear K4 HB4
    go_upto_region 9 with fail
    refine rgP K5 HB5 HB5.size [.no,.no,.no,.all 1 (LN (z))] [] [(0,36,NV (z))] [] [] [] ?_ ?_
    ·exact oc (g_ld 4 uQ iQ)<|oc (g_st 3 iQ) on
    intro u6 HB6 sz6 K6
    simp only[sQ] at K6⊢
    clear K5 HB5
    have c6:=(K6.cv 3).n4
    go_wp2
    refine bodyPost_ret (v:=NV z) (by simp[results,Tryz.results51,go_sem,c6]) rfl ⟨by rw[hR.out];rfl,HB6⟩
   ·skip
    go_upto_region 8 with fail
    refine rgP K4 HB4 HB4.size [] [] [(0,34,.bool true),(1,35,.bool false)] [] [] [] ?_ ?_
    ·exact oc g_mv<|oc (g_un (fun uZ=>not_t uZ)) on
    intro u5 HB5 sz5 K5
    simp only[sQ] at K5⊢
    clear K4 HB4
    go_upto_region 10 with fail
    refine rgP K5 HB5 HB5.size [.no,.no,.no,.all 1 (LN (r))] [] [(0,37,NV (r))] [] [] [] ?_ ?_
    ·exact oc (g_ld 1 uQ iQ)<|oc (g_st 3 iQ) on
    intro u6 HB6 sz6 K6
    simp only[sQ] at K6⊢
    clear K5 HB5
    have c6:=(K6.cv 3).n4
    go_wp2
    refine bodyPost_ret (v:=NV r) (by simp[results,Tryz.results51,go_sem,c6]) rfl ⟨by rw[hR.out];rfl,HB6⟩
theorem pSum (q a b:Int) (w:World) (hq:In q) (ha:0<=a) (h1:a<q) (hb:0<=b) (h2:b<q) (h3:In (q+q)):CC 51 #[NV q,NV a,NV b] w (NV ((a+b)%q)):=by
 have H:=psm_core q (a+b -q) ((a+b)%q) (a+b) (mxD b b 4) (mxD a (a+b)) (fun i=>(dgI (a+b) i).toNat) (dgI a) (dgI b) (cyI a b) w (fun i=>Tg _ _ _) (fun i hi=>mx_at _ _ _ hi) (fun i hi=>?_) (fun i hi u=>?_) (fun i hi=>mx_s _ _ _ hi) (mx_4 _ _ 4 (by omega)) (cy_0 a b) (decide (a+b<q)) (fun u=>pLess (a+b) q u ⟨by omega,by have:=h3.2;omega⟩ hq) ?_
 ·rw[mx_0,mx_4 _ _ 4 (by omega)] at H;exact H
 ·have h:=mx_at b b i hi
  rw[show mxD b b i=mxD b b 4 by unfold mxD;simp] at h;exact h
 ·have k1:=Wm a i
  have k2:=Wm b i
  have k3:=cy_bd a b i
  have k4:=cy_s a b i
  rw[add64L _ _ _ k1.1 k2.1 k3.1 k3.2,k4.1,k4.2,Int.toNat_of_nonneg (Wm _ _).1]
 ·show _=_
  by_cases h:a+b<q
  ·rw[decide_eq_true h,if_pos rfl];exact Int.emod_eq_of_lt (by omega) h
  ·rw[decide_eq_false h,if_neg (by decide),<-Int.sub_emod_right];exact Int.emod_eq_of_lt (by omega) (by omega)
theorem Ww:EnT 51:=fun _ _=>by kernel_rfl
theorem and1u (p q:Operand) (a:Nat) (w:World) (h:a<18446744073709551616):(do eqGuard .and 22 p q (.int .u64 a) (.int .u64 1);binOp .and 22 (.int .u64 a) (.int .u64 1):Sem Value).run Tryz.prog w= .ok (.int .u64 ((a%2:Nat):Int)) w:=by
 rw[<-Nat.and_one_is_mod,<-bit_and64 a 1 h (by decide)];go_simp
theorem bd1P (w:World):(Instr.build 24 [(0,.int .u64 1)].toArray).run Tryz.prog w= .ok (NV 1) w:=by kernel_rfl
theorem ppr_core (q b:Int) (xs:List Nat) (oF mF:Nat->Int) (bt:Nat->Bool) (w:World) (hxl:xs.length=4) (hxs:Hid (∀i,xs.getD i 0<18446744073709551616)) (h0:Hid (oF 0=0))(hD:Hid (∀j,j<256-> ∀u,CC 51 #[NV q,NV (oF j),NV (oF j)] u (NV (mF j))))(hA:Hid (∀j,j<256->bt j=true-> ∀u,CC 51 #[NV q,NV (mF j),NV b] u (NV (oF (j+1)))))(hN:Hid (∀j,j<256->bt j=false->oF (j+1)=mF j))(hB:Hid (∀i,i<4-> ∀k,k<64->((((xs.getD (3 -i) 0>>>(63 -k))%2:Nat):Int)==1)=bt (64*i+k))):
 CC 53 #[NV q,.agg (U64 xs).toArray,NV b] w (NV (oF (64*4))):=by
 go_enter Tryz.func53,Tryz.ntmps53
 go_upto_region 1 with fail
 obtain⟨v0,hC,HB0,K0⟩:=bx4 w (LN (q)) 24 (U64 (xs)) 24 (LN (b)) 24 L0s 24
 rw[hC]
 clear hC
 go_upto_region 1 with fail
 refine rgP K0 HB0 HB0.size [] [(0,7,L0s,none)] [] [] [] [] ?_ ?_
 ·exact oc (g_al 0 aN) on
 intro u1 b1_0 HB1 sz1 K1
 simp only[sQ] at K1⊢
 clear K0 HB0
 go_upto_region 2 with fail
 refine rgP K1 HB1 HB1.size [] [] [(0,11,(Go.Value.int Go.IntKind.i64 0))] [] [] [] ?_ ?_
 ·exact oc g_mv on
 intro u2 HB2 sz2 K2
 simp only[sQ] at K2⊢
 clear K1 HB1
 go_wp2_with fail
 go_loopw [11] (fun s11 wr=> ∃(i:Nat),i<=4/\s11= .int .i64 (i:Int)/\Bw w wr/\CV wr (w.heap.size) (LN (q))/\w.heap.size<wr.heap.size/\CV wr (w.heap.size+1) (U64 (xs))/\w.heap.size+1<wr.heap.size/\CV wr (w.heap.size+1+1) (LN (b))/\w.heap.size+1+1<wr.heap.size/\CV wr (w.heap.size+1+1+1) (L0s)/\w.heap.size+1+1+1<wr.heap.size/\CV wr (b1_0) (LN (oF (64*i)))/\b1_0<wr.heap.size) (fun s11 _=>4 -(intOf s11).toNat)
 case atStart=>exact⟨0,by omega,rfl,HB2,(K2.cv 0),(K2.lt 0),(K2.cv 1),(K2.lt 1),(K2.cv 2),(K2.lt 2),(K2.cv 3),(K2.lt 3),by rw[h0.out];exact(K2.cv 4),(K2.lt 4)⟩
 case round=>
  obtain⟨i,hk,rfl,HBr,C0,lC0,C1,lC1,C2,lC2,C3,lC3,C4,lC4⟩:=hrel
  clear HB2
  have hnK:=K2.n
  simp at hnK
  have hoK4:=K2.lo 4
  by_cases hj:i<4
  ·have hl:decide ((i:Int)<4)=true:=by simp;omega
   have hx:=hxs.out (3 -i)
   have hgx:=Zp xs (3 -i) (by omega)
   have hb:=hB.out i hj
   obtain⟨x,ex⟩: ∃x,xs.getD (3 -i) 0=x:=⟨_,rfl⟩
   rw[ex] at hx hgx hb
   have hb:Hid _:=hb
   clear ex
   have K2_1:Bk w.heap.size wr [(false,w.heap.size,LN (q)),(false,w.heap.size+1,U64 (xs)),(false,w.heap.size+1+1,LN (b)),(true,w.heap.size+1+1+1,L0s),(true,b1_0,LN (oF (64*i)))]:=⟨.c lC0 C0<| .c lC1 C1<| .c lC2 C2<| .o lC3 (K2.lo 3) C3<| .o lC4 (K2.lo 4) C4<|trivial,by simp<;>omega⟩
   go_upto_region 3 with fail
   refine rgP K2_1 HBr HBr.size [] [] [(0,12,.bool true)] [] [] [] ?_ ?_
   ·exact oc (g_bn (fun uZ=>Zc _ _ (i:Int) 4 _ uZ hl)) on
   intro u3 HB3 sz3 K3
   simp only[sQ] at K3⊢
   go_upto_region 4 with fail
   refine rgP K3 HB3 HB3.size [] [] [(0,13,.int .i64 (i:Int)),(1,8,.int .i64 (i:Int))] [] [] [] ?_ ?_
   ·exact oc g_mv<|oc g_as on
   intro u4 HB4 sz4 K4
   simp only[sQ] at K4⊢
   clear K3 HB3
   go_upto_region 5 with fail
   refine rgP K4 HB4 HB4.size [] [] [(0,14,.int .i64 (i:Int)),(1,15,.int .i64 ((3 -i:Nat):Int)),(2,16,.pointer (some ⟨w.heap.size+1,3 -i,none⟩)),(3,17,.int .u64 ((x:Nat):Int)),(4,9,.int .u64 ((x:Nat):Int))] [] [] [] ?_ ?_
   ·exact oc g_mv<|oc (g_bn (fun uZ=>Yi _ _ 3 (i:Int) ((3 -i:Nat):Int) uZ (by omega) (by omega) (by omega)))<|oc (g_ix (fun uZ=>xbN (w.heap.size+1) (3 -i) uZ (by omega)))<|oc (g_lw 1 (3 -i) l64 (hgx))<|oc g_as on
   intro u5 HB5 sz5 K5
   simp only[sQ] at K5⊢
   clear K4 HB4
   go_upto_region 6 with fail
   refine rgP K5 HB5 HB5.size [] [] [(0,18,(Go.Value.int Go.IntKind.i64 0))] [] [] [] ?_ ?_
   ·exact oc g_mv on
   intro u6 HB6 sz6 K6
   simp only[sQ] at K6⊢
   clear K5 HB5
   go_wp2_with fail
   go_loopw [18] (fun s18 wr=> ∃(k:Nat),k<=64/\s18= .int .i64 (k:Int)/\Bw w wr/\CV wr (w.heap.size) (LN (q))/\w.heap.size<wr.heap.size/\CV wr (w.heap.size+1) (U64 (xs))/\w.heap.size+1<wr.heap.size/\CV wr (w.heap.size+1+1) (LN (b))/\w.heap.size+1+1<wr.heap.size/\CV wr (w.heap.size+1+1+1) (L0s)/\w.heap.size+1+1+1<wr.heap.size/\CV wr (b1_0) (LN (oF (64*i+k)))/\b1_0<wr.heap.size) (fun s18 _=>64 -(intOf s18).toNat)
   case atStart=>exact⟨0,by omega,rfl,HB6,(K6.cv 0),(K6.lt 0),(K6.cv 1),(K6.lt 1),(K6.cv 2),(K6.lt 2),(K6.cv 3),(K6.lt 3),(K6.cv 4),(K6.lt 4)⟩
   case round=>
    obtain⟨k,hk2,rfl,HBx,X0,lX0,X1,lX1,X2,lX2,X3,lX3,X4,lX4⟩:=hrel
    clear HB6
    have hnK:=K6.n
    simp at hnK
    have hoK4:=K6.lo 4
    by_cases hj2:k<64
    ·have hl2:decide ((k:Int)<64)=true:=by simp;omega
     have hd:=hD.out (64*i+k) (by omega)
     have ha:=hA.out (64*i+k) (by omega)
     have hn:=hN.out (64*i+k) (by omega)
     have hbk:=hb.out k hj2
     obtain⟨m,em⟩: ∃m,mF (64*i+k)=m:=⟨_,rfl⟩
     rw[em] at hd ha hn
     obtain⟨o,eo⟩: ∃o,oF (64*i+k)=o:=⟨_,rfl⟩
     rw[eo] at hd X4
     obtain⟨o2,eo2⟩: ∃o,oF (64*i+(k+1))=o:=⟨_,rfl⟩
     rw[show 64*i+k+1=64*i+(k+1) by omega,eo2] at ha hn
     obtain⟨t,et⟩: ∃t,bt (64*i+k)=t:=⟨_,rfl⟩
     rw[et] at ha hn hbk
     have hs64:x>>>(63 -k)<18446744073709551616:=Nat.lt_of_le_of_lt (Nat.shiftRight_le x _) hx
     have hd:Hid _:=hd
     have eo2:Hid _:=eo2
     have ha:Hid _:=ha
     have hn:Hid _:=hn
     clear em eo et
     have K6_2:Bk w.heap.size wr [(false,w.heap.size,LN (q)),(false,w.heap.size+1,U64 (xs)),(false,w.heap.size+1+1,LN (b)),(true,w.heap.size+1+1+1,L0s),(true,b1_0,LN (o))]:=⟨.c lX0 X0<| .c lX1 X1<| .c lX2 X2<| .o lX3 (K6.lo 3) X3<| .o lX4 (K6.lo 4) X4<|trivial,by simp<;>omega⟩
     go_upto_region 7 with fail
     refine rgP K6_2 HBx HBx.size [] [] [(0,19,.bool true)] [] [] [] ?_ ?_
     ·exact oc (g_bn (fun uZ=>Zc _ _ (k:Int) 64 _ uZ hl2)) on
     intro u7 HB7 sz7 K7
     simp only[sQ] at K7⊢
     go_upto_region 8 with fail
     refine rgP K7 HB7 HB7.size [] [] [(0,20,.int .i64 (k:Int)),(1,10,.int .i64 (k:Int))] [] [] [] ?_ ?_
     ·exact oc g_mv<|oc g_as on
     intro u8 HB8 sz8 K8
     simp only[sQ] at K8⊢
     clear K7 HB7
     go_upto_region 9 with fail
     refine rgP K8 HB8 HB8.size [.no,.no,.no,.no,.all 4 (LN (m))] [] [(0,21,NV (q)),(1,22,NV (o)),(2,23,NV (o)),(3,24,NV (m))] [(4,1),(4,2)] [] [] ?_ ?_
     ·exact oc (g_ld 0 uN iN)<|oc (g_ld 4 uN iN)<|oc (g_ld 4 uN iN)<|oc (g_cl Ww (fun uZ=>hd.out uZ))<|oc (g_st 4 iN) on
     intro u9 HB9 sz9 K9
     simp only[sQ] at K9⊢
     clear K8 HB8
     go_upto_region 10 with fail
     refine rgP K9 HB9 HB9.size [] [] [(0,25,.int .u64 ((x:Nat):Int)),(1,26,.int .i64 (k:Int)),(2,27,.int .i64 ((63 -k:Nat):Int)),(3,28,.int .u64 ((x>>>(63 -k):Nat):Int)),(4,29,.int .u64 ((x>>>(63 -k)%2:Nat):Int)),(5,30,.bool t)] [] [] [] ?_ ?_
     ·exact oc g_mv<|oc g_mv<|oc (g_bn (fun uZ=>Yi _ _ 63 (k:Int) ((63 -k:Nat):Int) uZ (by omega) (by omega) (by omega)))<|oc (g_bn (fun uZ=>shr64i _ _ x (63 -k) uZ (by omega)))<|oc (g_bn (fun uZ=>and1u _ _ (x>>>(63 -k)) uZ hs64))<|oc (g_bn (fun uZ=>eql_u _ _ _ ((x>>>(63 -k)%2:Nat):Int) 1 t uZ hbk)) on
     intro u10 HB10 sz10 K10
     simp only[sQ] at K10⊢
     clear K9 HB9
     cases t
     case' true=>
      go_upto_region 11 with fail
      refine rgP K10 HB10 HB10.size [.no,.no,.no,.no,.all 4 (LN (o2))] [] [(0,31,NV (q)),(1,32,NV (m)),(2,33,NV (b)),(3,34,NV (o2))] [(4,1)] [] [] ?_ ?_
      ·exact oc (g_ld 0 uN iN)<|oc (g_ld 4 uN iN)<|oc (g_ld 2 uN iN)<|oc (g_cl Ww (fun uZ=>ha.out rfl uZ))<|oc (g_st 4 iN) on
      intro u11 HB11 sz11 K11
      simp only[sQ] at K11⊢
      clear K10 HB10
      go_upto_region 12 with fail
      refine rgP K11 HB11 HB11.size [] [] [(0,35,.int .i64 ((k+1:Nat):Int)),(1,18,.int .i64 ((k+1:Nat):Int))] [(1,0)] [(1,18)] [] ?_ ?_
      ·exact oc (g_bn (fun uZ=>Zr _ _ (k:Int) 1 ((k+1:Nat):Int) uZ (by omega) (by omega) (by omega)))<|oc g_mv on
      intro u12 HB12 sz12 K12
      simp only[sQ] at K12⊢
      clear K11 HB11
      go_wp2
      refine⟨⟨k+1,by omega,rfl,HB12,(K12.cv 0),(K12.lt 0),(K12.cv 1),(K12.lt 1),(K12.cv 2),(K12.lt 2),(K12.cv 3),(K12.lt 3),by rw[eo2.out];exact(K12.cv 4),(K12.lt 4)⟩,?_⟩
      simp[intOf]<;>omega
     case' false=>
      go_upto_region 12 with fail
      refine rgP K10 HB10 HB10.size [] [] [(0,35,.int .i64 ((k+1:Nat):Int)),(1,18,.int .i64 ((k+1:Nat):Int))] [(1,0)] [(1,18)] [] ?_ ?_
      ·exact oc (g_bn (fun uZ=>Zr _ _ (k:Int) 1 ((k+1:Nat):Int) uZ (by omega) (by omega) (by omega)))<|oc g_mv on
      intro u11 HB11 sz11 K11
      simp only[sQ] at K11⊢
      clear K10 HB10
      go_wp2
      refine⟨⟨k+1,by omega,rfl,HB11,(K11.cv 0),(K11.lt 0),(K11.cv 1),(K11.lt 1),(K11.cv 2),(K11.lt 2),(K11.cv 3),(K11.lt 3),by rw[eo2.out,hn.out rfl];exact(K11.cv 4),(K11.lt 4)⟩,?_⟩
      simp[intOf]<;>omega
    ·have hl2:decide ((k:Int)<64)=false:=by simp;omega
     have hk64:k=64:=by omega
     subst hk64
     have K6_2:Bk w.heap.size wr [(false,w.heap.size,LN (q)),(false,w.heap.size+1,U64 (xs)),(false,w.heap.size+1+1,LN (b)),(true,w.heap.size+1+1+1,L0s),(true,b1_0,LN (oF (64*i+64)))]:=⟨.c lX0 X0<| .c lX1 X1<| .c lX2 X2<| .o lX3 (K6.lo 3) X3<| .o lX4 (K6.lo 4) X4<|trivial,by simp<;>omega⟩
     go_upto_region 7 with fail
     refine rgP K6_2 HBx HBx.size [] [] [(0,19,.bool false)] [] [] [] ?_ ?_
     ·exact oc (g_bn (fun uZ=>Zc _ _ ((64:Nat):Int) 64 _ uZ hl2)) on
     intro u7 HB7 sz7 K7
     simp only[sQ] at K7⊢
     go_upto_region 13 with fail
     refine rgP K7 HB7 HB7.size [] [] [(0,36,.int .i64 ((i+1:Nat):Int)),(1,11,.int .i64 ((i+1:Nat):Int))] [(1,0)] [(1,11)] [] ?_ ?_
     ·exact oc (g_bn (fun uZ=>Zr _ _ (i:Int) 1 ((i+1:Nat):Int) uZ (by omega) (by omega) (by omega)))<|oc g_mv on
     intro u8 HB8 sz8 K8
     simp only[sQ] at K8⊢
     clear K7 HB7
     go_wp2
     refine⟨⟨i+1,by omega,rfl,HB8,(K8.cv 0),(K8.lt 0),(K8.cv 1),(K8.lt 1),(K8.cv 2),(K8.lt 2),(K8.cv 3),(K8.lt 3),by rw[show 64*(i+1)=64*i+64 by omega];exact(K8.cv 4),(K8.lt 4)⟩,?_⟩
     simp[intOf]<;>omega
  ·have hl:decide ((i:Int)<4)=false:=by simp;omega
   have hi8:i=4:=by omega
   subst hi8
   have K2_1:Bk w.heap.size wr [(false,w.heap.size,LN (q)),(false,w.heap.size+1,U64 (xs)),(false,w.heap.size+1+1,LN (b)),(true,w.heap.size+1+1+1,L0s),(true,b1_0,LN (oF (64*4)))]:=⟨.c lC0 C0<| .c lC1 C1<| .c lC2 C2<| .o lC3 (K2.lo 3) C3<| .o lC4 (K2.lo 4) C4<|trivial,by simp<;>omega⟩
   go_upto_region 3 with fail
   refine rgP K2_1 HBr HBr.size [] [] [(0,12,.bool false)] [] [] [] ?_ ?_
   ·exact oc (g_bn (fun uZ=>Zc _ _ ((4:Nat):Int) 4 _ uZ hl)) on
   intro u3 HB3 sz3 K3
   simp only[sQ] at K3⊢
   go_upto_region 14 with fail
   refine rgP K3 HB3 HB3.size [.no,.no,.no,.all 1 (LN (oF (64*4)))] [] [(0,37,NV (oF (64*4)))] [] [] [] ?_ ?_
   ·exact oc (g_ld 4 uN iN)<|oc (g_st 3 iN) on
   intro u4 HB4 sz4 K4
   simp only[sQ] at K4⊢
   clear K3 HB3
   have c6:=(K4.cv 3).n4
   go_wp2
   refine bodyPost_ret (v:=NV (oF (64*4))) (by simp[results,Tryz.results53,go_sem,c6]) rfl ⟨rfl,HB4⟩
theorem dg_bit {a:Int} (ha:In a) {i k:Nat} (hi:i<4) (hk:k<64):(((((mxD a a 4).getD (3 -i) 0>>>(63 -k))%2:Nat):Int))=a/2^(255 -(64*i+k))%2:=by
 rw[mx_get _ _ _ _ (by omega),if_pos (by omega),Nat.shiftRight_eq_div_pow]
 obtain⟨n,rfl⟩:=Int.eq_ofNat_of_zero_le ha.1
 have e1:(dgI (n:Int) (3 -i)).toNat=n/18446744073709551616^(3 -i)%18446744073709551616:=by
  unfold dgI
  have:((n:Int)/18446744073709551616^(3 -i)%18446744073709551616)=((n/18446744073709551616^(3 -i)%18446744073709551616:Nat):Int):=by
   rw[Int.natCast_emod,Int.natCast_ediv,Int.natCast_pow];rfl
  rw[this,Int.toNat_natCast]
 have e2:(n:Int)/2^(255 -(64*i+k))%2=((n/2^(255 -(64*i+k))%2:Nat):Int):=by
  rw[Int.natCast_emod,Int.natCast_ediv,Int.natCast_pow];rfl
 rw[e1,e2,show (18446744073709551616:Nat)=2^64 by rfl,<-Nat.pow_mul]
 congr 1
 obtain⟨c,hc⟩: ∃c,63 -k=c:=⟨_,rfl⟩
 have h1:255 -(64*i+k)=64*(3 -i)+c:=by omega
 rw[h1,hc,Nat.pow_add,<-Nat.div_div_eq_div_mul]
 generalize n/2^(64*(3 -i))=y
 have h2:(2:Nat)^64=2^c*(2*2^k):=by rw[<-Nat.pow_succ',<-Nat.pow_add];congr 1;omega
 rw[h2,Nat.mod_mul_right_div_self,Nat.mod_mul_right_mod]
theorem pProd (q a b:Int) (w:World) (hq:In q) (h3:In (q+q)) (ha:In a) (hb:0<=b) (h2:b<q):CC 53 #[NV q,NV a,NV b] w (NV (a*b%q)):=by
 have hm: ∀x:Int,0<=x%q/\x%q<q:=fun x=>⟨Int.emod_nonneg _ (by omega),Int.emod_lt_of_pos _ (by omega)⟩
 have H:=ppr_core q b (mxD a a 4) (fun j=>tpZ a j*b%q) (fun j=>2*tpZ a j*b%q) (fun j=>a/2^(255 -j)%2==1) w (Tg _ _ _) (fun i=>?_) ?_ (fun j hj u=>?_) (fun j hj h u=>?_) (fun j hj h=>?_) (fun i hi k hk=>?_)
 ·rw[mx_4 _ _ 4 (by omega)] at H
  have e:tpZ a (64*4)=a:=tp_256 a
  simp only[e] at H
  exact H
 ·by_cases h:i<4
  ·rw[mx_get _ _ _ _ h,if_pos h];have:=Wm a i;omega
  ·rw[List.getD_eq_getElem?_getD,List.getElem?_eq_none (by rw[Tg];omega)];decide
 ·show tpZ a 0*b%q=0
  rw[tp_0 ha,Int.zero_mul,Int.zero_emod]
 ·have h:=pSum q (tpZ a j*b%q) (tpZ a j*b%q) u hq (hm _).1 (hm _).2 (hm _).1 (hm _).2 h3
  rw[db_mod] at h;exact h
 ·have h4:=pSum q (2*tpZ a j*b%q) b u hq (hm _).1 (hm _).2 hb h2 h3
  rw[ad_mod _ _ _ hb h2] at h4
  show Calls _ _ _ _ fun e u'=>e= .returned (NV (tpZ a (j+1)*b%q))/\_
  rw[tp_s hj,show a/2^(255 -j)%2=1 from by simpa using h]
  exact h4
 ·show tpZ a (j+1)*b%q=2*tpZ a j*b%q
  have:a/2^(255 -j)%2=0:=by
   have: ¬a/2^(255 -j)%2=1:=by simpa using h
   omega
  rw[tp_s hj,this,Int.add_zero]
 ·rw[dg_bit ha hi hk]
theorem Wl:EnT 53:=fun _ _=>by kernel_rfl
theorem pred_core (q a:Int) (w:World) (hq:In q) (h3:In (q+q)) (ha:In a) (h1:1<q):
 CC 52 #[NV q,NV a] w (NV (a*1%q)):=by
 go_enter Tryz.func52,Tryz.ntmps52
 go_upto_region 1 with fail
 obtain⟨v0,hC,HB0,K0⟩:=bx3 w (LN (q)) 24 (LN (a)) 24 L0s 24
 rw[hC]
 clear hC
 refine rgP K0 HB0 HB0.size [.no,.no,.all 4 (LN (a*1%q))] [] [(0,5,NV (q)),(1,6,NV (a)),(2,7,NV (1)),(3,8,NV (a*1%q))] [] [] [] ?_ ?_
 ·exact oc (g_ld 0 uN iN)<|oc (g_ld 1 uN iN)<|oc (g_bd (fun uZ=>bd1P uZ))<|oc (g_cl Wl (fun uZ=>pProd q a 1 uZ hq h3 ha (by omega) h1))<|oc (g_st 2 iN) on
 intro u1 HB1 sz1 K1
 simp only[sQ] at K1⊢
 clear K0 HB0
 have c4:=(K1.cv 2).n4
 go_wp2
 refine bodyPost_ret (v:=NV (a*1%q)) (by simp[results,Tryz.results52,go_sem,c4]) rfl ⟨rfl,HB1⟩
theorem pRed (q a:Int) (w:World) (hq:In q) (h3:In (q+q)) (ha:In a) (h1:1<q):CC 52 #[NV q,NV a] w (NV (a%q)):=by
 have h:=pred_core q a w hq h3 ha h1
 rw[Int.mul_one] at h;exact h
theorem Wk:EnT 52:=fun _ _=>by kernel_rfl
theorem pneg_core (q a:Int) (lt:Bool) (w:World) (hq:In q) (h3:In (q+q)) (ha:In a) (h1:1<q)(hL:Hid (∀u,CC 62 #[NV q,NV (a%q)] u (.tuple #[NV (q -a%q),.bool lt]))):
 CC 58 #[NV q,NV a] w (NV (q -a%q)):=by
 go_enter Tryz.func58,Tryz.ntmps58
 go_upto_region 1 with fail
 obtain⟨v0,hC,HB0,K0⟩:=bx3 w (LN (q)) 24 (LN (a)) 24 L0s 24
 rw[hC]
 clear hC
 refine rgD K0 HB0 HB0.size [] [(8,5,L0s,some (9,LN (q -a%q)))] [(0,8,NV (q)),(1,9,NV (q)),(2,10,NV (a)),(3,11,NV (a%q)),(4,12,.tuple #[NV (q -a%q),.bool lt]),(5,7,.tuple #[NV (q -a%q),.bool lt]),(6,13,NV (q -a%q)),(7,14,.bool lt),(10,6,.bool lt)] [(9,8)] [] [] ?_ ?_
 ·exact oc (g_ld 0 uN iN)<|oc (g_ld 0 uN iN)<|oc (g_ld 1 uN iN)<|oc (g_cl Wk (fun uZ=>pRed q a uZ hq h3 ha h1))<|oc (g_cl Xg (fun uZ=>hL.out uZ))<|oc g_mv<|oc g_ex<|oc g_ex<|oc (g_al 0 aN)<|oc (g_sn 0 iN)<|oc g_as on
 intro u1 b1_8 HB1 sz1 K1
 simp only[sQ] at K1⊢
 clear K0 HB0
 go_upto_region 2 with fail
 refine rgP K1 HB1 HB1.size [.no,.no,.all 1 (LN (q -a%q))] [] [(0,15,NV (q -a%q))] [] [] [] ?_ ?_
 ·exact oc (g_ld 3 uN iN)<|oc (g_st 2 iN) on
 intro u2 HB2 sz2 K2
 simp only[sQ] at K2⊢
 clear K1 HB1
 have c4:=(K2.cv 2).n4
 go_wp2
 refine bodyPost_ret (v:=NV (q -a%q)) (by simp[results,Tryz.results58,go_sem,c4]) rfl ⟨rfl,HB2⟩
theorem pNeg (q a:Int) (w:World) (hq:In q) (h3:In (q+q)) (ha:In a) (h1:1<q):CC 58 #[NV q,NV a] w (NV (q -a%q)):=
 pneg_core q a _ w hq h3 ha h1 fun u=>pLess q (a%q) u hq ⟨Int.emod_nonneg _ (by omega),Int.lt_trans (Int.emod_lt_of_pos _ (by omega)) hq.2⟩
theorem Ui:EnT 58:=fun _ _=>by kernel_rfl
theorem plin_core (q a c s z:Int) (w:World) (hq:In q) (h3:In (q+q)) (ha:In a) (h1:1<q) (hs:In s) (hc0:0<=c) (hc1:c<q)(hS:Hid (∀u,CC 51 #[NV q,NV (a%q),NV (s*c%q)] u (NV z))):
 CC 28 #[NV q,NV a,NV c,NV s] w (NV z):=by
 go_enter Tryz.func28,Tryz.ntmps28
 go_upto_region 1 with fail
 obtain⟨v0,hC,HB0,K0⟩:=bx5 w (LN (q)) 24 (LN (a)) 24 (LN (c)) 24 (LN (s)) 24 L0s 24
 rw[hC]
 clear hC
 refine rgD K0 HB0 HB0.size [.no,.no,.no,.no,.all 9 (LN (z))] [] [(0,9,NV (q)),(1,10,NV (q)),(2,11,NV (a)),(3,12,NV (a%q)),(4,13,NV (q)),(5,14,NV (s)),(6,15,NV (c)),(7,16,NV (s*c%q)),(8,17,NV (z))] [] [] [] ?_ ?_
 ·exact oc (g_ld 0 uN iN)<|oc (g_ld 0 uN iN)<|oc (g_ld 1 uN iN)<|oc (g_cl Wk (fun uZ=>pRed q a uZ hq h3 ha h1))<|oc (g_ld 0 uN iN)<|oc (g_ld 3 uN iN)<|oc (g_ld 2 uN iN)<|oc (g_cl Wl (fun uZ=>pProd q s c uZ hq h3 hs hc0 hc1))<|oc (g_cl Ww (fun uZ=>hS.out uZ))<|oc (g_st 4 iN) on
 intro u1 HB1 sz1 K1
 simp only[sQ] at K1⊢
 clear K0 HB0
 have c8:=(K1.cv 4).n4
 go_wp2
 refine bodyPost_ret (v:=NV z) (by simp[results,Tryz.results28,go_sem,c8]) rfl ⟨rfl,HB1⟩
theorem pLine (q a c s:Int) (w:World) (hq:In q) (h3:In (q+q)) (ha:In a) (h1:1<q) (hs:In s) (hc0:0<=c) (hc1:c<q):CC 28 #[NV q,NV a,NV c,NV s] w (NV (pvY q a c s)):=by
 have hm: ∀x:Int,0<=x%q/\x%q<q:=fun x=>⟨Int.emod_nonneg _ (by omega),Int.emod_lt_of_pos _ (by omega)⟩
 refine plin_core q a c s _ w hq h3 ha h1 hs hc0 hc1 fun u=>?_
 have h:=pSum q (a%q) (s*c%q) u hq (hm _).1 (hm _).2 (hm _).1 (hm _).2 h3
 rw[<-Int.add_emod,Int.mul_comm s c] at h
 rw[Int.mul_comm s c];exact h
def NL (u:World) (v:Value) (ns:List Int):Prop:= ∃sl gb go cap,v= .slice sl ns.length cap/\ns.length<=cap/\(sl=none->cap=0)/\(ns=[]\/sl=some ⟨gb,go,none⟩)/\(ns.length=0\/gb<u.heap.size)/\SN u gb go ns
theorem NL.up {w u:World} {v:Value} {ns:List Int} (h:NL w v ns) (hB:Bw w u):NL u v ns:=by
 obtain⟨sl,gb,go,cap,h1,h2,h3,h4,h5,h6⟩:=h
 refine⟨sl,gb,go,cap,h1,h2,h3,h4,h5.imp id fun e=>Nat.lt_of_lt_of_le e hB.size,?_⟩
 rcases h5 with h5 | h5
 ·exact SN.empty h5
 ·exact h6.below hB h5
def N2 (a b:Int) (u:World) (v:Value):Prop:=NL u v [a,b]
theorem N2.stab {a b:Int} {u u2:World} {x:Value} (hB:Bw u u2) (h:N2 a b u x):N2 a b u2 x:=NL.up h hB
theorem bsN2 (a b:Int) (w:World):(Instr.buildSlice 28 2 ([0,1].zip [NV a,NV b]).toArray).run Tryz.prog w= .ok (.slice (some ⟨w.heap.size,0,none⟩) 2 2) (w.alloc (.cells (flN [a,b]).toArray 24)):=by kernel_rfl
theorem inN2 (a b:Int) (u:World):N2 a b (u.alloc (.cells (flN [a,b]).toArray 24)) (.slice (some ⟨u.heap.size,0,none⟩) 2 2):=
 ⟨_,u.heap.size,0,2,rfl,by simp,by simp,.inr rfl,.inr (by simp),fun j v hj=>by rw[Nat.zero_add];exact(CV.new u (flN [a,b]) 24 j v hj).1⟩
def N1x (a:Int) (u:World) (v:Value):Prop:=NL u v [a]
theorem N1x.stab {a:Int} {u u2:World} {x:Value} (hB:Bw u u2) (h:N1x a u x):N1x a u2 x:=NL.up h hB
theorem bsNx1 (a:Int) (w:World):(Instr.buildSlice 28 1 ([0].zip [NV a]).toArray).run Tryz.prog w= .ok (.slice (some ⟨w.heap.size,0,none⟩) 1 1) (w.alloc (.cells (flN [a]).toArray 24)):=by kernel_rfl
theorem inNx1 (a:Int) (u:World):N1x a (u.alloc (.cells (flN [a]).toArray 24)) (.slice (some ⟨u.heap.size,0,none⟩) 1 1):=
 ⟨_,u.heap.size,0,1,rfl,by simp,by simp,.inr rfl,.inr (by simp),fun j v hj=>by rw[Nat.zero_add];exact(CV.new u (flN [a]) 24 j v hj).1⟩
section
theorem CV.grow {u u2:World} {r:Option Nat} {c:Nat} {l:List Value} (h:CV u c l) (hg:u.grownBy u2 r) (hc:c<u.heap.size) (hne:some c≠r):CV u2 c l:=fun j v hj=>by
 have e:=hg.block c hc hne
 rw[World.cell?_of_block (a:=⟨c,j,none⟩) e,World.frozen?_of_block (a:=⟨c,j,none⟩) e]
 exact h j v hj
def OR (lo sz m:Nat) (xs:List Value) (b:Nat) (u:World) (v:Value):Prop:=xs.length=m*sz/\((m=0/\v= .slice none 0 0)\/(lo<=b/\ ∃co zs,v= .slice (some ⟨b,0,none⟩) m co/\b<u.heap.size/\m<=co/\zs.length=(co -m)*sz/\CV u b (xs++zs)))
theorem OR.stab {lo sz m b:Nat} {xs:List Value} {u u2:World} {v:Value} (h:OR lo sz m xs b u v) (hB:Bw u u2):OR lo sz m xs b u2 v:=by
 obtain⟨h1,h3⟩:=h
 refine⟨h1,h3.imp id ?_⟩
 rintro⟨h2,co,zs,e,g1,g2,g3,g4⟩
 exact⟨h2,co,zs,e,Nat.lt_of_lt_of_le g1 hB.size,g2,g3,g4.below hB g1⟩
theorem OR.grow {lo sz m c:Nat} {r:Option Nat} {xs:List Value} {u u2:World} {v:Value} (h:OR lo sz m xs c u v) (hg:u.grownBy u2 r) (hne:some c≠r):OR lo sz m xs c u2 v:=by
 obtain⟨h1,h3⟩:=h
 refine⟨h1,h3.imp id ?_⟩
 rintro⟨h2,co,zs,e,g1,g2,g3,g4⟩
 exact⟨h2,co,zs,e,Nat.lt_of_lt_of_le g1 hg.size,g2,g3,g4.grow hg g1 hne⟩
theorem OR.sl {lo sz m b:Nat} {xs:List Value} {u:World} {v:Value} (h:OR lo sz m xs b u v): ∃sl c,v= .slice sl m c:=by
 rcases h.2 with⟨h1,h2⟩ | ⟨_,co,_,h2,_⟩
 ·exact⟨none,0,by rw[h2,h1]⟩
 ·exact⟨_,co,h2⟩
theorem OR.nil (lo sz b:Nat) (u:World):OR lo sz 0 [] b u (.slice none 0 0):=⟨by simp,.inl ⟨rfl,rfl⟩⟩
theorem app_or {u:World} {lo sz bt m b:Nat} {xs news:List Value} {v z:Value} {T E ty:TypeId} (ht:Tryz.prog.underlying T=some (.slice E)) (hi:(Tryz.prog.info? E).map (fun i=>(i.zero,i.size,i.bytes))=some (some z,sz,bt)) (hz:z.cells.size=sz) (hbt:bt<=1000) (h:OR lo sz m xs b u v) (hlo:lo<=u.heap.size) (hl:m<=100000) (hn:news.length=sz) (h1: ∀v∈news,v.oneCell'=true):
 ∃v' u' b',(Builtin.append_ #[T,T] ty #[v,.slice (some ⟨u.heap.size,0,none⟩) 1 1]).run Tryz.prog (u.alloc (.cells news.toArray E))= .ok v' u'/\(u.alloc (.cells news.toArray E)).grownBy u' (some b)/\OR lo sz (m+1) (xs++news) b' u' v'/\(b'=b\/u.heap.size<b')/\(lo<=b\/m=0/\v= .slice none 0 0)/\Below lo u u':=by
 obtain⟨ti,hti,htm⟩:=Option.map_eq_some_iff.1 hi
 simp only[Prod.mk.injEq] at htm
 obtain⟨hzv,hsz,hby⟩:=htm
 have hss:(u.alloc (.cells news.toArray E)).heap.size=u.heap.size+1:=by simp
 have hnew: ∀j v,news[j]?=some v->(u.alloc (.cells news.toArray E)).cell? ⟨u.heap.size,j,none⟩=some v:=fun j v hj=>(CV.new u news E j v hj).1
 have hB0:Bw u (u.alloc (.cells news.toArray E)):=Z2 (Zm u) _
 have hmb:(m+1)*bt<=101000000:=Nat.le_trans (Nat.mul_le_mul (show m+1<=101000 by omega) hbt) (by decide)
 obtain⟨h0,h3⟩:=h
 rcases h3 with⟨rfl,rfl⟩ | ⟨h2,co,zs,rfl,g1,g2,g3,g4⟩
 ·obtain rfl:xs=[]:=List.eq_nil_of_length_eq_zero (by simpa using h0)
  obtain⟨v',w',hr,hB,b',cap,zs,rfl,k1,k2,k3,k4,k5⟩:=V8 (P:=Tryz.prog) (u.alloc (.cells news.toArray E)) (ty:=ty) ht hti hzv (by rw[hsz];exact hz) (lo:=(u.alloc (.cells news.toArray E)).heap.size) (n:=0) (xs:=[]) (news:=news) (v:= .slice .none 0 0) ⟨by simp,.inl ⟨rfl,rfl⟩⟩ (ad:=⟨u.heap.size,0,.none⟩) (c:=1) (by rw[hsz];exact hn) (fun j v hj=>by rw[Addr.add0];exact hnew j v hj) (Nat.le_refl _) (by rw[hby];omega) (by omega)
  rw[hsz] at k4
  exact⟨_,w',b',hr,(U6 hB).but _,⟨by rw[List.nil_append,hn];omega,.inr ⟨by omega,cap,zs,rfl,k2,k3,by rw[k4],k5⟩⟩,.inr (by omega),.inr ⟨rfl,rfl⟩,(Yu hB0 hB).mono hlo⟩
 ·have hc2:CV (u.alloc (.cells news.toArray E)) b (xs++zs):=g4.below hB0 g1
  obtain⟨v',u',hr,hg,b',cap,zs',rfl,k1,k2,k3,k4,k5⟩:=run_app (P:=Tryz.prog) (u.alloc (.cells news.toArray E)) (ty:=ty) ht hti hzv (by rw[hsz];exact hz) (base:=(u.alloc (.cells news.toArray E)).heap.size) (n:=m) (cap:=co) (m:=1) (news:=news) (y:= .slice (some ⟨u.heap.size,0,.none⟩) 1 1) hc2 (by omega) (by rw[hsz];exact h0) (by rw[hsz];exact g3) g2 (Nat.le_refl _) ⟨_,1,rfl,.inr ⟨_,rfl,fun j v hj=>by rw[Addr.add0];exact hnew j v hj⟩⟩ (by rw[hsz,hn,Nat.one_mul]) h1 (by rw[hby];omega) (by omega)
  rw[hsz] at k4
  exact⟨_,u',b',hr,hg,⟨by rw[List.length_append,hn,h0,Nat.add_mul,Nat.one_mul],.inr ⟨by rcases k1 with e | e<;>omega,cap,zs',rfl,k2,k3,k4,k5⟩⟩,k1.imp id (fun e=>by omega),.inl h2,(hB0.mono hlo).grown hg (by omega) (fun k e=>by cases e;exact h2)⟩
theorem OR.nl {lo m b:Nat} {ns:List Int} {u:World} {v:Value} (h:OR lo 4 m (flN ns) b u v):NL u v ns:=by
 obtain⟨h1,h3⟩:=h
 rw[flN_len] at h1
 rcases h3 with⟨h0,rfl⟩ | ⟨h2,co,zs,rfl,g1,g2,g3,g4⟩
 ·obtain rfl:ns=[]:=List.eq_nil_of_length_eq_zero (by omega)
  exact⟨none,0,0,0,rfl,Nat.le_refl _,fun _=>rfl,.inl rfl,.inl rfl,SN.empty rfl⟩
 ·obtain rfl:ns.length=m:=by omega
  exact⟨_,b,0,co,rfl,g2,(by simp),.inr rfl,.inr g1,fun j v hj=>by
   rw[Nat.zero_add]
   exact(g4 j v (by rw[List.getElem?_append_left (List.getElem?_eq_some_iff.1 hj).1];exact hj)).1⟩
section
variable {R:Rg} {P:Program} {ops:Array Oper} {Q:Exit->Act->World->Prop} {f:Nat->Bool} {t:Nat->Value} {u:World} {a:Act} {i:Nat} {o:Oper}
theorem g_aW (m n:Nat) (p p':World->Value->Prop) {T:TypeId} {j d:Nat} {y:Operand} {vy:Value} (h: ∀u x,Below R.lo R.w u->R.base<=u.heap.size->p u x-> ∃v u',(Builtin.append_ #[T,T] o.type #[x,vy]).run P u= .ok v u'/\Bw u u'/\p' u' v) (hop:o.op= .call {callee:= .builtin .append,args:=[.tmp d,y].toArray,argTypes:=[T,T].toArray}:=by rfl) (hy:evR R i o y=some vy:=by rfl) (hm:R.E[m]?=some ⟨j,d,some i,p⟩:=by rfl) (hd:(Y1 o j&&R.S.contains d)=true:=by rfl) (hn:(R.E[n]?).map (·.p)=some p':=by rfl) (hc:R.chkE ops n i o=true:=by rfl):OG R P ops Q i o:=fun f t u a X=>by
 rw[Bool.and_eq_true,List.contains_iff_mem] at hd
 obtain⟨h2,h4⟩:=hd
 obtain⟨d',q,hd',hq,_,_,_,_,_,_,_,_,hw⟩:=Zl hc
 obtain⟨v,u',hr,hB,hp⟩:=h u (t d) X.I.1.bel X.I.1.sz (X.val hm h2 rfl)
 exact X.go hw fun K hK=>U7 hop (X.inS h4) (X.ev hy) hr (hK _ _ (X.putE hc (fun q hq=>by rw[hq] at hn;cases hn;exact hp) hB))
end
end
theorem nlIx {sl:Option Addr} {gb go cap:Nat} {ns:List Int} (h:ns=[]\/sl=some ⟨gb,go,none⟩): ∀j,j<ns.length-> ∀W,(Instr.indexAt 28 (.slice sl ns.length cap) (.int .i64 j)).run Tryz.prog W= .ok (.pointer (some ⟨gb,go+4*j,none⟩)) W:=fun j hj W=>by
 obtain rfl:=h.resolve_left (fun e=>by subst e;simp at hj)
 exact ixS gb go ns.length cap j hj W
theorem getDIn {ns:List Int} (h: ∀z∈ns,In z): ∀k,k<ns.length->In (ns.getD k 0):=fun k hk=>h _ (by simp[List.getElem?_eq_getElem hk])
theorem Hid.onD {p:Prop} (h:p):Hid p:=h
theorem pbel_core (q:Int) (sl:Option Addr) (gb go cap:Nat) (ns:List Int) (w:World) (hq:In q) (hix:Hid (∀j,j<ns.length-> ∀W,(Instr.indexAt 28 (.slice sl ns.length cap) (.int .i64 j)).run Tryz.prog W= .ok (.pointer (some ⟨gb,go+4*j,none⟩)) W)) (hg:ns.length=0\/gb<w.heap.size) (hS:Hid (SN w gb go ns)) (hn:Hid (∀k,k<ns.length->In (ns.getD k 0))) (hns:ns.length<=1000):
 CC 39 #[NV q,.slice sl ns.length cap] w (.bool (ns.all fun y=>decide (y<q))):=by
 go_enter Tryz.func39,Tryz.ntmps39
 go_upto_region 1 with fail
 obtain⟨v0,hC,HB0,K0⟩:=bx1 w (LN (q)) 24
 rw[hC]
 clear hC
 refine rgP K0 HB0 HB0.size [] [] [(0,9,.slice sl ns.length cap),(1,10,.int .i64 (ns.length:Int)),(2,11,(Go.Value.int Go.IntKind.i64 0))] [] [] [] ?_ ?_
 ·exact oc g_mv<|oc (g_ln Tryz.underlying28)<|oc g_mv on
 intro u1 HB1 sz1 K1
 simp only[sQ] at K1⊢
 clear K0 HB0
 go_wp2_with fail
 go_loopw [11] (fun s11 wr=> ∃(k:Nat),k<=ns.length/\s11= .int .i64 (k:Int)/\Bw w wr/\CV wr (w.heap.size) (LN (q))/\w.heap.size<wr.heap.size/\Hid (∀j,j<k->decide (ns.getD j 0<q)=true)) (fun s11 _=>ns.length -(intOf s11).toNat)
 case atStart=>exact⟨0,by omega,rfl,HB1,(K1.cv 0),(K1.lt 0),fun j hj=>absurd hj (by omega)⟩
 case round=>
  obtain⟨k,hk,rfl,HBr,C0,lC0,hall⟩:=hrel
  clear HB1
  by_cases hj:k<ns.length
  ·have hl:decide ((k:Int)<(ns.length:Int))=true:=by simp;omega
   have hX:=hix.out k hj
   have hX:Hid _:=hX
   have hR:=hS.out.at k hj
   have hR:Hid _:=hR
   have hlen:(k:Int)<1000:=by omega
   have hM:=fun u=>pLess (ns.getD k 0) q u (hn.out k hj) hq
   have hall2:decide (ns.getD k 0<q)=true->Hid (∀j,j<k+1->decide (ns.getD j 0<q)=true):=fun hb j hj2=>by
    by_cases e:j=k
    ·subst e;exact hb
    ·exact hall.out j (by omega)
   have hno:decide (ns.getD k 0<q)=false->(ns.all fun y=>decide (y<q))=false:=fun h=>by
    rw[Bool.eq_false_iff];intro e
    have:=List.all_eq_true.1 e (ns.getD k 0) (by rw[List.getD_eq_getElem?_getD,List.getElem?_eq_getElem hj];exact List.getElem_mem hj)
    rw[h] at this;cases this
   obtain⟨y,ey⟩: ∃y,ns.getD k 0=y:=⟨_,rfl⟩
   rw[ey] at hR hall2 hno
   simp only[ey] at hM
   replace hM:Hid _:=Hid.onD hM
   clear ey hall
   obtain⟨lt,elt⟩: ∃b,decide (y<q)=b:=⟨_,rfl⟩
   simp only[elt] at hM hall2 hno
   clear elt
   replace hall2:Hid _:=Hid.onD hall2
   replace hno:Hid _:=Hid.onD hno
   cases lt
   case' false=>
    have K1_1:Bk w.heap.size wr [(false,w.heap.size,LN (q))]:=⟨.c lC0 C0<|trivial,by simp⟩
    go_upto_region 2 with fail
    refine rgP K1_1 HBr HBr.size [] [] [(0,12,.bool true)] [] [] [] ?_ ?_
    ·exact oc (g_bn (fun uZ=>Zc _ _ (k:Int) (ns.length:Int) _ uZ hl)) on
    intro u2 HB2 sz2 K2
    simp only[sQ] at K2⊢
    go_upto_region 3 with fail
    refine rgP K2 HB2 HB2.size [] [(2,6,L0s,some (3,LN (y)))] [(0,13,.pointer (some ⟨gb,go+4*k,none⟩)),(1,14,NV (y))] [(3,2)] [] [] ?_ ?_
    ·exact oc (g_ix (fun uZ=>hX.out uZ))<|oc (g_lf hR.out (hg.resolve_left (by omega)) uN iN)<|oc (g_al 0 aN)<|oc (g_sn 0 iN) on
    intro u3 b3_2 HB3 sz3 K3
    simp only[sQ] at K3⊢
    clear K2 HB2
    go_upto_region 4 with fail
    refine rgP K3 HB3 HB3.size [] [(6,7,L0s,some (7,LN (y -q)))] [(0,16,NV (y)),(1,17,NV (q)),(2,18,.tuple #[NV (y -q),.bool false]),(3,15,.tuple #[NV (y -q),.bool false]),(4,19,NV (y -q)),(5,20,.bool false),(8,8,.bool false)] [(7,6)] [] [] ?_ ?_
    ·exact oc (g_ld 1 uN iN)<|oc (g_ld 0 uN iN)<|oc (g_cl Xg (fun uZ=>hM.out uZ))<|oc g_mv<|oc g_ex<|oc g_ex<|oc (g_al 0 aN)<|oc (g_sn 0 iN)<|oc g_as on
    intro u4 b4_6 HB4 sz4 K4
    simp only[sQ] at K4⊢
    clear K3 HB3
    go_upto_region 5 with fail
    refine rgP K4 HB4 HB4.size [] [] [(0,21,.bool false),(1,22,.bool true)] [] [] [] ?_ ?_
    ·exact oc g_mv<|oc (g_un (fun uZ=>not_f uZ)) on
    intro u5 HB5 sz5 K5
    simp only[sQ] at K5⊢
    clear K4 HB4
    go_upto_region 6 with fail
    refine rgP K5 HB5 HB5.size [] [] [(0,4,(Go.Value.bool Bool.false))] [] [] [] ?_ ?_
    ·exact oc g_as on
    intro u6 HB6 sz6 K6
    simp only[sQ] at K6⊢
    clear K5 HB5
    go_wp2
    refine bodyPost_ret (v:= .bool false) (by simp[results,Tryz.results39,go_sem,]) rfl ⟨by rw[hno.out (by simp)],HB6⟩
   case' true=>
    have K1_1:Bk w.heap.size wr [(false,w.heap.size,LN (q))]:=⟨.c lC0 C0<|trivial,by simp⟩
    go_upto_region 2 with fail
    refine rgP K1_1 HBr HBr.size [] [] [(0,12,.bool true)] [] [] [] ?_ ?_
    ·exact oc (g_bn (fun uZ=>Zc _ _ (k:Int) (ns.length:Int) _ uZ hl)) on
    intro u2 HB2 sz2 K2
    simp only[sQ] at K2⊢
    go_upto_region 3 with fail
    refine rgP K2 HB2 HB2.size [] [(2,6,L0s,some (3,LN (y)))] [(0,13,.pointer (some ⟨gb,go+4*k,none⟩)),(1,14,NV (y))] [(3,2)] [] [] ?_ ?_
    ·exact oc (g_ix (fun uZ=>hX.out uZ))<|oc (g_lf hR.out (hg.resolve_left (by omega)) uN iN)<|oc (g_al 0 aN)<|oc (g_sn 0 iN) on
    intro u3 b3_2 HB3 sz3 K3
    simp only[sQ] at K3⊢
    clear K2 HB2
    go_upto_region 4 with fail
    refine rgP K3 HB3 HB3.size [] [(6,7,L0s,some (7,LN (y -q)))] [(0,16,NV (y)),(1,17,NV (q)),(2,18,.tuple #[NV (y -q),.bool true]),(3,15,.tuple #[NV (y -q),.bool true]),(4,19,NV (y -q)),(5,20,.bool true),(8,8,.bool true)] [(7,6)] [] [] ?_ ?_
    ·exact oc (g_ld 1 uN iN)<|oc (g_ld 0 uN iN)<|oc (g_cl Xg (fun uZ=>hM.out uZ))<|oc g_mv<|oc g_ex<|oc g_ex<|oc (g_al 0 aN)<|oc (g_sn 0 iN)<|oc g_as on
    intro u4 b4_6 HB4 sz4 K4
    simp only[sQ] at K4⊢
    clear K3 HB3
    go_upto_region 5 with fail
    refine rgP K4 HB4 HB4.size [] [] [(0,21,.bool true),(1,22,.bool false)] [] [] [] ?_ ?_
    ·exact oc g_mv<|oc (g_un (fun uZ=>not_t uZ)) on
    intro u5 HB5 sz5 K5
    simp only[sQ] at K5⊢
    clear K4 HB4
    go_upto_region 7 with fail
    refine rgP K5 HB5 HB5.size [] [] [(0,23,.int .i64 ((k+1:Nat):Int)),(1,11,.int .i64 ((k+1:Nat):Int))] [(1,0)] [(1,11)] [] ?_ ?_
    ·exact oc (g_bn (fun uZ=>Zr _ _ (k:Int) 1 ((k+1:Nat):Int) uZ (by omega) (by omega) (by omega)))<|oc g_mv on
    intro u6 HB6 sz6 K6
    simp only[sQ] at K6⊢
    clear K5 HB5
    go_wp2
    refine⟨⟨k+1,by omega,rfl,HB6,(K6.cv 0),(K6.lt 0),hall2.out (by simp)⟩,?_⟩
    simp[intOf]<;>omega
  ·have hl:decide ((k:Int)<(ns.length:Int))=false:=by simp;omega
   have hkn:k=ns.length:=by omega
   have hb:(ns.all fun y=>decide (y<q))=true:=List.all_eq_true.2 fun x hx=>by
    obtain⟨j,hj2,rfl⟩:=List.getElem_of_mem hx
    have:=hall.out j (by omega)
    rw[List.getD_eq_getElem?_getD,List.getElem?_eq_getElem hj2] at this
    exact this
   have K1_1:Bk w.heap.size wr [(false,w.heap.size,LN (q))]:=⟨.c lC0 C0<|trivial,by simp⟩
   go_upto_region 2 with fail
   refine rgP K1_1 HBr HBr.size [] [] [(0,12,.bool false)] [] [] [] ?_ ?_
   ·exact oc (g_bn (fun uZ=>Zc _ _ (k:Int) (ns.length:Int) _ uZ hl)) on
   intro u2 HB2 sz2 K2
   simp only[sQ] at K2⊢
   go_upto_region 8 with fail
   refine rgP K2 HB2 HB2.size [] [] [(0,4,(Go.Value.bool Bool.true))] [] [] [] ?_ ?_
   ·exact oc g_as on
   intro u3 HB3 sz3 K3
   simp only[sQ] at K3⊢
   clear K2 HB2
   go_wp2
   refine bodyPost_ret (v:= .bool true) (by simp[results,Tryz.results39,go_sem,]) rfl ⟨by rw[hb],HB3⟩
theorem pBel (q:Int) (ns:List Int) (v:Value) (w:World) (hq:In q) (hv:NL w v ns) (hn: ∀z∈ns,In z) (hl:ns.length<=1000):CC 39 #[NV q,v] w (.bool (ns.all fun y=>decide (y<q))):=by
 obtain⟨sl,gb,go,cap,rfl,h2,h3,h4,h5,h6⟩:=hv
 exact pbel_core q sl gb go cap ns w hq (nlIx h4) h5 h6 (getDIn hn) hl
def QB (lo b:Nat) (bs:List Nat) (u:World) (v:Value):Prop:=lo<=b/\ ∃co zs,v= .slice (some ⟨b,0,none⟩) bs.length co/\b<u.heap.size/\bs.length<=co/\zs.length=co -bs.length/\CV u b (U8 bs++zs)
theorem QB.stab {lo b:Nat} {bs:List Nat} {u u2:World} {v:Value} (h:QB lo b bs u v) (hB:Bw u u2):QB lo b bs u2 v:=by
 obtain⟨h1,co,zs,e,g1,g2,g3,g4⟩:=h
 exact⟨h1,co,zs,e,Nat.lt_of_lt_of_le g1 hB.size,g2,g3,g4.below hB g1⟩
theorem app_qb {u:World} {lo b x:Nat} {bs:List Nat} {v:Value} (h:QB lo b bs u v) (hlo:lo<=u.heap.size) (hl:bs.length<=100000):
 ∃v' u' b',(Builtin.append_ #[43,43] 43 #[v,.slice (some ⟨u.heap.size,0,none⟩) 1 1]).run Tryz.prog (u.alloc (.cells #[.int .u8 (x:Int)] 5))= .ok v' u'/\QB lo b' (bs++[x]) u' v'/\(b'=b\/u.heap.size<b')/\Below lo u u'/\u.heap.size<u'.heap.size/\(∀c l,c<u.heap.size->c≠b->CV u c l->CV u' c l):=by
 obtain⟨h1,co,zs,e,g1,g2,g3,g4⟩:=h
 have hO:OR lo 1 bs.length (U8 bs) b u v:=⟨by rw[Z1,Nat.mul_one],.inr ⟨h1,co,zs,e,g1,g2,by omega,g4⟩⟩
 obtain⟨v',u',b',r,hg,hO2,hb,_,hB⟩:=app_or (T:=43) (E:=5) (ty:=43) Tryz.underlying43 Tu rfl (by decide) hO hlo hl (news:=U8 [x]) rfl (fun v hv=>by simp[U8] at hv;subst hv;rfl)
 have hz:=hg.size
 rw[World.size_alloc] at hz
 refine⟨v',u',b',r,?_,hb,hB,by omega,fun c l hc hne hcv=>(hcv.below (Z2 (Zm u) _) hc).grow hg (by rw[World.size_alloc];omega) (by simpa using hne)⟩
 obtain⟨_,h0 | ⟨k1,co2,zs2,e2,k2,k3,k4,k5⟩⟩:=hO2
 ·exact absurd h0.1 (by omega)
 ·have hl2:(bs++[x]).length=bs.length+1:=by simp
  refine⟨k1,co2,zs2,by rw[hl2];exact e2,k2,by rw[hl2];exact k3,by rw[hl2];omega,?_⟩
  rw[Xz];exact k5
theorem mkCp (m:Nat) (hm:m<=1000000) (w:World):(Instr.makeSlice 43 (.int .i64 0) (.int .i64 (m:Int))).run Tryz.prog w= .ok (.slice (some ⟨w.heap.size,0,none⟩) 0 m) (w.alloc (.cells (U8 (List.replicate m 0)).toArray 5)):=by
 obtain⟨i,hi,hi2⟩:=Option.map_eq_some_iff.1 Tu
 simp only[Prod.mk.injEq] at hi2
 obtain⟨hz,hs,hb⟩:=hi2
 have:=run_makeSlice (P:=Tryz.prog) w 43 5 i (.int .u8 0) Tryz.underlying43 hi hz .i64 .i64 0 m (by omega) (by omega) (by rw[hs];omega) (by rw[hb];omega) (by omega)
 rw[this,hs]
 simp only[Int.toNat_natCast,Nat.mul_one,Int.toNat_zero]
 congr 4
 apply Array.ext'
 simp[madeCells,U8,Value.cells]
 apply List.ext_getElem
 ·simp
 ·intro j h1 h2;simp[Nat.mod_one]
theorem tk_s {l:List Nat} {n:Nat} (h:n<l.length):l.take (n+1)=l.take n++[l.getD n 0]:=by
 rw[List.take_add_one,List.getElem?_eq_getElem h,List.getD_eq_getElem?_getD,List.getElem?_eq_getElem h];rfl
theorem chB_s {ns:List Int} {k:Nat} (h:k<ns.length):chB (ns.take k)++b32 (ns.getD k 0)=chB (ns.take (k+1)):=by
 rw[List.take_add_one,List.getElem?_eq_getElem h,List.getD_eq_getElem?_getD,List.getElem?_eq_getElem h,Option.toList,chB_snoc];rfl
theorem rgUp {w u:World} {g o:Nat} {l:List Value} (hB:Bw w u) (hg:g<w.heap.size) (h:w.rangeAt g o l):u.rangeAt g o l:=fun j v hj=>(hB.cell (p:=⟨g,o+j,none⟩) hg).trans (h j v hj)
theorem b32_at (x:Int) {i j:Nat} (hi:i<4) (hj:j<8): ∃p:Int,(LN x)[3 -i]?=some (.int .u64 p)/\0<=p/\p<18446744073709551616/\p/2^(56 -8*j)%256=(((b32 x).getD (8*i+j) 0:Nat):Int):=by
 rw[b32_get x (by omega)]
 unfold byp
 have h1:(31 -(8*i+j))/8=3 -i:=by omega
 have h2:(31 -(8*i+j))%8*8=56 -8*j:=by omega
 rw[h1,h2]
 have hc:i=0\/i=1\/i=2\/i=3:=by omega
 rcases hc with rfl | rfl | rfl | rfl
 ·exact⟨D3 x,rfl,(W_D3 x).1,(W_D3 x).2,rfl⟩
 ·exact⟨D2 x,rfl,(W_D2 x).1,(W_D2 x).2,rfl⟩
 ·exact⟨D1 x,rfl,(W_D1 x).1,(W_D1 x).2,rfl⟩
 ·exact⟨D0 x,rfl,(W_D0 x).1,(W_D0 x).2,rfl⟩
theorem bs1p (x:Int) (w:World):(Instr.buildSlice 43 1 #[(0,.int .u8 x)]).run Tryz.prog w= .ok (.slice (some ⟨w.heap.size,0,none⟩) 1 1) (w.alloc (.cells #[.int .u8 x] 5)):=by kernel_rfl
theorem pcat_core (sl:Option Addr) (gb go cap:Nat) (ns:List Int) (w:World) (hix:Hid (∀j,j<ns.length-> ∀W,(Instr.indexAt 28 (.slice sl ns.length cap) (.int .i64 j)).run Tryz.prog W= .ok (.pointer (some ⟨gb,go+4*j,none⟩)) W)) (hg:ns.length=0\/gb<w.heap.size) (hS:Hid (SN w gb go ns)) (hns:ns.length<=1000):
 Calls Tryz.prog 34 #[.slice sl ns.length cap] w fun r u=> ∃v,r= .returned v/\(∃b,QB w.heap.size b (chB ns) u v)/\Bw w u:=by
 have hmk: ∀W:World,(Instr.makeSlice 43 (.int .i64 0) (.int .i64 (32*(ns.length:Int)))).run Tryz.prog W= .ok (.slice (some ⟨W.heap.size,0,none⟩) 0 (32*ns.length)) (W.alloc (.cells (U8 (List.replicate (32*ns.length) 0)).toArray 5)):=fun W=>by
  rw[show (32*(ns.length:Int))=((32*ns.length:Nat):Int) by omega];exact mkCp _ (by omega) W
 have hb1:=bs1p
 go_enter Tryz.func34,Tryz.ntmps34
 go_wp2_with fail
 go_loopw [3,15] (fun s3 s15 wr=> ∃(k b:Nat) (v:Value),k<=ns.length/\s15= .int .i64 (k:Int)/\v=s3/\Hid (QB w.heap.size b (chB (ns.take k)) wr v)/\Bw w wr) (fun _ s15 _=>ns.length -(intOf s15).toNat)
 case atStart=>
  refine⟨0,w.heap.size,_,by omega,rfl,rfl,⟨Nat.le_refl _,32*ns.length,U8 (List.replicate (32*ns.length) 0),rfl,by simp,Nat.zero_le _,by rw[Z1,List.length_replicate];rfl,?_⟩,Z2 (Zm w) _⟩
  exact CV.new w _ _
 case round=>
  clear hmk
  obtain⟨k,b,v,hk,rfl,rfl,hQ,HBr⟩:=hrel
  by_cases hj:k<ns.length
  ·have hl:(k:Int)<(ns.length:Int):=by omega
   have hX:=hix.out k hj
   have hR:=rgUp HBr (hg.resolve_left (by omega)) (hS.out.at k hj)
   have hs:=chB_s hj
   have hcl:(chB (ns.take k)).length<=32000:=by rw[chB_len,List.length_take];omega
   have e1:IntKind.i64.wrap ((k:Int)+1)=((k+1:Nat):Int):=by rw[IntKind.wrap_i64];omega
   obtain⟨x,ex⟩: ∃x,ns.getD k 0=x:=⟨_,rfl⟩
   rw[ex] at hR hs
   obtain⟨pre,ep⟩: ∃l,chB (ns.take k)=l:=⟨_,rfl⟩
   rw[ep] at hQ hs hcl
   replace hs:Hid _:=hs
   clear ex ep
   have c0:wr.cell? ⟨gb,go+4*k,none⟩=some (.int .u64 (D0 x)):=hR 0 _ rfl
   have c1:=hR 1 _ rfl
   have c2:=hR 2 _ rfl
   have c3:=hR 3 _ rfl
   clear hR
   have hbl:b<wr.heap.size:=hQ.out.2.choose_spec.choose_spec.2.1
   have hK5:Hid (CV (wr.alloc (.cells (LN x:List Value).toArray 24)) wr.heap.size (LN x)):=CV.new wr (LN x) 24
   have hQ5:=hQ.out.stab (Z2 (Zm wr) (.cells (LN x:List Value).toArray 24))
   replace hQ5:Hid _:=hQ5
   have hB5:Bw w (wr.alloc (.cells (LN x:List Value).toArray 24)):=Z2 HBr _
   have h5:wr.heap.size<(wr.alloc (.cells (LN x:List Value).toArray 24)).heap.size:=by simp
   obtain⟨wo,rfl⟩: ∃y,y=wr:=⟨_,rfl⟩
   go_wp2_with fail
   go_loopw [3,19] (fun s3 s19 wr=> ∃(i b:Nat) (v:Value),i<=4/\s19= .int .i64 (i:Int)/\v=s3/\b≠wo.heap.size/\Hid (QB w.heap.size b (pre++(b32 x).take (8*i)) wr v)/\Hid (CV wr wo.heap.size (LN x))/\wo.heap.size<wr.heap.size/\Bw w wr) (fun _ s19 _=>4 -(intOf s19).toNat)
   case atStart=>exact⟨0,b,_,by omega,rfl,rfl,by omega,by rw[Nat.mul_zero,List.take_zero,List.append_nil];exact hQ5,hK5,h5,hB5⟩
   case round=>
    clear hQ hQ5 hK5 hB5 h5 HBr c0 c1 c2 c3 hbl b
    obtain⟨i,b,v,hi,rfl,rfl,hbn,hQ,hK,hlt,HBr⟩:=hrel
    by_cases hi4:i<4
    ·have hl2:(i:Int)<4:=by omega
     have w3:IntKind.i64.wrap (3 -(i:Int))=((3 -i:Nat):Int):=by rw[IntKind.wrap_i64];omega
     have e2:IntKind.i64.wrap ((i:Int)+1)=((i+1:Nat):Int):=by rw[IntKind.wrap_i64];omega
     have hxb:=fun W=>xbN wo.heap.size (3 -i) W (by omega)
     have hat:=fun j (h:j<8)=>b32_at x hi4 h
     obtain⟨p,hp0,hp1,hp2,-⟩:=hat 0 (by omega)
     have hpc:=(hK.out (3 -i) _ hp0).1
     have hb:Hid (∀j,j<8->p/2^(56 -8*j)%256=(((b32 x).getD (8*i+j) 0:Nat):Int)):=fun j h=>by
      obtain⟨p',h0,-,-,h3⟩:=hat j h
      rw[hp0] at h0
      cases h0
      exact h3
     clear hat
     go_wp2_with fail
     go_loopw [3,8] (fun s3 s8 wr=> ∃(j b:Nat) (v:Value),j<=8/\s8= .int .i64 (56 -8*(j:Int))/\v=s3/\b≠wo.heap.size/\Hid (QB w.heap.size b (pre++(b32 x).take (8*i+j)) wr v)/\Hid (CV wr wo.heap.size (LN x))/\wo.heap.size<wr.heap.size/\Bw w wr) (fun _ s8 _=>(intOf s8+8).toNat)
     case atStart=>exact⟨0,b,_,by omega,rfl,rfl,hbn,hQ,hK,hlt,HBr⟩
     case round=>
      clear hQ hK hlt HBr hpc hbn b
      obtain⟨j,b,v,hj8,rfl,rfl,hbn,hQ,hK,hlt,HBr⟩:=hrel
      by_cases hj2:j<8
      ·obtain⟨s,es⟩: ∃s,56 -8*j=s:=⟨_,rfl⟩
       have hss:(56 -8*(j:Int))=(s:Int):=by omega
       have hbj:=hb.out j hj2
       have htk:=tk_s (l:=b32 x) (n:=8*i+j) (by rw[b32_len];omega)
       rw[es] at hbj
       rw[hss]
       have hge:(0:Int)<=(s:Int):=by omega
       have w4:IntKind.i64.wrap ((s:Int) -8)=(s:Int) -8:=by rw[IntKind.wrap_i64];omega
       have hl3:(pre++(b32 x).take (8*i+j)).length<=100000:=by rw[List.length_append,List.length_take,b32_len];omega
       obtain⟨bs,ebs⟩: ∃bs,pre++(b32 x).take (8*i+j)=bs:=⟨_,rfl⟩
       obtain⟨r,er⟩: ∃r,(b32 x).getD (8*i+j) 0=r:=⟨_,rfl⟩
       rw[er] at hbj htk
       rw[ebs] at hl3 hQ
       have hre:p/2^min s 64%256=(r:Int):=by rw[show min s 64=s by omega];exact hbj
       obtain⟨v',uc,b',r2,hQ2,hb2,hB2,hz2,hc2⟩:=app_qb (x:=r) hQ.out HBr.size hl3
       have hK2:Hid (CV uc wo.heap.size (LN x)):=hc2 _ _ hlt (fun e=>hbn e.symm) hK.out
       rw[<-ebs,List.append_assoc,<-htk] at hQ2
       replace hQ2:Hid _:=hQ2
       have hBc:Bw w uc:=HBr.trans hB2
       obtain⟨-,co,zs,rfl,-⟩:=hQ.out
       replace ebs:Hid _:=ebs
       replace er:Hid _:=er
       clear hc2 htk hB2
       go_wp2_with (at_builtin;refine Xf rfl _ _ 43 rfl _ _ _ rfl rfl r2 ?_;clear r2)
       exact⟨⟨j+1,b',_,by omega,by congr 1;omega,rfl,by omega,hQ2,hK2,by omega,hBc⟩,by simp[intOf];omega⟩
      ·obtain rfl:j=8:=by omega
       have hge: ¬(0:Int)<=56 -8*((8:Nat):Int):=by omega
       rw[show 8*i+8=8*(i+1) by omega] at hQ
       obtain⟨bs,ebs⟩: ∃bs,pre++(b32 x).take (8*(i+1))=bs:=⟨_,rfl⟩
       rw[ebs] at hQ
       replace ebs:Hid _:=ebs
       obtain⟨-,co,zs,rfl,-⟩:=hQ.out
       go_wp2
       exact⟨⟨i+1,b,_,by omega,by simp,rfl,hbn,by rw[ebs.out];exact hQ,hK,hlt,HBr⟩,by simp[intOf];omega⟩
    ·obtain rfl:i=4:=by omega
     have hl2: ¬(4:Int)<4:=by omega
     rw[List.take_of_length_le (by rw[b32_len];decide),hs.out] at hQ
     obtain⟨bs,ebs⟩: ∃bs,chB (ns.take (k+1))=bs:=⟨_,rfl⟩
     rw[ebs] at hQ
     replace ebs:Hid _:=ebs
     obtain⟨-,co,zs,rfl,-⟩:=hQ.out
     go_wp2
     exact⟨⟨k+1,b,_,by omega,by simp,rfl,by rw[ebs.out];exact hQ,HBr⟩,by simp[intOf];omega⟩
  ·obtain rfl:k=ns.length:=by omega
   have hl: ¬(ns.length:Int)<(ns.length:Int):=by omega
   rw[List.take_of_length_le (Nat.le_refl _)] at hQ
   obtain⟨-,co,zs,rfl,-⟩:=hQ.out
   go_wp2
   exact bodyPost_ret (v:= .slice (some ⟨b,0,none⟩) (chB ns).length co) (by simp[results,Tryz.results34,go_sem]) rfl ⟨_,rfl,⟨b,hQ.out⟩,HBr⟩
theorem QB.in {lo b:Nat} {bs:List Nat} {u:World} {v:Value} (h:QB lo b bs u v):IN u u.heap.size v bs:=by
 obtain⟨-,co,zs,rfl,g1,g2,g3,g4⟩:=h
 exact⟨some ⟨b,0,none⟩,co,b,0,rfl,g2,.inr rfl,g1,fun j hj=>by
  rw[Nat.zero_add]
  exact(g4 j _ (by rw[List.getElem?_append_left (by rw[Z1];exact hj)];exact Y2 bs j hj)).1⟩
end
section
theorem pow_pos2 (r:Nat):(0:Int)<2^r:=Int.pow_pos (by omega)
theorem or_apart (a b r:Nat) (ha:a<2^r):a ||| (b*2^r)=a+b*2^r:=by
 have:=Nat.shiftLeft_add_eq_or_of_lt ha b
 rw[Nat.shiftLeft_eq] at this
 rw[Nat.or_comm,<-this];omega
theorem or_int (a b:Int) (r:Nat) (ha:0<=a/\a<2^r) (hb:0<=b) (hs:a+b*2^r<18446744073709551616):bits .or .u64 a (b*2^r)=a+b*2^r:=by
 obtain⟨a,rfl⟩:=Int.eq_ofNat_of_zero_le ha.1
 obtain⟨b,rfl⟩:=Int.eq_ofNat_of_zero_le hb
 have e:((b:Int)*2^r)=((b*2^r:Nat):Int):=by simp
 have hlt:a<2^r:=by have:=ha.2;exact_mod_cast this
 rw[e] at hs⊢
 rw[bits_or_u64_nat a (b*2^r) (by omega) (by omega),or_apart a b r hlt]
 omega
end
end Go.Proofs.YtofcppgfaelloaaGreatDoor
