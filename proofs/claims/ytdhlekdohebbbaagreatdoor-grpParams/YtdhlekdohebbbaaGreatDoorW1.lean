import Derived.Test.YtdhlekdohebbbaaGreatDoorMC3
import Derived.Shelf.Spec.BitsCarry
namespace Go.Proofs.YtdhlekdohebbbaaGreatDoor
set_option linter.unusedVariables false
set_option linter.unusedSimpArgs false
set_option maxRecDepth 100000
set_option maxHeartbeats 4000000
section
def W64(x:Int):Prop:=0<=x/\x<18446744073709551616
def V(a b c d:Int):Int:=a+b*18446744073709551616+c*0x100000000000000000000000000000000+d*0x1000000000000000000000000000000000000000000000000
def D0(n:Int):Int:=n%18446744073709551616
def D1(n:Int):Int:=n/18446744073709551616%18446744073709551616
def D2(n:Int):Int:=n/0x100000000000000000000000000000000%18446744073709551616
def D3(n:Int):Int:=n/0x1000000000000000000000000000000000000000000000000%18446744073709551616
def D4(n:Int):Int:=n/0x10000000000000000000000000000000000000000000000000000000000000000
theorem D_of(n a b c d k:Int)(ha:W64 a)(hb:W64 b)(hc:W64 c)(hd:W64 d)(h:n=V a b c d+k*0x10000000000000000000000000000000000000000000000000000000000000000):
 D0 n=a/\D1 n=b/\D2 n=c/\D3 n=d/\D4 n=k:=by
 obtain⟨a1,a2⟩:=ha;obtain⟨b1,b2⟩:=hb;obtain⟨c1,c2⟩:=hc;obtain⟨d1,d2⟩:=hd
 unfold V at h;unfold D0 D1 D2 D3 D4
 refine⟨?_,?_,?_,?_,?_⟩<;>omega
theorem W_D0(n:Int):W64 (D0 n):=by unfold W64 D0;omega
theorem W_D1(n:Int):W64 (D1 n):=by unfold W64 D1;omega
theorem W_D2(n:Int):W64 (D2 n):=by unfold W64 D2;omega
theorem W_D3(n:Int):W64 (D3 n):=by unfold W64 D3;omega
theorem V_D(n:Int):V (D0 n) (D1 n) (D2 n) (D3 n)=n%0x10000000000000000000000000000000000000000000000000000000000000000:=by
 unfold V D0 D1 D2 D3;omega
theorem V_bd(a b c d:Int)(ha:W64 a)(hb:W64 b)(hc:W64 c)(hd:W64 d):0<=V a b c d/\V a b c d<0x10000000000000000000000000000000000000000000000000000000000000000:=by
 obtain⟨a1,a2⟩:=ha;obtain⟨b1,b2⟩:=hb;obtain⟨c1,c2⟩:=hc;obtain⟨d1,d2⟩:=hd
 unfold V;omega
theorem V_inj(a b c d x y z t:Int)(ha:W64 a)(hb:W64 b)(hc:W64 c)(hd:W64 d)(hx:W64 x)(hy:W64 y)(hz:W64 z)(ht:W64 t)
 (h:V a b c d=V x y z t):a=x/\b=y/\c=z/\d=t:=by
 obtain⟨e0,e1,e2,e3,_⟩:=D_of (V a b c d) a b c d 0 ha hb hc hd (by omega)
 obtain⟨f0,f1,f2,f3,_⟩:=D_of (V a b c d) x y z t 0 hx hy hz ht (by omega)
 exact⟨by omega,by omega,by omega,by omega⟩
theorem sum0(a b c d x y z t:Int):
 D0 (V a b c d+V x y z t)=(a+x)%18446744073709551616/\D1 (V a b c d+V x y z t)=(b+y+(a+x)/18446744073709551616)%18446744073709551616/\D2 (V a b c d+V x y z t)=(c+z+(b+y+(a+x)/18446744073709551616)/18446744073709551616)%18446744073709551616/\D3 (V a b c d+V x y z t)=(d+t+(c+z+(b+y+(a+x)/18446744073709551616)/18446744073709551616)/18446744073709551616)%18446744073709551616/\D4 (V a b c d+V x y z t)=(d+t+(c+z+(b+y+(a+x)/18446744073709551616)/18446744073709551616)/18446744073709551616)/18446744073709551616:=by
 unfold V D0 D1 D2 D3 D4;refine⟨?_,?_,?_,?_,?_⟩<;>omega
theorem sum1(a b c d y z t:Int)(ha:W64 a):
 D0 (V a b c d+V 0 y z t)=a/\D1 (V a b c d+V 0 y z t)=(b+y)%18446744073709551616/\D2 (V a b c d+V 0 y z t)=(c+z+(b+y)/18446744073709551616)%18446744073709551616/\D3 (V a b c d+V 0 y z t)=(d+t+(c+z+(b+y)/18446744073709551616)/18446744073709551616)%18446744073709551616/\D4 (V a b c d+V 0 y z t)=(d+t+(c+z+(b+y)/18446744073709551616)/18446744073709551616)/18446744073709551616:=by
 obtain⟨a1,a2⟩:=ha
 unfold V D0 D1 D2 D3 D4;refine⟨?_,?_,?_,?_,?_⟩<;>omega
theorem sum2(a b c d z t:Int)(ha:W64 a)(hb:W64 b):
 D0 (V a b c d+V 0 0 z t)=a/\D1 (V a b c d+V 0 0 z t)=b/\D2 (V a b c d+V 0 0 z t)=(c+z)%18446744073709551616/\D3 (V a b c d+V 0 0 z t)=(d+t+(c+z)/18446744073709551616)%18446744073709551616/\D4 (V a b c d+V 0 0 z t)=(d+t+(c+z)/18446744073709551616)/18446744073709551616:=by
 obtain⟨a1,a2⟩:=ha
 obtain⟨b1,b2⟩:=hb
 unfold V D0 D1 D2 D3 D4;refine⟨?_,?_,?_,?_,?_⟩<;>omega
theorem sum3(a b c d t:Int)(ha:W64 a)(hb:W64 b)(hc:W64 c):
 D0 (V a b c d+V 0 0 0 t)=a/\D1 (V a b c d+V 0 0 0 t)=b/\D2 (V a b c d+V 0 0 0 t)=c/\D3 (V a b c d+V 0 0 0 t)=(d+t)%18446744073709551616/\D4 (V a b c d+V 0 0 0 t)=(d+t)/18446744073709551616:=by
 obtain⟨a1,a2⟩:=ha
 obtain⟨b1,b2⟩:=hb
 obtain⟨c1,c2⟩:=hc
 unfold V D0 D1 D2 D3 D4;refine⟨?_,?_,?_,?_,?_⟩<;>omega
theorem sum4(a b c d:Int)(ha:W64 a)(hb:W64 b)(hc:W64 c)(hd:W64 d):
 D0 (V a b c d+V 0 0 0 0)=a/\D1 (V a b c d+V 0 0 0 0)=b/\D2 (V a b c d+V 0 0 0 0)=c/\D3 (V a b c d+V 0 0 0 0)=d/\D4 (V a b c d+V 0 0 0 0)=0:=by
 obtain⟨a1,a2⟩:=ha
 obtain⟨b1,b2⟩:=hb
 obtain⟨c1,c2⟩:=hc
 obtain⟨d1,d2⟩:=hd
 unfold V D0 D1 D2 D3 D4;refine⟨?_,?_,?_,?_,?_⟩<;>omega
theorem dif0(a b c d x y z t:Int):
 D0 (V a b c d -V x y z t)=(a -x)%18446744073709551616/\D1 (V a b c d -V x y z t)=(b -y+(a -x)/18446744073709551616)%18446744073709551616/\D2 (V a b c d -V x y z t)=(c -z+(b -y+(a -x)/18446744073709551616)/18446744073709551616)%18446744073709551616/\D3 (V a b c d -V x y z t)=(d -t+(c -z+(b -y+(a -x)/18446744073709551616)/18446744073709551616)/18446744073709551616)%18446744073709551616/\ -D4 (V a b c d -V x y z t)= -((d -t+(c -z+(b -y+(a -x)/18446744073709551616)/18446744073709551616)/18446744073709551616)/18446744073709551616):=by
 unfold V D0 D1 D2 D3 D4;refine⟨?_,?_,?_,?_,?_⟩<;>omega
theorem dif1(a b c d y z t:Int)(ha:W64 a):
 D0 (V a b c d -V 0 y z t)=a/\D1 (V a b c d -V 0 y z t)=(b -y)%18446744073709551616/\D2 (V a b c d -V 0 y z t)=(c -z+(b -y)/18446744073709551616)%18446744073709551616/\D3 (V a b c d -V 0 y z t)=(d -t+(c -z+(b -y)/18446744073709551616)/18446744073709551616)%18446744073709551616/\ -D4 (V a b c d -V 0 y z t)= -((d -t+(c -z+(b -y)/18446744073709551616)/18446744073709551616)/18446744073709551616):=by
 obtain⟨a1,a2⟩:=ha
 unfold V D0 D1 D2 D3 D4;refine⟨?_,?_,?_,?_,?_⟩<;>omega
theorem dif2(a b c d z t:Int)(ha:W64 a)(hb:W64 b):
 D0 (V a b c d -V 0 0 z t)=a/\D1 (V a b c d -V 0 0 z t)=b/\D2 (V a b c d -V 0 0 z t)=(c -z)%18446744073709551616/\D3 (V a b c d -V 0 0 z t)=(d -t+(c -z)/18446744073709551616)%18446744073709551616/\ -D4 (V a b c d -V 0 0 z t)= -((d -t+(c -z)/18446744073709551616)/18446744073709551616):=by
 obtain⟨a1,a2⟩:=ha
 obtain⟨b1,b2⟩:=hb
 unfold V D0 D1 D2 D3 D4;refine⟨?_,?_,?_,?_,?_⟩<;>omega
theorem dif3(a b c d t:Int)(ha:W64 a)(hb:W64 b)(hc:W64 c):
 D0 (V a b c d -V 0 0 0 t)=a/\D1 (V a b c d -V 0 0 0 t)=b/\D2 (V a b c d -V 0 0 0 t)=c/\D3 (V a b c d -V 0 0 0 t)=(d -t)%18446744073709551616/\ -D4 (V a b c d -V 0 0 0 t)= -((d -t)/18446744073709551616):=by
 obtain⟨a1,a2⟩:=ha
 obtain⟨b1,b2⟩:=hb
 obtain⟨c1,c2⟩:=hc
 unfold V D0 D1 D2 D3 D4;refine⟨?_,?_,?_,?_,?_⟩<;>omega
theorem dif4(a b c d:Int)(ha:W64 a)(hb:W64 b)(hc:W64 c)(hd:W64 d):
 D0 (V a b c d -V 0 0 0 0)=a/\D1 (V a b c d -V 0 0 0 0)=b/\D2 (V a b c d -V 0 0 0 0)=c/\D3 (V a b c d -V 0 0 0 0)=d/\ -D4 (V a b c d -V 0 0 0 0)=0:=by
 obtain⟨a1,a2⟩:=ha
 obtain⟨b1,b2⟩:=hb
 obtain⟨c1,c2⟩:=hc
 obtain⟨d1,d2⟩:=hd
 unfold V D0 D1 D2 D3 D4;refine⟨?_,?_,?_,?_,?_⟩<;>omega
end
section
open Go.RowKit
abbrev A4(a b c d:Int):Value:= .agg #[iU a,iU b,iU c,iU d]
abbrev A8(a b c d e f g h:Int):Value:= .agg #[iU a,iU b,iU c,iU d,iU e,iU f,iU g,iU h]
def eq4(a b c d x y z t:Int):Bool:=a==x&&b==y&&c==z&&d==t
def eq8(a b c d e f g h a' b' c' d' e' f' g' h':Int):Bool:=a==a'&&b==b'&&c==c'&&d==d'&&e==e'&&f==f'&&g==g'&&h==h'
@[go_sem] theorem eq4_same (a b c d:Int):eq4 a b c d a b c d=true:=by simp[eq4]
@[go_sem] theorem eq8_same (a b c d e f g h:Int):eq8 a b c d e f g h a b c d e f g h=true:=by simp[eq8]
theorem eq4_iff(a b c d x y z t:Int):eq4 a b c d x y z t=true↔a=x/\b=y/\c=z/\d=t:=by simp[eq4,and_assoc]
theorem eq4_V(a b c d x y z t:Int)(ha:W64 a)(hb:W64 b)(hc:W64 c)(hd:W64 d)(hx:W64 x)(hy:W64 y)(hz:W64 z)(ht:W64 t):eq4 a b c d x y z t=true↔V a b c d=V x y z t:=by
 rw[eq4_iff]
 constructor
 ·rintro⟨rfl,rfl,rfl,rfl⟩;rfl
 ·exact V_inj a b c d x y z t ha hb hc hd hx hy hz ht
@[go_sem] theorem eqn24 (a b c d x y z t:Int) (w:World):(Op.equalIn 10000 24 (A4 a b c d) (A4 x y z t)).run Tryz.prog w= .ok (eq4 a b c d x y z t) w:=by
 have u3:=Tryz.underlying22
 have a3:=Tryz.isAgg22
 have z3:=Tryz.sizeOf22
 unfold eq4
 rw[show (10000:Nat)=9999+1 from rfl,Op.equalIn]
 simp only[Sem.run_bind,run_underlying Tryz.underlying24,Result.andThen_ok]
 simp only[Std.Legacy.Range.forIn_eq_forIn_range',Std.Legacy.Range.size,Nat.sub_zero,Nat.add_sub_cancel,Nat.div_one,List.range'_succ,List.range'_zero,List.forIn_cons,List.forIn_nil]
 go_simp
 by_cases h1:a=x<;>by_cases h2:b=y<;>by_cases h3:c=z<;>by_cases h4:d=t<;>simp[h1,h2,h3,h4]
@[go_sem] theorem eqn29 (a b c d e f g h a' b' c' d' e' f' g' h':Int) (w:World):(Op.equalIn 10000 85 (A8 a b c d e f g h) (A8 a' b' c' d' e' f' g' h')).run Tryz.prog w= .ok (eq8 a b c d e f g h a' b' c' d' e' f' g' h') w:=by
 have u3:=Tryz.underlying22
 have a3:=Tryz.isAgg22
 have z3:=Tryz.sizeOf22
 unfold eq8
 rw[show (10000:Nat)=9999+1 from rfl,Op.equalIn]
 simp only[Sem.run_bind,run_underlying Tryz.underlying85,Result.andThen_ok]
 simp only[Std.Legacy.Range.forIn_eq_forIn_range',Std.Legacy.Range.size,Nat.sub_zero,Nat.add_sub_cancel,Nat.div_one,List.range'_succ,List.range'_zero,List.forIn_cons,List.forIn_nil]
 go_simp
 by_cases h1:a=a'
 all_goals by_cases h2:b=b'
 all_goals by_cases h3:c=c'
 all_goals by_cases h4:d=d'
 all_goals by_cases h5:e=e'
 all_goals by_cases h6:f=f'
 all_goals by_cases h7:g=g'
 all_goals by_cases h8:h=h'
 all_goals simp[h1,h2,h3,h4,h5,h6,h7,h8]
end
open Go.RowKit
theorem add64L(x y c:Int)(hx:0<=x)(hy:0<=y)(hc0:0<=c)(hc:c<=1)(w:World):(callFunc 105 #[iU x,iU y,iU c]).run Tryz.prog w=
 .ok (.value (.tuple #[iU ((x+y+c)%18446744073709551616),iU ((x+y+c)/18446744073709551616)])) w:=by
 rw[run_callFunc_extern Tryz.func105 (by kernel_rfl) (by kernel_rfl) (by kernel_rfl) (e:=add64Entry) (by kernel_rfl),run_add64 x y c hx hy hc0 hc]
 rfl
theorem add64_0(x y:Int)(hx:0<=x)(hy:0<=y)(w:World):(callFunc 105 #[iU x,iU y,iU 0]).run Tryz.prog w=
 .ok (.value (.tuple #[iU ((x+y)%18446744073709551616),iU ((x+y)/18446744073709551616)])) w:=by
 simpa using add64L x y 0 hx hy (Int.le_refl 0) (by decide) w
theorem sub64L(x y b:Int)(hx:0<=x)(hx':x<18446744073709551616)(hy:0<=y)(hy':y<18446744073709551616)(hb0:0<=b)(hb:b<=1)(w:World):(callFunc 77 #[iU x,iU y,iU b]).run Tryz.prog w=
 .ok (.value (.tuple #[iU ((x -y -b)%18446744073709551616),iU (-((x -y -b)/18446744073709551616))])) w:=by
 obtain⟨x,rfl⟩:=Int.eq_ofNat_of_zero_le hx
 obtain⟨y,rfl⟩:=Int.eq_ofNat_of_zero_le hy
 obtain⟨b,rfl⟩:=Int.eq_ofNat_of_zero_le hb0
 rw[run_callFunc_extern Tryz.func77 (by kernel_rfl) (by kernel_rfl) (by kernel_rfl) (e:=sub64Entry) (by kernel_rfl),run_sub64 x y b (by omega)]
 have e1:(((x+18446744073709551616 -y -b)%18446744073709551616:Nat):Int)=((x:Int) -y -b)%18446744073709551616:=by omega
 have e2:((if x<y+b then 1 else 0:Nat):Int)= -(((x:Int) -y -b)/18446744073709551616):=by split<;>omega
 rw[e1,e2]
 rfl
theorem sub64_0(x y:Int)(hx:0<=x)(hx':x<18446744073709551616)(hy:0<=y)(hy':y<18446744073709551616)(w:World):(callFunc 77 #[iU x,iU y,iU 0]).run Tryz.prog w=
 .ok (.value (.tuple #[iU ((x -y)%18446744073709551616),iU (-((x -y)/18446744073709551616))])) w:=by
 simpa using sub64L x y 0 hx hx' hy hy' (Int.le_refl 0) (by decide) w
def low(a b c d:Int):Int:=if a≠0 then 0 else if b≠0 then 1 else if c≠0 then 2 else if d≠0 then 3 else 4
theorem low_cases(a b c d:Int):low a b c d=0\/(a=0/\low 0 b c d=1)\/(a=0/\b=0/\low 0 0 c d=2)\/(a=0/\b=0/\c=0/\low 0 0 0 d=3)\/(a=0/\b=0/\c=0/\d=0/\low 0 0 0 0=4):=by
 unfold low
 by_cases h1:a=0<;>by_cases h2:b=0<;>by_cases h3:c=0<;>by_cases h4:d=0<;>simp[h1,h2,h3,h4]
theorem Wf(a b c d:Int)(w:World):
 Calls Tryz.prog 76 #[A4 a b c d] w fun e w'=>e= .returned (iI (low a b c d))/\w'=w.alloc (.cells #[iU a,iU b,iU c,iU d] 24):=by
 unfold low
 go_enter Tryz.func76,Tryz.ntmps76
 go_wp2
 go_rounds 5
 all_goals (go_ret;refine⟨?_,rfl⟩;simp_all)
theorem add_0(a b c d x y z t:Int)(w:World)(ha:W64 a)(hb:W64 b)(hc:W64 c)(hd:W64 d)(hx:W64 x)(hy:W64 y)(hz:W64 z)(ht:W64 t)(hl:low x y z t=0):
 CC 75 #[A4 a b c d,A4 x y z t] w (.tuple #[A4 (D0 (V a b c d+V x y z t)) (D1 (V a b c d+V x y z t)) (D2 (V a b c d+V x y z t)) (D3 (V a b c d+V x y z t)),iU (D4 (V a b c d+V x y z t))]):=by
 obtain⟨e0,e1,e2,e3,e4⟩:=sum0 a b c d x y z t
 rw[e0,e1,e2,e3,e4]
 clear e0 e1 e2 e3 e4
 obtain⟨a1,a2⟩:=ha
 obtain⟨b1,b2⟩:=hb
 obtain⟨c1,c2⟩:=hc
 obtain⟨d1,d2⟩:=hd
 obtain⟨x1,x2⟩:=hx
 obtain⟨y1,y2⟩:=hy
 obtain⟨z1,z2⟩:=hz
 obtain⟨t1,t2⟩:=ht
 go_enter Tryz.func75,Tryz.ntmps75
 go_wp2_with (first | (go_at_call 76;refine(Wf _ _ _ _ _).mono ?_;rintro e w' ⟨rfl,rfl⟩) | simp(disch:=omega) only[add64_0] | simp(disch:=omega) only[add64L])
 go_returns
 exact⟨rfl,by go_grown⟩
theorem add_1(a b c d y z t:Int)(w:World)(ha:W64 a)(hb:W64 b)(hc:W64 c)(hd:W64 d)(hy:W64 y)(hz:W64 z)(ht:W64 t)(hl:low 0 y z t=1):
 CC 75 #[A4 a b c d,A4 0 y z t] w (.tuple #[A4 (D0 (V a b c d+V 0 y z t)) (D1 (V a b c d+V 0 y z t)) (D2 (V a b c d+V 0 y z t)) (D3 (V a b c d+V 0 y z t)),iU (D4 (V a b c d+V 0 y z t))]):=by
 obtain⟨e0,e1,e2,e3,e4⟩:=sum1 a b c d y z t ha
 rw[e0,e1,e2,e3,e4]
 clear e0 e1 e2 e3 e4
 obtain⟨a1,a2⟩:=ha
 obtain⟨b1,b2⟩:=hb
 obtain⟨c1,c2⟩:=hc
 obtain⟨d1,d2⟩:=hd
 obtain⟨y1,y2⟩:=hy
 obtain⟨z1,z2⟩:=hz
 obtain⟨t1,t2⟩:=ht
 go_enter Tryz.func75,Tryz.ntmps75
 go_wp2_with (first | (go_at_call 76;refine(Wf _ _ _ _ _).mono ?_;rintro e w' ⟨rfl,rfl⟩) | simp(disch:=omega) only[add64_0] | simp(disch:=omega) only[add64L])
 go_returns
 exact⟨rfl,by go_grown⟩
theorem add_2(a b c d z t:Int)(w:World)(ha:W64 a)(hb:W64 b)(hc:W64 c)(hd:W64 d)(hz:W64 z)(ht:W64 t)(hl:low 0 0 z t=2):
 CC 75 #[A4 a b c d,A4 0 0 z t] w (.tuple #[A4 (D0 (V a b c d+V 0 0 z t)) (D1 (V a b c d+V 0 0 z t)) (D2 (V a b c d+V 0 0 z t)) (D3 (V a b c d+V 0 0 z t)),iU (D4 (V a b c d+V 0 0 z t))]):=by
 obtain⟨e0,e1,e2,e3,e4⟩:=sum2 a b c d z t ha hb
 rw[e0,e1,e2,e3,e4]
 clear e0 e1 e2 e3 e4
 obtain⟨a1,a2⟩:=ha
 obtain⟨b1,b2⟩:=hb
 obtain⟨c1,c2⟩:=hc
 obtain⟨d1,d2⟩:=hd
 obtain⟨z1,z2⟩:=hz
 obtain⟨t1,t2⟩:=ht
 go_enter Tryz.func75,Tryz.ntmps75
 go_wp2_with (first | (go_at_call 76;refine(Wf _ _ _ _ _).mono ?_;rintro e w' ⟨rfl,rfl⟩) | simp(disch:=omega) only[add64_0] | simp(disch:=omega) only[add64L])
 go_returns
 exact⟨rfl,by go_grown⟩
theorem add_3(a b c d t:Int)(w:World)(ha:W64 a)(hb:W64 b)(hc:W64 c)(hd:W64 d)(ht:W64 t)(hl:low 0 0 0 t=3):
 CC 75 #[A4 a b c d,A4 0 0 0 t] w (.tuple #[A4 (D0 (V a b c d+V 0 0 0 t)) (D1 (V a b c d+V 0 0 0 t)) (D2 (V a b c d+V 0 0 0 t)) (D3 (V a b c d+V 0 0 0 t)),iU (D4 (V a b c d+V 0 0 0 t))]):=by
 obtain⟨e0,e1,e2,e3,e4⟩:=sum3 a b c d t ha hb hc
 rw[e0,e1,e2,e3,e4]
 clear e0 e1 e2 e3 e4
 obtain⟨a1,a2⟩:=ha
 obtain⟨b1,b2⟩:=hb
 obtain⟨c1,c2⟩:=hc
 obtain⟨d1,d2⟩:=hd
 obtain⟨t1,t2⟩:=ht
 go_enter Tryz.func75,Tryz.ntmps75
 go_wp2_with (first | (go_at_call 76;refine(Wf _ _ _ _ _).mono ?_;rintro e w' ⟨rfl,rfl⟩) | simp(disch:=omega) only[add64_0] | simp(disch:=omega) only[add64L])
 go_returns
 exact⟨rfl,by go_grown⟩
theorem add_4(a b c d:Int)(w:World)(ha:W64 a)(hb:W64 b)(hc:W64 c)(hd:W64 d)(hl:low 0 0 0 0=4):
 CC 75 #[A4 a b c d,A4 0 0 0 0] w (.tuple #[A4 (D0 (V a b c d+V 0 0 0 0)) (D1 (V a b c d+V 0 0 0 0)) (D2 (V a b c d+V 0 0 0 0)) (D3 (V a b c d+V 0 0 0 0)),iU (D4 (V a b c d+V 0 0 0 0))]):=by
 obtain⟨e0,e1,e2,e3,e4⟩:=sum4 a b c d ha hb hc hd
 rw[e0,e1,e2,e3,e4]
 clear e0 e1 e2 e3 e4
 obtain⟨a1,a2⟩:=ha
 obtain⟨b1,b2⟩:=hb
 obtain⟨c1,c2⟩:=hc
 obtain⟨d1,d2⟩:=hd
 go_enter Tryz.func75,Tryz.ntmps75
 go_wp2_with (first | (go_at_call 76;refine(Wf _ _ _ _ _).mono ?_;rintro e w' ⟨rfl,rfl⟩))
 go_returns
 exact⟨rfl,by go_grown⟩
theorem add_any(a b c d x y z t:Int)(w:World)(ha:W64 a)(hb:W64 b)(hc:W64 c)(hd:W64 d)(hx:W64 x)(hy:W64 y)(hz:W64 z)(ht:W64 t):
 CC 75 #[A4 a b c d,A4 x y z t] w (.tuple #[A4 (D0 (V a b c d+V x y z t)) (D1 (V a b c d+V x y z t)) (D2 (V a b c d+V x y z t)) (D3 (V a b c d+V x y z t)),iU (D4 (V a b c d+V x y z t))]):=by
 rcases low_cases x y z t with h | ⟨rfl,h⟩ | ⟨rfl,rfl,h⟩ | ⟨rfl,rfl,rfl,h⟩ | ⟨rfl,rfl,rfl,rfl,h⟩
 ·exact add_0 a b c d x y z t w ha hb hc hd hx hy hz ht h
 ·exact add_1 a b c d y z t w ha hb hc hd hy hz ht h
 ·exact add_2 a b c d z t w ha hb hc hd hz ht h
 ·exact add_3 a b c d t w ha hb hc hd ht h
 ·exact add_4 a b c d w ha hb hc hd h
theorem sub_0(a b c d x y z t:Int)(w:World)(ha:W64 a)(hb:W64 b)(hc:W64 c)(hd:W64 d)(hx:W64 x)(hy:W64 y)(hz:W64 z)(ht:W64 t)(hl:low x y z t=0):
 CC 52 #[A4 a b c d,A4 x y z t] w (.tuple #[A4 (D0 (V a b c d -V x y z t)) (D1 (V a b c d -V x y z t)) (D2 (V a b c d -V x y z t)) (D3 (V a b c d -V x y z t)),iU (-D4 (V a b c d -V x y z t))]):=by
 obtain⟨e0,e1,e2,e3,e4⟩:=dif0 a b c d x y z t
 rw[e0,e1,e2,e3,e4]
 clear e0 e1 e2 e3 e4
 obtain⟨a1,a2⟩:=ha
 obtain⟨b1,b2⟩:=hb
 obtain⟨c1,c2⟩:=hc
 obtain⟨d1,d2⟩:=hd
 obtain⟨x1,x2⟩:=hx
 obtain⟨y1,y2⟩:=hy
 obtain⟨z1,z2⟩:=hz
 obtain⟨t1,t2⟩:=ht
 go_enter Tryz.func52,Tryz.ntmps52
 go_wp2_with (first | (go_at_call 76;refine(Wf _ _ _ _ _).mono ?_;rintro e w' ⟨rfl,rfl⟩) | simp(disch:=omega) only[sub64_0] | simp(disch:=omega) only[sub64L])
 go_returns
 exact⟨rfl,by go_grown⟩
theorem sub_1(a b c d y z t:Int)(w:World)(ha:W64 a)(hb:W64 b)(hc:W64 c)(hd:W64 d)(hy:W64 y)(hz:W64 z)(ht:W64 t)(hl:low 0 y z t=1):
 CC 52 #[A4 a b c d,A4 0 y z t] w (.tuple #[A4 (D0 (V a b c d -V 0 y z t)) (D1 (V a b c d -V 0 y z t)) (D2 (V a b c d -V 0 y z t)) (D3 (V a b c d -V 0 y z t)),iU (-D4 (V a b c d -V 0 y z t))]):=by
 obtain⟨e0,e1,e2,e3,e4⟩:=dif1 a b c d y z t ha
 rw[e0,e1,e2,e3,e4]
 clear e0 e1 e2 e3 e4
 obtain⟨a1,a2⟩:=ha
 obtain⟨b1,b2⟩:=hb
 obtain⟨c1,c2⟩:=hc
 obtain⟨d1,d2⟩:=hd
 obtain⟨y1,y2⟩:=hy
 obtain⟨z1,z2⟩:=hz
 obtain⟨t1,t2⟩:=ht
 go_enter Tryz.func52,Tryz.ntmps52
 go_wp2_with (first | (go_at_call 76;refine(Wf _ _ _ _ _).mono ?_;rintro e w' ⟨rfl,rfl⟩) | simp(disch:=omega) only[sub64_0] | simp(disch:=omega) only[sub64L])
 go_returns
 exact⟨rfl,by go_grown⟩
theorem sub_2(a b c d z t:Int)(w:World)(ha:W64 a)(hb:W64 b)(hc:W64 c)(hd:W64 d)(hz:W64 z)(ht:W64 t)(hl:low 0 0 z t=2):
 CC 52 #[A4 a b c d,A4 0 0 z t] w (.tuple #[A4 (D0 (V a b c d -V 0 0 z t)) (D1 (V a b c d -V 0 0 z t)) (D2 (V a b c d -V 0 0 z t)) (D3 (V a b c d -V 0 0 z t)),iU (-D4 (V a b c d -V 0 0 z t))]):=by
 obtain⟨e0,e1,e2,e3,e4⟩:=dif2 a b c d z t ha hb
 rw[e0,e1,e2,e3,e4]
 clear e0 e1 e2 e3 e4
 obtain⟨a1,a2⟩:=ha
 obtain⟨b1,b2⟩:=hb
 obtain⟨c1,c2⟩:=hc
 obtain⟨d1,d2⟩:=hd
 obtain⟨z1,z2⟩:=hz
 obtain⟨t1,t2⟩:=ht
 go_enter Tryz.func52,Tryz.ntmps52
 go_wp2_with (first | (go_at_call 76;refine(Wf _ _ _ _ _).mono ?_;rintro e w' ⟨rfl,rfl⟩) | simp(disch:=omega) only[sub64_0] | simp(disch:=omega) only[sub64L])
 go_returns
 exact⟨rfl,by go_grown⟩
theorem sub_3(a b c d t:Int)(w:World)(ha:W64 a)(hb:W64 b)(hc:W64 c)(hd:W64 d)(ht:W64 t)(hl:low 0 0 0 t=3):
 CC 52 #[A4 a b c d,A4 0 0 0 t] w (.tuple #[A4 (D0 (V a b c d -V 0 0 0 t)) (D1 (V a b c d -V 0 0 0 t)) (D2 (V a b c d -V 0 0 0 t)) (D3 (V a b c d -V 0 0 0 t)),iU (-D4 (V a b c d -V 0 0 0 t))]):=by
 obtain⟨e0,e1,e2,e3,e4⟩:=dif3 a b c d t ha hb hc
 rw[e0,e1,e2,e3,e4]
 clear e0 e1 e2 e3 e4
 obtain⟨a1,a2⟩:=ha
 obtain⟨b1,b2⟩:=hb
 obtain⟨c1,c2⟩:=hc
 obtain⟨d1,d2⟩:=hd
 obtain⟨t1,t2⟩:=ht
 go_enter Tryz.func52,Tryz.ntmps52
 go_wp2_with (first | (go_at_call 76;refine(Wf _ _ _ _ _).mono ?_;rintro e w' ⟨rfl,rfl⟩) | simp(disch:=omega) only[sub64_0] | simp(disch:=omega) only[sub64L])
 go_returns
 exact⟨rfl,by go_grown⟩
theorem sub_4(a b c d:Int)(w:World)(ha:W64 a)(hb:W64 b)(hc:W64 c)(hd:W64 d)(hl:low 0 0 0 0=4):
 CC 52 #[A4 a b c d,A4 0 0 0 0] w (.tuple #[A4 (D0 (V a b c d -V 0 0 0 0)) (D1 (V a b c d -V 0 0 0 0)) (D2 (V a b c d -V 0 0 0 0)) (D3 (V a b c d -V 0 0 0 0)),iU (-D4 (V a b c d -V 0 0 0 0))]):=by
 obtain⟨e0,e1,e2,e3,e4⟩:=dif4 a b c d ha hb hc hd
 rw[e0,e1,e2,e3,e4]
 clear e0 e1 e2 e3 e4
 obtain⟨a1,a2⟩:=ha
 obtain⟨b1,b2⟩:=hb
 obtain⟨c1,c2⟩:=hc
 obtain⟨d1,d2⟩:=hd
 go_enter Tryz.func52,Tryz.ntmps52
 go_wp2_with (first | (go_at_call 76;refine(Wf _ _ _ _ _).mono ?_;rintro e w' ⟨rfl,rfl⟩))
 go_returns
 exact⟨rfl,by go_grown⟩
theorem sub_any(a b c d x y z t:Int)(w:World)(ha:W64 a)(hb:W64 b)(hc:W64 c)(hd:W64 d)(hx:W64 x)(hy:W64 y)(hz:W64 z)(ht:W64 t):
 CC 52 #[A4 a b c d,A4 x y z t] w (.tuple #[A4 (D0 (V a b c d -V x y z t)) (D1 (V a b c d -V x y z t)) (D2 (V a b c d -V x y z t)) (D3 (V a b c d -V x y z t)),iU (-D4 (V a b c d -V x y z t))]):=by
 rcases low_cases x y z t with h | ⟨rfl,h⟩ | ⟨rfl,rfl,h⟩ | ⟨rfl,rfl,rfl,h⟩ | ⟨rfl,rfl,rfl,rfl,h⟩
 ·exact sub_0 a b c d x y z t w ha hb hc hd hx hy hz ht h
 ·exact sub_1 a b c d y z t w ha hb hc hd hy hz ht h
 ·exact sub_2 a b c d z t w ha hb hc hd hz ht h
 ·exact sub_3 a b c d t w ha hb hc hd ht h
 ·exact sub_4 a b c d w ha hb hc hd h
end Go.Proofs.YtdhlekdohebbbaaGreatDoor
