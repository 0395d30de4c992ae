import Derived.Test.YtoffgfhilkpdpaaGreatDoorSH1
import Derived.Shelf.Spec.BitsCarry
namespace Go.Proofs.YtoffgfhilkpdpaaGreatDoor
set_option linter.unusedVariables false
set_option linter.unusedSimpArgs false
set_option maxRecDepth 100000
set_option maxHeartbeats 4000000
open Go.RowKit
theorem add64L(x y c:Int)(hx:0<=x)(hy:0<=y)(hc0:0<=c)(hc:c<=1)(w:World):(callFunc 147 #[iU x,iU y,iU c]).run Tryz.prog w=
 .ok (.value (.tuple #[iU ((x+y+c)%18446744073709551616),iU ((x+y+c)/18446744073709551616)])) w:=by
 rw[run_callFunc_extern Tryz.func147 (by kernel_rfl) (by kernel_rfl) (by kernel_rfl) (e:=add64Entry) (by kernel_rfl),run_add64 x y c hx hy hc0 hc]
 rfl
theorem add64_0(x y:Int)(hx:0<=x)(hy:0<=y)(w:World):(callFunc 147 #[iU x,iU y,iU 0]).run Tryz.prog w=
 .ok (.value (.tuple #[iU ((x+y)%18446744073709551616),iU ((x+y)/18446744073709551616)])) w:=by
 simpa using add64L x y 0 hx hy (Int.le_refl 0) Z2 w
theorem sub64L(x y b:Int)(hx:0<=x)(hx':x<18446744073709551616)(hy:0<=y)(hy':y<18446744073709551616)(hb0:0<=b)(hb:b<=1)(w:World):(callFunc 144 #[iU x,iU y,iU b]).run Tryz.prog w=
 .ok (.value (.tuple #[iU ((x -y -b)%18446744073709551616),iU (-((x -y -b)/18446744073709551616))])) w:=by
 obtain⟨x,rfl⟩:=Int.eq_ofNat_of_zero_le hx
 obtain⟨y,rfl⟩:=Int.eq_ofNat_of_zero_le hy
 obtain⟨b,rfl⟩:=Int.eq_ofNat_of_zero_le hb0
 rw[run_callFunc_extern Tryz.func144 (by kernel_rfl) (by kernel_rfl) (by kernel_rfl) (e:=sub64Entry) (by kernel_rfl),run_sub64 x y b Z1]
 have e1:(((x+18446744073709551616 -y -b)%18446744073709551616:Nat):Int)=((x:Int) -y -b)%18446744073709551616:=Z1
 have e2:((if x<y+b then 1 else 0:Nat):Int)= -(((x:Int) -y -b)/18446744073709551616):=by split<;>omega
 rw[e1,e2]
 rfl
theorem sub64_0(x y:Int)(hx:0<=x)(hx':x<18446744073709551616)(hy:0<=y)(hy':y<18446744073709551616)(w:World):(callFunc 144 #[iU x,iU y,iU 0]).run Tryz.prog w=
 .ok (.value (.tuple #[iU ((x -y)%18446744073709551616),iU (-((x -y)/18446744073709551616))])) w:=by
 simpa using sub64L x y 0 hx hx' hy hy' (Int.le_refl 0) Z2 w
def low(a b c d:Int):Int:=if a≠0 then 0 else if b≠0 then 1 else if c≠0 then 2 else if d≠0 then 3 else 4
theorem low_cases(a b c d:Int):low a b c d=0\/(a=0/\low 0 b c d=1)\/(a=0/\b=0/\low 0 0 c d=2)\/(a=0/\b=0/\c=0/\low 0 0 0 d=3)\/(a=0/\b=0/\c=0/\d=0/\low 0 0 0 0=4):=by
 unfold low
 by_cases h1:a=0<;>by_cases h2:b=0<;>by_cases h3:c=0<;>by_cases h4:d=0<;>simp[h1,h2,h3,h4]
theorem W1(a b c d:Int)(w:World):
 Calls Tryz.prog 143 #[A4 a b c d] w fun e w'=>e= .returned (iI (low a b c d))/\w'=w.alloc (.cells #[iU a,iU b,iU c,iU d] 24):=by
 unfold low
 go_enter Tryz.func143,Tryz.ntmps143
 go_wp2
 go_rounds 5
 all_goals (go_ret;refine⟨?_,rfl⟩;simp_all)
theorem add_0(a b c d x y z t:Int)(w:World)(ha:W64 a)(hb:W64 b)(hc:W64 c)(hd:W64 d)(hx:W64 x)(hy:W64 y)(hz:W64 z)(ht:W64 t)(hl:low x y z t=0):
 CC 127 #[A4 a b c d,A4 x y z t] w (.tuple #[A4 (D0 (V a b c d+V x y z t)) (D1 (V a b c d+V x y z t)) (D2 (V a b c d+V x y z t)) (D3 (V a b c d+V x y z t)),iU (D4 (V a b c d+V x y z t))]):=by
 obtain⟨e0,e1,e2,e3,e4⟩:=sum0 a b c d x y z t
 rw[e0,e1,e2,e3,e4]
 clear e0 e1 e2 e3 e4
 obtain⟨a1,a2⟩:=ha
 obtain⟨b1,b2⟩:=hb
 obtain⟨c1,c2⟩:=hc
 obtain⟨d1,d2⟩:=hd
 obtain⟨x1,x2⟩:=hx
 obtain⟨y1,y2⟩:=hy
 obtain⟨z1,z2⟩:=hz
 obtain⟨t1,t2⟩:=ht
 go_enter Tryz.func127,Tryz.ntmps127
 go_wp2_with (first | (go_at_call 143;refine(W1 _ _ _ _ _).mono ?_;rintro e w' ⟨rfl,rfl⟩) | simp(disch:=omega) only[add64_0] | simp(disch:=omega) only[add64L])
 go_returns
 exact⟨rfl,by go_grown⟩
theorem add_1(a b c d y z t:Int)(w:World)(ha:W64 a)(hb:W64 b)(hc:W64 c)(hd:W64 d)(hy:W64 y)(hz:W64 z)(ht:W64 t)(hl:low 0 y z t=1):
 CC 127 #[A4 a b c d,A4 0 y z t] w (.tuple #[A4 (D0 (V a b c d+V 0 y z t)) (D1 (V a b c d+V 0 y z t)) (D2 (V a b c d+V 0 y z t)) (D3 (V a b c d+V 0 y z t)),iU (D4 (V a b c d+V 0 y z t))]):=by
 obtain⟨e0,e1,e2,e3,e4⟩:=sum1 a b c d y z t ha
 rw[e0,e1,e2,e3,e4]
 clear e0 e1 e2 e3 e4
 obtain⟨a1,a2⟩:=ha
 obtain⟨b1,b2⟩:=hb
 obtain⟨c1,c2⟩:=hc
 obtain⟨d1,d2⟩:=hd
 obtain⟨y1,y2⟩:=hy
 obtain⟨z1,z2⟩:=hz
 obtain⟨t1,t2⟩:=ht
 go_enter Tryz.func127,Tryz.ntmps127
 go_wp2_with (first | (go_at_call 143;refine(W1 _ _ _ _ _).mono ?_;rintro e w' ⟨rfl,rfl⟩) | simp(disch:=omega) only[add64_0] | simp(disch:=omega) only[add64L])
 go_returns
 exact⟨rfl,by go_grown⟩
theorem add_2(a b c d z t:Int)(w:World)(ha:W64 a)(hb:W64 b)(hc:W64 c)(hd:W64 d)(hz:W64 z)(ht:W64 t)(hl:low 0 0 z t=2):
 CC 127 #[A4 a b c d,A4 0 0 z t] w (.tuple #[A4 (D0 (V a b c d+V 0 0 z t)) (D1 (V a b c d+V 0 0 z t)) (D2 (V a b c d+V 0 0 z t)) (D3 (V a b c d+V 0 0 z t)),iU (D4 (V a b c d+V 0 0 z t))]):=by
 obtain⟨e0,e1,e2,e3,e4⟩:=sum2 a b c d z t ha hb
 rw[e0,e1,e2,e3,e4]
 clear e0 e1 e2 e3 e4
 obtain⟨a1,a2⟩:=ha
 obtain⟨b1,b2⟩:=hb
 obtain⟨c1,c2⟩:=hc
 obtain⟨d1,d2⟩:=hd
 obtain⟨z1,z2⟩:=hz
 obtain⟨t1,t2⟩:=ht
 go_enter Tryz.func127,Tryz.ntmps127
 go_wp2_with (first | (go_at_call 143;refine(W1 _ _ _ _ _).mono ?_;rintro e w' ⟨rfl,rfl⟩) | simp(disch:=omega) only[add64_0] | simp(disch:=omega) only[add64L])
 go_returns
 exact⟨rfl,by go_grown⟩
theorem add_3(a b c d t:Int)(w:World)(ha:W64 a)(hb:W64 b)(hc:W64 c)(hd:W64 d)(ht:W64 t)(hl:low 0 0 0 t=3):
 CC 127 #[A4 a b c d,A4 0 0 0 t] w (.tuple #[A4 (D0 (V a b c d+V 0 0 0 t)) (D1 (V a b c d+V 0 0 0 t)) (D2 (V a b c d+V 0 0 0 t)) (D3 (V a b c d+V 0 0 0 t)),iU (D4 (V a b c d+V 0 0 0 t))]):=by
 obtain⟨e0,e1,e2,e3,e4⟩:=sum3 a b c d t ha hb hc
 rw[e0,e1,e2,e3,e4]
 clear e0 e1 e2 e3 e4
 obtain⟨a1,a2⟩:=ha
 obtain⟨b1,b2⟩:=hb
 obtain⟨c1,c2⟩:=hc
 obtain⟨d1,d2⟩:=hd
 obtain⟨t1,t2⟩:=ht
 go_enter Tryz.func127,Tryz.ntmps127
 go_wp2_with (first | (go_at_call 143;refine(W1 _ _ _ _ _).mono ?_;rintro e w' ⟨rfl,rfl⟩) | simp(disch:=omega) only[add64_0] | simp(disch:=omega) only[add64L])
 go_returns
 exact⟨rfl,by go_grown⟩
theorem add_4(a b c d:Int)(w:World)(ha:W64 a)(hb:W64 b)(hc:W64 c)(hd:W64 d)(hl:low 0 0 0 0=4):
 CC 127 #[A4 a b c d,A4 0 0 0 0] w (.tuple #[A4 (D0 (V a b c d+V 0 0 0 0)) (D1 (V a b c d+V 0 0 0 0)) (D2 (V a b c d+V 0 0 0 0)) (D3 (V a b c d+V 0 0 0 0)),iU (D4 (V a b c d+V 0 0 0 0))]):=by
 obtain⟨e0,e1,e2,e3,e4⟩:=sum4 a b c d ha hb hc hd
 rw[e0,e1,e2,e3,e4]
 clear e0 e1 e2 e3 e4
 obtain⟨a1,a2⟩:=ha
 obtain⟨b1,b2⟩:=hb
 obtain⟨c1,c2⟩:=hc
 obtain⟨d1,d2⟩:=hd
 go_enter Tryz.func127,Tryz.ntmps127
 go_wp2_with (first | (go_at_call 143;refine(W1 _ _ _ _ _).mono ?_;rintro e w' ⟨rfl,rfl⟩))
 go_returns
 exact⟨rfl,by go_grown⟩
theorem add_any(a b c d x y z t:Int)(w:World)(ha:W64 a)(hb:W64 b)(hc:W64 c)(hd:W64 d)(hx:W64 x)(hy:W64 y)(hz:W64 z)(ht:W64 t):
 CC 127 #[A4 a b c d,A4 x y z t] w (.tuple #[A4 (D0 (V a b c d+V x y z t)) (D1 (V a b c d+V x y z t)) (D2 (V a b c d+V x y z t)) (D3 (V a b c d+V x y z t)),iU (D4 (V a b c d+V x y z t))]):=by
 rcases low_cases x y z t with h | ⟨rfl,h⟩ | ⟨rfl,rfl,h⟩ | ⟨rfl,rfl,rfl,h⟩ | ⟨rfl,rfl,rfl,rfl,h⟩
 ·exact add_0 a b c d x y z t w ha hb hc hd hx hy hz ht h
 ·exact add_1 a b c d y z t w ha hb hc hd hy hz ht h
 ·exact add_2 a b c d z t w ha hb hc hd hz ht h
 ·exact add_3 a b c d t w ha hb hc hd ht h
 ·exact add_4 a b c d w ha hb hc hd h
theorem sub_0(a b c d x y z t:Int)(w:World)(ha:W64 a)(hb:W64 b)(hc:W64 c)(hd:W64 d)(hx:W64 x)(hy:W64 y)(hz:W64 z)(ht:W64 t)(hl:low x y z t=0):
 CC 122 #[A4 a b c d,A4 x y z t] w (.tuple #[A4 (D0 (V a b c d -V x y z t)) (D1 (V a b c d -V x y z t)) (D2 (V a b c d -V x y z t)) (D3 (V a b c d -V x y z t)),iU (-D4 (V a b c d -V x y z t))]):=by
 obtain⟨e0,e1,e2,e3,e4⟩:=dif0 a b c d x y z t
 rw[e0,e1,e2,e3,e4]
 clear e0 e1 e2 e3 e4
 obtain⟨a1,a2⟩:=ha
 obtain⟨b1,b2⟩:=hb
 obtain⟨c1,c2⟩:=hc
 obtain⟨d1,d2⟩:=hd
 obtain⟨x1,x2⟩:=hx
 obtain⟨y1,y2⟩:=hy
 obtain⟨z1,z2⟩:=hz
 obtain⟨t1,t2⟩:=ht
 go_enter Tryz.func122,Tryz.ntmps122
 go_wp2_with (first | (go_at_call 143;refine(W1 _ _ _ _ _).mono ?_;rintro e w' ⟨rfl,rfl⟩) | simp(disch:=omega) only[sub64_0] | simp(disch:=omega) only[sub64L])
 go_returns
 exact⟨rfl,by go_grown⟩
theorem sub_1(a b c d y z t:Int)(w:World)(ha:W64 a)(hb:W64 b)(hc:W64 c)(hd:W64 d)(hy:W64 y)(hz:W64 z)(ht:W64 t)(hl:low 0 y z t=1):
 CC 122 #[A4 a b c d,A4 0 y z t] w (.tuple #[A4 (D0 (V a b c d -V 0 y z t)) (D1 (V a b c d -V 0 y z t)) (D2 (V a b c d -V 0 y z t)) (D3 (V a b c d -V 0 y z t)),iU (-D4 (V a b c d -V 0 y z t))]):=by
 obtain⟨e0,e1,e2,e3,e4⟩:=dif1 a b c d y z t ha
 rw[e0,e1,e2,e3,e4]
 clear e0 e1 e2 e3 e4
 obtain⟨a1,a2⟩:=ha
 obtain⟨b1,b2⟩:=hb
 obtain⟨c1,c2⟩:=hc
 obtain⟨d1,d2⟩:=hd
 obtain⟨y1,y2⟩:=hy
 obtain⟨z1,z2⟩:=hz
 obtain⟨t1,t2⟩:=ht
 go_enter Tryz.func122,Tryz.ntmps122
 go_wp2_with (first | (go_at_call 143;refine(W1 _ _ _ _ _).mono ?_;rintro e w' ⟨rfl,rfl⟩) | simp(disch:=omega) only[sub64_0] | simp(disch:=omega) only[sub64L])
 go_returns
 exact⟨rfl,by go_grown⟩
theorem sub_2(a b c d z t:Int)(w:World)(ha:W64 a)(hb:W64 b)(hc:W64 c)(hd:W64 d)(hz:W64 z)(ht:W64 t)(hl:low 0 0 z t=2):
 CC 122 #[A4 a b c d,A4 0 0 z t] w (.tuple #[A4 (D0 (V a b c d -V 0 0 z t)) (D1 (V a b c d -V 0 0 z t)) (D2 (V a b c d -V 0 0 z t)) (D3 (V a b c d -V 0 0 z t)),iU (-D4 (V a b c d -V 0 0 z t))]):=by
 obtain⟨e0,e1,e2,e3,e4⟩:=dif2 a b c d z t ha hb
 rw[e0,e1,e2,e3,e4]
 clear e0 e1 e2 e3 e4
 obtain⟨a1,a2⟩:=ha
 obtain⟨b1,b2⟩:=hb
 obtain⟨c1,c2⟩:=hc
 obtain⟨d1,d2⟩:=hd
 obtain⟨z1,z2⟩:=hz
 obtain⟨t1,t2⟩:=ht
 go_enter Tryz.func122,Tryz.ntmps122
 go_wp2_with (first | (go_at_call 143;refine(W1 _ _ _ _ _).mono ?_;rintro e w' ⟨rfl,rfl⟩) | simp(disch:=omega) only[sub64_0] | simp(disch:=omega) only[sub64L])
 go_returns
 exact⟨rfl,by go_grown⟩
theorem sub_3(a b c d t:Int)(w:World)(ha:W64 a)(hb:W64 b)(hc:W64 c)(hd:W64 d)(ht:W64 t)(hl:low 0 0 0 t=3):
 CC 122 #[A4 a b c d,A4 0 0 0 t] w (.tuple #[A4 (D0 (V a b c d -V 0 0 0 t)) (D1 (V a b c d -V 0 0 0 t)) (D2 (V a b c d -V 0 0 0 t)) (D3 (V a b c d -V 0 0 0 t)),iU (-D4 (V a b c d -V 0 0 0 t))]):=by
 obtain⟨e0,e1,e2,e3,e4⟩:=dif3 a b c d t ha hb hc
 rw[e0,e1,e2,e3,e4]
 clear e0 e1 e2 e3 e4
 obtain⟨a1,a2⟩:=ha
 obtain⟨b1,b2⟩:=hb
 obtain⟨c1,c2⟩:=hc
 obtain⟨d1,d2⟩:=hd
 obtain⟨t1,t2⟩:=ht
 go_enter Tryz.func122,Tryz.ntmps122
 go_wp2_with (first | (go_at_call 143;refine(W1 _ _ _ _ _).mono ?_;rintro e w' ⟨rfl,rfl⟩) | simp(disch:=omega) only[sub64_0] | simp(disch:=omega) only[sub64L])
 go_returns
 exact⟨rfl,by go_grown⟩
theorem sub_4(a b c d:Int)(w:World)(ha:W64 a)(hb:W64 b)(hc:W64 c)(hd:W64 d)(hl:low 0 0 0 0=4):
 CC 122 #[A4 a b c d,A4 0 0 0 0] w (.tuple #[A4 (D0 (V a b c d -V 0 0 0 0)) (D1 (V a b c d -V 0 0 0 0)) (D2 (V a b c d -V 0 0 0 0)) (D3 (V a b c d -V 0 0 0 0)),iU (-D4 (V a b c d -V 0 0 0 0))]):=by
 obtain⟨e0,e1,e2,e3,e4⟩:=dif4 a b c d ha hb hc hd
 rw[e0,e1,e2,e3,e4]
 clear e0 e1 e2 e3 e4
 obtain⟨a1,a2⟩:=ha
 obtain⟨b1,b2⟩:=hb
 obtain⟨c1,c2⟩:=hc
 obtain⟨d1,d2⟩:=hd
 go_enter Tryz.func122,Tryz.ntmps122
 go_wp2_with (first | (go_at_call 143;refine(W1 _ _ _ _ _).mono ?_;rintro e w' ⟨rfl,rfl⟩))
 go_returns
 exact⟨rfl,by go_grown⟩
theorem sub_any(a b c d x y z t:Int)(w:World)(ha:W64 a)(hb:W64 b)(hc:W64 c)(hd:W64 d)(hx:W64 x)(hy:W64 y)(hz:W64 z)(ht:W64 t):
 CC 122 #[A4 a b c d,A4 x y z t] w (.tuple #[A4 (D0 (V a b c d -V x y z t)) (D1 (V a b c d -V x y z t)) (D2 (V a b c d -V x y z t)) (D3 (V a b c d -V x y z t)),iU (-D4 (V a b c d -V x y z t))]):=by
 rcases low_cases x y z t with h | ⟨rfl,h⟩ | ⟨rfl,rfl,h⟩ | ⟨rfl,rfl,rfl,h⟩ | ⟨rfl,rfl,rfl,rfl,h⟩
 ·exact sub_0 a b c d x y z t w ha hb hc hd hx hy hz ht h
 ·exact sub_1 a b c d y z t w ha hb hc hd hy hz ht h
 ·exact sub_2 a b c d z t w ha hb hc hd hz ht h
 ·exact sub_3 a b c d t w ha hb hc hd ht h
 ·exact sub_4 a b c d w ha hb hc hd h
end Go.Proofs.YtoffgfhilkpdpaaGreatDoor
