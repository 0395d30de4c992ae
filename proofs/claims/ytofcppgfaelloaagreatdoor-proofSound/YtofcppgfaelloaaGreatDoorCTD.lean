import Derived.Test.YtofcppgfaelloaaGreatDoorCTA
namespace Go.Proofs.YtofcppgfaelloaaGreatDoor
set_option linter.unusedVariables false
set_option linter.unusedSimpArgs false
set_option maxRecDepth 100000
set_option maxHeartbeats 4000000
open Go.RowKit
theorem smB_iff {x:Int}:smB x=true↔Sm x:=by simp[smB]
theorem crB_pr {cs:List (Int×Int×Int)} (hin: ∀j,j<cs.length->In (cat cs j).1/\In (cat cs j).2.1/\In (cat cs j).2.2): ∀k,k<cs.length->crB cs (k+1)=true->Pr (cat cs k).1.toNat
 | 0,hk,h=>by
  rw[crB,Bool.and_eq_true,Bool.and_eq_true] at h
  have hs:smB (cat cs 0).2.1=true:=h.2.1
  exact(stB_iff.1 h.2.2).pr (hin 0 hk).2.2.1 (smB_iff.1 hs).pr
 | k+1,hk,h=>by
  rw[crB,Bool.and_eq_true,Bool.and_eq_true] at h
  have ih:=crB_pr hin k (by omega) h.1
  have e:(cat cs (k+1)).2.1=(cat cs k).1:=by have:=h.2.1;rw[knB] at this;simpa using this
  exact(stB_iff.1 h.2.2).pr (hin (k+1) hk).2.2.1 (by rw[e];exact ih)
theorem cfB_pr {cs:List (Int×Int×Int)} (hin: ∀j,j<cs.length->In (cat cs j).1/\In (cat cs j).2.1/\In (cat cs j).2.2) (h:cfB cs=true):0<cs.length/\Pr (cat cs (cs.length -1)).1.toNat:=by
 rw[cfB,Bool.and_eq_true] at h
 have h0:0<cs.length:=by simpa using h.2
 refine⟨h0,crB_pr hin _ (by omega) ?_⟩
 rw[show cs.length -1+1=cs.length by omega];exact h.1
theorem bdX (x:Int) (h0:0<=x) (h1:x<18446744073709551616) (w:World):(Instr.build 24 [(0,.int .u64 x)].toArray).run Tryz.prog w= .ok (NV x) w:=by
 rw[Vn h0 h1];kernel_rfl
theorem Sm.not {x d:Int} (h2:2<=d) (hd:d<x) (hr:x%d=0): ¬Sm x:=fun h=>by
 have hp:=h.pr
 have:d.toNat∣x.toNat:=by
  have e:(d:Int)∣x:=Int.dvd_of_emod_eq_zero hr
  rw[<-Int.toNat_of_nonneg (show 0<=d by omega),<-Int.toNat_of_nonneg (show 0<=x by omega)] at e
  exact Int.ofNat_dvd.1 e
 rcases hp.2 _ this with e | e<;>omega
theorem Xi (n m:Int) (w:World) (hn:In n) (hm:In m):CC 22 #[NV n,NV m] w (.int .i64 (cmpI n m)):=by
 have k:=Te _ _ _ _ _ _ _ _ w (W_D0 n) (W_D1 n) (W_D2 n) (W_D3 n) (W_D0 m) (W_D1 m) (W_D2 m) (W_D3 m)
 simp only[V_In hn,V_In hm] at k
 exact k
theorem Ze:EnT 22:=fun _ _=>by kernel_rfl
theorem D0_odd (n:Int):D0 n%2=n%2:=by unfold D0;omega
theorem cmp_lt0 (n m:Int):decide (cmpI n m<0)=decide (n<m):=by
 unfold cmpI;split
 ·simp[*]
 ·split<;>simp[*]<;>omega
end Go.Proofs.YtofcppgfaelloaaGreatDoor
