import Derived.Test.YtgieoghechekpaaGreatDoorMC0
namespace Go.Proofs.YtgieoghechekpaaGreatDoor
set_option linter.unusedVariables false
set_option linter.unusedSimpArgs false
set_option maxRecDepth 100000
set_option maxHeartbeats 4000000
section
open Go.RowKit
section
variable {lo:Nat} {w u v:World} {base:Nat} {ks:List (Nat×List Value)} {ex:List (Nat×Bool×List Value×List Value)} {nw:List (Bool×Bool×Value×List Value×List Value)}
end
section
section
variable {P:Program} {ops:Array Oper} {Q:Exit->Act->World->Prop} {id:Nat} {w:World} {fr:List Value}
end
abbrev LN(n:Int):List Value:=[.int .u64 (D0 n),.int .u64 (D1 n),.int .u64 (D2 n),.int .u64 (D3 n)]
abbrev LW(n:Int):List Value:=[.int .u64 (D0 n),.int .u64 (D1 n),.int .u64 (D2 n),.int .u64 (D3 n),.int .u64 (D0 (D4 n)),.int .u64 (D1 (D4 n)),.int .u64 (D2 (D4 n)),.int .u64 (D3 (D4 n))]
abbrev L0s:List Value:=[.int .u64 0,.int .u64 0,.int .u64 0,.int .u64 0]
abbrev L0w:List Value:=[.int .u64 0,.int .u64 0,.int .u64 0,.int .u64 0,.int .u64 0,.int .u64 0,.int .u64 0,.int .u64 0]
end
section
section
variable {P:Program} {o:Oper} {a:Act} {w:World} {K:Act->World->Prop} {Q:Exit->Act->World->Prop}
end
end
section
section
variable {P:Program} {ops:Array Oper} {Q:Exit->Act->World->Prop} {i:Nat} {o:Oper} {a:Act} {w:World} {fr:List Value} {S:List Nat} {t:Nat->Value} {I:(Nat->Value)->World->Prop} {d:Nat} {v:Value}
end
section
variable {P:Program} {ops:Array Oper} {Q:Exit->Act->World->Prop} {i:Nat} {o:Oper} {a:Act} {fr:List Value} {S:List Nat} {t:Nat->Value} {I:(Nat->Value)->World->Prop} {d:Nat} {lo base:Nat} {w u:World} {ks:List (Nat×List Value)} {ex:List (Nat×Bool×List Value×List Value)} {nw:List (Bool×Bool×Value×List Value×List Value)}
end
end
end
section
theorem Y0:EnT 58:=fun _ _=>by kernel_rfl
theorem Xk:EnT 92:=fun _ _=>by kernel_rfl
theorem Xl:EnT 72:=fun _ _=>by kernel_rfl
theorem ent_limb_Divide:EnT 75:=fun _ _=>by kernel_rfl
theorem Z7:EnT 59:=fun _ _=>by kernel_rfl
theorem Zf:EnT 35:=fun _ _=>by kernel_rfl
theorem Zv:EnT 36:=fun _ _=>by kernel_rfl
theorem ent_mod_Sub:EnT 77:=fun _ _=>by kernel_rfl
theorem ent_mod_Mul:EnT 54:=fun _ _=>by kernel_rfl
theorem Z6:EnT 60:=fun _ _=>by kernel_rfl
theorem ent_mod_Inverse:EnT 61:=fun _ _=>by kernel_rfl
theorem ent_mod_divide:EnT 90:=fun _ _=>by kernel_rfl
theorem ent_mod_low:EnT 91:=fun _ _=>by kernel_rfl
theorem Yv:EnT 76:=fun _ _=>by kernel_rfl
theorem Zt:EnT 42:=fun _ _=>by kernel_rfl
theorem Y5:EnT 48:=fun _ _=>by kernel_rfl
theorem Zp:EnT 26:=fun _ _=>by kernel_rfl
theorem Yk:EnT 23:=fun _ _=>by kernel_rfl
theorem Zm:EnT 25:=fun _ _=>by kernel_rfl
theorem Z9:EnT 19:=fun _ _=>by kernel_rfl
theorem al_api_Nat(w:World):(Instr.alloc 24 true (.tuple #[])).run Tryz.prog w= .ok (.pointer (some ⟨w.heap.size,0,none⟩)) (w.alloc (.cells L0s.toArray 24)):=by kernel_rfl
theorem al_api_Wide(w:World):(Instr.alloc 59 true (.tuple #[])).run Tryz.prog w= .ok (.pointer (some ⟨w.heap.size,0,none⟩)) (w.alloc (.cells L0w.toArray 59)):=by kernel_rfl
theorem info_api_Nat:(Tryz.prog.info? 24).map (·.size)=some 4:=by kernel_rfl
theorem info_api_Wide:(Tryz.prog.info? 59).map (·.size)=some 8:=by kernel_rfl
end
end Go.Proofs.YtgieoghechekpaaGreatDoor
