import Derived.Test.YtgieoghechekpaaDoorSN
namespace Go.Proofs.YtgieoghechekpaaDoor
set_option linter.unusedVariables false
set_option linter.unusedSimpArgs false
set_option maxRecDepth 100000
set_option maxHeartbeats 4000000
section
open Go.RowKit
section
variable {lo:Nat} {w u v:World} {base:Nat} {ks:List (Nat×List Value)} {ex:List (Nat×Bool×List Value×List Value)} {nw:List (Bool×Bool×Value×List Value×List Value)}
end
section
section
variable {P:Program} {ops:Array Oper} {Q:Exit->Act->World->Prop} {id:Nat} {w:World} {fr:List Value}
end
abbrev LN(n:Int):List Value:=[.int .u64 (D0 n),.int .u64 (D1 n),.int .u64 (D2 n),.int .u64 (D3 n)]
abbrev LW(n:Int):List Value:=[.int .u64 (D0 n),.int .u64 (D1 n),.int .u64 (D2 n),.int .u64 (D3 n),.int .u64 (D0 (D4 n)),.int .u64 (D1 (D4 n)),.int .u64 (D2 (D4 n)),.int .u64 (D3 (D4 n))]
abbrev L0s:List Value:=[.int .u64 0,.int .u64 0,.int .u64 0,.int .u64 0]
abbrev L0w:List Value:=[.int .u64 0,.int .u64 0,.int .u64 0,.int .u64 0,.int .u64 0,.int .u64 0,.int .u64 0,.int .u64 0]
end
section
section
variable {P:Program} {o:Oper} {a:Act} {w:World} {K:Act->World->Prop} {Q:Exit->Act->World->Prop}
end
end
section
section
variable {P:Program} {ops:Array Oper} {Q:Exit->Act->World->Prop} {i:Nat} {o:Oper} {a:Act} {w:World} {fr:List Value} {S:List Nat} {t:Nat->Value} {I:(Nat->Value)->World->Prop} {d:Nat} {v:Value}
end
section
variable {P:Program} {ops:Array Oper} {Q:Exit->Act->World->Prop} {i:Nat} {o:Oper} {a:Act} {fr:List Value} {S:List Nat} {t:Nat->Value} {I:(Nat->Value)->World->Prop} {d:Nat} {lo base:Nat} {w u:World} {ks:List (Nat×List Value)} {ex:List (Nat×Bool×List Value×List Value)} {nw:List (Bool×Bool×Value×List Value×List Value)}
end
end
end
section
theorem Zr:EnT 43:=fun _ _=>by kernel_rfl
theorem X2:EnT 59:=fun _ _=>by kernel_rfl
theorem X7:EnT 42:=fun _ _=>by kernel_rfl
theorem ent_limb_Divide:EnT 54:=fun _ _=>by kernel_rfl
theorem Z6:EnT 44:=fun _ _=>by kernel_rfl
theorem Zd:EnT 16:=fun _ _=>by kernel_rfl
theorem ent_mod_Add:EnT 29:=fun _ _=>by kernel_rfl
theorem ent_mod_Sub:EnT 46:=fun _ _=>by kernel_rfl
theorem ent_mod_Mul:EnT 28:=fun _ _=>by kernel_rfl
theorem Z5:EnT 41:=fun _ _=>by kernel_rfl
theorem ent_mod_Inverse:EnT 30:=fun _ _=>by kernel_rfl
theorem ent_mod_divide:EnT 57:=fun _ _=>by kernel_rfl
theorem ent_mod_low:EnT 58:=fun _ _=>by kernel_rfl
theorem Yj:EnT 45:=fun _ _=>by kernel_rfl
theorem Z8:EnT 11:=fun _ _=>by kernel_rfl
theorem al_api_Nat(w:World):(Instr.alloc 26 true (.tuple #[])).run Tryd.prog w= .ok (.pointer (some ⟨w.heap.size,0,none⟩)) (w.alloc (.cells L0s.toArray 26)):=by kernel_rfl
theorem al_api_Wide(w:World):(Instr.alloc 91 true (.tuple #[])).run Tryd.prog w= .ok (.pointer (some ⟨w.heap.size,0,none⟩)) (w.alloc (.cells L0w.toArray 91)):=by kernel_rfl
theorem info_api_Nat:(Tryd.prog.info? 26).map (·.size)=some 4:=by kernel_rfl
theorem info_api_Wide:(Tryd.prog.info? 91).map (·.size)=some 8:=by kernel_rfl
end
end Go.Proofs.YtgieoghechekpaaDoor
