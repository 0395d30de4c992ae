import Derived.Test.YtmoimodkopjeeaaGreatDoorCT8
import Derived.Test.YtmoimodkopjeeaaGreatDoorOC
namespace Go.Proofs.YtmoimodkopjeeaaGreatDoor
set_option linter.unusedVariables false
set_option linter.unusedSimpArgs false
set_option maxRecDepth 100000
set_option maxHeartbeats 4000000
open Go.RowKit
abbrev L0g:List Value:=[iU 0,iU 0,iU 0,iU 0,iU 0,iU 0,iU 0,iU 0,iU 0,iU 0,iU 0,iU 0,iU 0,iU 0,iU 0,iU 0]
theorem Uz(w:World):(Instr.alloc 26 true (.tuple #[])).run Tryz.prog w= .ok (.pointer (some ⟨w.heap.size,0,none⟩)) (w.alloc (.cells L0g.toArray 26)):=by kernel_rfl
theorem Z0:(Tryz.prog.info? 26).map (·.size)=some 16:=by kernel_rfl
theorem fdG0(b:Nat)(w:World):(Instr.fieldAt 26 (.pointer (some ⟨b,0,none⟩)) 0).run Tryz.prog w= .ok (.pointer (some ⟨b,0,none⟩)) w:=by go_simp
theorem fdG1(b:Nat)(w:World):(Instr.fieldAt 26 (.pointer (some ⟨b,0,none⟩)) 1).run Tryz.prog w= .ok (.pointer (some ⟨b,4,none⟩)) w:=by go_simp
theorem fdG2(b:Nat)(w:World):(Instr.fieldAt 26 (.pointer (some ⟨b,0,none⟩)) 2).run Tryz.prog w= .ok (.pointer (some ⟨b,8,none⟩)) w:=by go_simp
theorem fdG3(b:Nat)(w:World):(Instr.fieldAt 26 (.pointer (some ⟨b,0,none⟩)) 3).run Tryz.prog w= .ok (.pointer (some ⟨b,12,none⟩)) w:=by go_simp
end Go.Proofs.YtmoimodkopjeeaaGreatDoor
