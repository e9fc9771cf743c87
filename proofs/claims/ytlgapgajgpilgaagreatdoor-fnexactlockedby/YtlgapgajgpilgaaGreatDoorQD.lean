import Derived.Test.YtlgapgajgpilgaaGreatDoorQC
import Derived.Test.YtlgapgajgpilgaaGreatDoorTie
import Derived.Test.YtlgapgajgpilgaaGreatDoorCards
import Derived.SevenTiedAt
namespace Go.Proofs.YtlgapgajgpilgaaGreatDoor
open Go

theorem fnExactLockedBy_proved : Rows.FnExactLockedByCardSaid :=
  Claim7.holds_tied_plain_at .later [] [.sentinel] true (true, "49ad68e3c21d2cc9c14b23374be36f52d389f06f31791c143d346871e3181f20") true
    lockedOver (fun _ h => by cases h) (by kernel_rfl) (fun _ h => by cases h) fnExactLockedBy_row_tie rfl ⟨rfl, rfl⟩ (by kernel_rfl) rfl
    (fun f fn hf hfn => by
      obtain rfl : f = 3 := Option.some.inj ((show Tryz.prog.funcNamed "loop.example/signalbox/laws.FnExactLockedBy" = some 3 by kernel_rfl).symm.trans hf) |>.symm
      obtain rfl : fn = Tryz.f3 := (Option.some.inj (Tryz.func3.symm.trans hfn)).symm
      exact ⟨by kernel_rfl, fun j t ht => by
        rw [Tryz.params3] at ht
        have hm : t ∈ [26, 31, 3] := by simpa using Array.mem_of_getElem? ht
        have hall : ([26, 31, 3].all fun u => !Tryz.prog.wantsStandIn u) = true := by kernel_rfl
        exact (show Tryz.prog.wantsStandIn t = false by simpa using List.all_eq_true.1 hall t hm)⟩)
    (by kernel_rfl)
#print axioms fnExactLockedBy_proved

end Go.Proofs.YtlgapgajgpilgaaGreatDoor
