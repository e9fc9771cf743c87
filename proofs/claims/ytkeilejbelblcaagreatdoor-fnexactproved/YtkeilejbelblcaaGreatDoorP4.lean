import Derived.Test.YtkeilejbelblcaaGreatDoorP3
import Derived.Test.YtkeilejbelblcaaGreatDoorTie
import Derived.Test.YtkeilejbelblcaaGreatDoorCards
import Derived.SevenTiedAt
namespace Go.Proofs.YtkeilejbelblcaaGreatDoor
open Go

theorem fnExactProved_proved : Rows.FnExactProvedCardSaid :=
  Claim7.holds_tied_plain_at .later [] [.sentinel] true (true, "750d4ecbd01451ad75c08904705067911c222110bbc684b2eed9a87efba357bb") true
    provedOver (fun _ h => by cases h) (by kernel_rfl) (fun _ h => by cases h) fnExactProved_row_tie rfl ⟨rfl, rfl⟩ (by kernel_rfl) rfl
    (fun f fn hf hfn => by
      obtain rfl : f = 5 := Option.some.inj ((show Tryz.prog.funcNamed "loop.example/signalbox/laws.FnExactProved" = some 5 by kernel_rfl).symm.trans hf) |>.symm
      obtain rfl : fn = Tryz.f5 := (Option.some.inj (Tryz.func5.symm.trans hfn)).symm
      exact ⟨by kernel_rfl, fun j t ht => by
        rw [Tryz.params5] at ht
        have hm : t ∈ [26, 31, 3] := by simpa using Array.mem_of_getElem? ht
        have hall : ([26, 31, 3].all fun u => !Tryz.prog.wantsStandIn u) = true := by kernel_rfl
        exact (show Tryz.prog.wantsStandIn t = false by simpa using List.all_eq_true.1 hall t hm)⟩)
    (by kernel_rfl)
#print axioms fnExactProved_proved

end Go.Proofs.YtkeilejbelblcaaGreatDoor
