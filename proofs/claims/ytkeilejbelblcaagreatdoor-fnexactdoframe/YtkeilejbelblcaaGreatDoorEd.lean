import Derived.Test.YtkeilejbelblcaaGreatDoorEc
import Derived.Test.YtkeilejbelblcaaGreatDoorTie
import Derived.Test.YtkeilejbelblcaaGreatDoorCards
import Derived.SevenTiedAt
namespace Go.Proofs.YtkeilejbelblcaaGreatDoor
open Go

theorem fnExactDoFrame_proved : Rows.FnExactDoFrameCardSaid :=
  Claim7.holds_tied_plain_at .later [] [.sentinel, .sentinel, .sentinel, .sentinel, .sentinel, .sentinel, .sentinel] true (true, "750d4ecbd01451ad75c08904705067911c222110bbc684b2eed9a87efba357bb") true
    over4 (fun _ h => by cases h) (by kernel_rfl) (fun _ h => by cases h) fnExactDoFrame_row_tie rfl ⟨rfl, rfl⟩ (by kernel_rfl) rfl
    (fun f fn hf hfn => by
      obtain rfl : f = 4 := Option.some.inj ((show Tryz.prog.funcNamed "loop.example/signalbox/laws.FnExactDoFrame" = some 4 by kernel_rfl).symm.trans hf) |>.symm
      obtain rfl : fn = Tryz.f4 := (Option.some.inj (Tryz.func4.symm.trans hfn)).symm
      exact ⟨by kernel_rfl, fun j t ht => by
        rw [Tryz.params4] at ht
        have hm : t ∈ [26, 31, 48] := by simpa using Array.mem_of_getElem? ht
        have hall : ([26, 31, 48].all fun u => !Tryz.prog.wantsStandIn u) = true := by kernel_rfl
        exact (show Tryz.prog.wantsStandIn t = false by simpa using List.all_eq_true.1 hall t hm)⟩)
    (by kernel_rfl)
#print axioms fnExactDoFrame_proved

end Go.Proofs.YtkeilejbelblcaaGreatDoor
