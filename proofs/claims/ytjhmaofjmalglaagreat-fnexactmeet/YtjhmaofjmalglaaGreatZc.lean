import Derived.Test.YtjhmaofjmalglaaGreatZb
namespace Go.Proofs.YtjhmaofjmalglaaGreat
open Go.RowKit Go.Lib

def bdN (v : Nv) (fp fa fw lg : Int) (nb : Nat) (B : Nat → Nat → Int) : Nat := if trainF v fp fa fw lg nb B = true then nb + 1 - noF v fp fa fw B else 0
/-- what Body answers -/
def BdR (w : World) (v : Nv) (fp fa fw lg : Int) (nb : Nat) (B : Nat → Nat → Int) (e : Ending) (w' : World) : Prop := ∃ a c, e = .returned (.slice a (bdN v fp fa fw lg nb B) c) ∧ VOwn w.heap.size 112 3 w' (.slice a (bdN v fp fa fw lg nb B) c) (bdN v fp fa fw lg nb B) (intF (prF v (stG v fp fa fw lg nb B))) ∧ Below w.heap.size w w'
theorem bd_yes {w : World} {v : Nv} {fp fa fw lg : Int} {nb : Nat} {B : Nat → Nat → Int} {e : Ending} {w' : World} {a : Option Addr} {c : Nat} (h : trainF v fp fa fw lg nb B = true) (he : e = .returned (.slice a (nb + 1 - noF v fp fa fw B) c)) (ho : VOwn w.heap.size 112 3 w' (.slice a (nb + 1 - noF v fp fa fw B) c) (nb + 1 - noF v fp fa fw B) (intF (prF v (stG v fp fa fw lg nb B)))) (hb : Below w.heap.size w w') : BdR w v fp fa fw lg nb B e w' := by
  have e4 : bdN v fp fa fw lg nb B = (nb + 1 - noF v fp fa fw B) := if_pos h
  exact ⟨a, c, by rw [e4]; exact he, by rw [e4]; exact ho, hb⟩
theorem bd_no {w : World} {v : Nv} {fp fa fw lg : Int} {nb : Nat} {B : Nat → Nat → Int} {e : Ending} {w' : World} (h : trainF v fp fa fw lg nb B = false) (he : e = .returned (.slice none 0 0)) (hb : Below w.heap.size w w') : BdR w v fp fa fw lg nb B e w' := by
  have e4 : bdN v fp fa fw lg nb B = 0 := if_neg (by rw [h]; decide)
  exact ⟨none, 0, by rw [e4]; exact he, by rw [e4]; exact VOwn.nil _ _ _ _ _, hb⟩

end Go.Proofs.YtjhmaofjmalglaaGreat
