import Derived.Test.YtflomaagenjfpaaQb
namespace Go.Proofs.Ytflomaagenjfpaa
open Go.RowKit

theorem good_of {r : Rw} (h : rowF r = 0) : Good r := by
  unfold rowF at h
  split at h
  · rename_i hE
    split at h
    · rename_i hA
      split at h
      · rename_i hK
        obtain ⟨h1, h2, h3, h4⟩ : r.nn ≤ 60 ∧ r.nf = r.nn ∧ r.no = r.nn ∧ r.nk = r.nn := by simpa [evenB] using hE
        refine ⟨h1, fun i hi => ?_, fun i hi => ?_, h2, h3, h4⟩
        · have := allB_iff.1 hA i hi
          simp only [nextB, inB, Bool.and_eq_true, decide_eq_true_eq] at this
          omega
        · have := allB_iff.1 hK i (by omega)
          simpa using this
      · omega
    · omega
  · omega
/-- what is shown -/
noncomputable def leastS (r : Rw) : Nat → Int := Classical.epsilon fun S => Low r.nn S ∧ Least r S
theorem leastS_eq {r : Rw} {S : Nat → Int} (hl : Low r.nn S) (hS : Least r S) : Low r.nn (leastS r) ∧ ∀ i, i < r.nn → S i = leastS r i := by
  have h := Classical.epsilon_spec (p := fun S => Low r.nn S ∧ Least r S) ⟨S, hl, hS⟩
  exact ⟨h.1, fun i hi => hS.unique h.2 hl h.1 i hi⟩
/-- how many answers there are -/
def ansN (r : Rw) : Nat := if rowF r = 0 then r.nn else 0
/-- an answer: a list of one's own -/
def AnsR (w : World) (n : Nat) (F : Nat → Int) (e : Ending) (w' : World) : Prop :=
  ∃ (v : Value) (o : Option Nat), e = .returned v ∧ QAt w' v n F o ∧ (∀ g, o = some g → w.heap.size ≤ g) ∧ Below w.heap.size w w'

end Go.Proofs.Ytflomaagenjfpaa
