import Derived.Test.YtoennemahlakeaaGreatTp
import Derived.Test.YtoennemahlakeaaGreatImpl
import Derived.Test.YtoennemahlakeaaGreatLb
namespace Go.Proofs.YtoennemahlakeaaGreat
open Go.RowKit Go.Lib

theorem TkAt.other {w W W' : World} {bt sb : Nat} {v : Nv} {pa : Option Addr} {pc : Nat} {ja : Option Addr} {jc c : Nat} (h : TkAt W bt sb v pa pc ja jc) (h1 : c ≠ bt) (hk : ∀ k, k ≠ c → W'.heap[k]? = W.heap[k]?) (hsz : W.heap.size ≤ W'.heap.size) (hc : ∀ o, W'.cell? ⟨sb, o, none⟩ = W.cell? ⟨sb, o, none⟩) (hb : Below w.heap.size w W') (hP : PsAt 0 w pa v.n v.P) (hJ : JsAt 0 w ja v.m v.J) : TkAt W' bt sb v pa pc ja jc :=
  ⟨h.box.keep (hk bt (Ne.symm h1)), Nat.lt_of_lt_of_le h.lt hsz, fun q s hq hs => ⟨(hc _).trans (h.st q s hq hs).1, (hc _).trans (h.st q s hq hs).2⟩, hP.mono (Nat.le_refl _) hb (Nat.le_refl _), hJ.mono (Nat.le_refl _) hb (Nat.le_refl _)⟩
theorem TkAt.set {w W : World} {bt sb : Nat} {v : Nv} {pa : Option Addr} {pc : Nat} {ja : Option Addr} {jc c o : Nat} {x : Value} (h : TkAt W bt sb v pa pc ja jc) (h1 : c ≠ bt) (h2 : c ≠ sb) (hcw : w.heap.size ≤ c) (hb : Below w.heap.size w W) (hP : PsAt 0 w pa v.n v.P) (hJ : JsAt 0 w ja v.m v.J) : TkAt (W.setCell ⟨c, o, none⟩ x) bt sb v pa pc ja jc :=
  have hk : ∀ k, k ≠ c → (W.setCell ⟨c, o, none⟩ x).heap[k]? = W.heap[k]? := fun k hk => Below.heap_setCell W ⟨c, o, none⟩ x k hk
  h.other h1 hk (Nat.le_of_eq (size_setc _ _ _).symm) (fun o' => by simp only [World.cell?, hk sb (Ne.symm h2)]) (hb.setCell hcw _) hP hJ
/-- a train of a net -/
def trainF (v : Nv) (fp fa fw lg : Int) (nb : Nat) (B : Nat → Nat → Int) : Bool := decide ((netF v.n v.P v.m v.J).1 = 0) && trnB v fp fa fw lg nb B
def OnR (w : World) (pa : Option Addr) (pc : Nat) (ja : Option Addr) (jc : Nat) (v : Nv) (fp fa fw lg : Int) (nb : Nat) (ba : Option Addr) (bk : Nat) (g : Bool) (e : Ending) (w' : World) : Prop := ∃ (kp : Option Addr) (y0 y1 y2 y3 : Int) (ya : Option Addr) (yn yc : Nat), e = .returned (.tuple #[.pointer kp, .agg #[.int .i64 y0, .int .i64 y1, .int .i64 y2, .int .i64 y3, .slice ya yn yc], .bool g]) ∧ Below w.heap.size w w' ∧ (g = true → (y0 = fp ∧ y1 = fa ∧ y2 = fw ∧ y3 = lg ∧ ya = ba ∧ yn = nb ∧ yc = bk) ∧ ∃ bt sb, kp = some ⟨bt, 0, none⟩ ∧ TkAt w' bt sb v pa pc ja jc)
theorem allT_and {f g : Nat → Bool} : ∀ k, allT (fun i => f i && g i) k = (allT f k && allT g k)
  | 0 => rfl
  | k + 1 => by
    rw [allT, allT, allT, allT_and k]
    generalize allT f k = a
    generalize allT g k = b
    generalize f k = c
    generalize g k = d
    cases a <;> cases b <;> cases c <;> cases d <;> rfl
theorem trn_eq {v : Nv} {fp fa fw lg : Int} {nb : Nat} {B : Nat → Nat → Int} (h0 : ((spotB v fp fa fw && inB lg 1 100000) && decide (nb ≤ 200)) = true) (h : ∀ i, i < nb → stepB v (B i 0) (B i 1) = true) : trnB v fp fa fw lg nb B = (joinedB v fp fw nb B && needB v fp fa fw lg nb B) := by
  have h1 : allT (fun i => stepB v (B i 0) (B i 1)) nb = true := allT_yes h
  have h2 : allT (bkB v fp fa fw lg B) nb = (allT (fun i => stepB v (B i 0) (B i 1)) nb && (allT (fun i => decide (hvF v fp fa fw B i < lg)) nb && allT (fun i => joinB v (B i 0).toNat (B i 1) (ahP fp B i).toNat (ahW fw B i)) nb)) := by
    rw [← allT_and, ← allT_and]
    rfl
  rw [trnB, h0, h2, h1, Bool.true_and, Bool.true_and, joinedB, needB]
  generalize allT (fun i => decide (hvF v fp fa fw B i < lg)) nb = a
  generalize allT (fun i => joinB v (B i 0).toNat (B i 1) (ahP fp B i).toNat (ahW fw B i)) nb = c
  generalize decide (lg ≤ hvF v fp fa fw B nb) = d
  cases a <;> cases c <;> cases d <;> rfl
theorem trn_step {v : Nv} {fp fa fw lg : Int} {nb : Nat} {B : Nat → Nat → Int} {q : Nat} (hq : q < nb) (h : stepB v (B q 0) (B q 1) = false) : trnB v fp fa fw lg nb B = false := trn_back hq (by rw [bkB, h, Bool.false_and])

end Go.Proofs.YtoennemahlakeaaGreat
