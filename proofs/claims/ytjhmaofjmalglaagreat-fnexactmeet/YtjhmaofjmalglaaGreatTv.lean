import Derived.Test.YtjhmaofjmalglaaGreatTu
import Derived.Test.YtjhmaofjmalglaaGreatSz
import Derived.Test.YtjhmaofjmalglaaGreatEq
namespace Go.Proofs.YtjhmaofjmalglaaGreat
open Go.RowKit Go.Lib

def NetR (w : World) (v : Nv) (e : Ending) (w' : World) : Prop := ∃ pa' ja', e = .returned (.agg #[.slice pa' v.n v.n, .slice ja' v.m v.m]) ∧ PsAt 0 w' pa' v.n v.P ∧ JsAt 0 w' ja' v.m v.J ∧ Below w.heap.size w w'
theorem toNetR {v : Nv} (pa : Option Addr) (pc : Nat) (ja : Option Addr) (jc : Nat) (w : World) (hn : v.n ≤ 1048576) (hm : v.m ≤ 1048576) (hP : PsAt 0 w pa v.n v.P) (hJ : JsAt 0 w ja v.m v.J) (hne : ∀ i, i < v.m → (v.J i).ne ≤ 1048576) :
    Calls Tryz.prog 8 #[.agg #[.slice pa v.n pc, .slice ja v.m jc]] w fun e w' => NetR w v e w' :=
  (toNet7 pa v.n pc v.P ja v.m jc v.J w hn hm hP hJ hne).mono fun _ _ ⟨_, _, he, h4, h5, h6⟩ => ⟨_, _, he, (h4.keep (Nat.zero_le _) (Nat.le_refl _) fun _ _ _ => rfl), (h5.keep (Nat.zero_le _) (Nat.le_refl _) fun _ _ _ => rfl), h6⟩

end Go.Proofs.YtjhmaofjmalglaaGreat
