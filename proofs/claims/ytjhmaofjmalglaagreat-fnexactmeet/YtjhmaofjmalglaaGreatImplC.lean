import Derived.Test.YtjhmaofjmalglaaGreatImplC1
import Derived.Test.YtjhmaofjmalglaaGreatImplC2
import Derived.Test.YtjhmaofjmalglaaGreatImplC3
import Derived.Test.YtjhmaofjmalglaaGreatImplC4
import Derived.Deep.RegionWith
namespace Go.Proofs.YtjhmaofjmalglaaGreat
open Go.RowKit






set_option maxRecDepth 100000 in
set_option maxHeartbeats 2000000 in
theorem endsOk25_0 (pa : Option Addr) (n pc : Nat) (ja : Option Addr) (m jc : Nat) (kd : Int) (nm : ByteArray) (ea : Option Addr) (ne ec : Nat) (w : World) (hk : ¬ (1 ≤ kd ∧ kd ≤ 4)) :
    Calls Tryz.prog 122 #[.agg #[.slice pa n pc, .slice ja m jc], .agg #[.int .i64 kd, .string nm, .slice ea ne ec]] w fun e w' => e = .returned (.bool false) ∧ Below w.heap.size w w' := by
  have hkv : kindV kd = .nilIface := by
    rw [kindV, if_neg (by omega), if_neg (by omega), if_neg (by omega), if_neg (by omega)]
  clear hk
  go_enter Tryz.func122, Tryz.ntmps122
  go_wp2_with (go_at_call 85; refine (kindOf44 _ _).mono ?_; rintro e w1 ⟨rfl, rfl⟩)
  go_quiet (fail)
  go_wp2_with fail
  go_ret
  exact ⟨rfl, below_drewN (bel2 _ _ _) _⟩

theorem endsBad_of {n : Nat} {kd : Int} {nm : ByteArray} {ne : Nat} {E : Nat → En} (d : Nat) (hd : kd = (d : Int)) (h1 : 1 ≤ d) (h4 : d ≤ 4) : (!endsBad n ⟨kd, nm, ne, E⟩) = (decide (ne = d) && allE n E ne) := by
  subst hd
  have hin : inB (d : Int) 1 4 = true := by simp [inB]; omega
  simp only [endsBad, hin, Bool.not_true, Bool.false_or]
  by_cases h : ne = d
  · simp [h]
  · have : ¬ ((ne : Int) = (d : Int)) := by omega
    simp [h, this]

theorem endsOk25 (pa : Option Addr) (n pc : Nat) (ja : Option Addr) (m jc : Nat) (j : Jt) (ea : Option Addr) (ec : Nat) (w : World) (hn : n ≤ 1048576) (hne : j.ne ≤ 1048576) (hE : EsAt 0 w ea j.ne j.E) :
    Calls Tryz.prog 122 #[.agg #[.slice pa n pc, .slice ja m jc], .agg #[.int .i64 j.kd, .string j.nm, .slice ea j.ne ec]] w fun e w' => e = .returned (.bool (!endsBad n j)) ∧ Below w.heap.size w w' := by
  obtain ⟨kd, nm, ne, E⟩ := j
  by_cases hk : 1 ≤ kd ∧ kd ≤ 4
  · have h5 : kd = 1 ∨ kd = 2 ∨ kd = 3 ∨ kd = 4 := by omega
    rcases h5 with rfl | rfl | rfl | rfl
    · rw [show (!endsBad n ⟨1, nm, ne, E⟩) = (decide (ne = 1) && allE n E ne) from endsBad_of 1 rfl (by omega) (by omega)]
      exact endsOk25_1 pa n pc ja m jc nm ea ne ec E w hn hne hE
    · rw [show (!endsBad n ⟨2, nm, ne, E⟩) = (decide (ne = 2) && allE n E ne) from endsBad_of 2 rfl (by omega) (by omega)]
      exact endsOk25_2 pa n pc ja m jc nm ea ne ec E w hn hne hE
    · rw [show (!endsBad n ⟨3, nm, ne, E⟩) = (decide (ne = 3) && allE n E ne) from endsBad_of 3 rfl (by omega) (by omega)]
      exact endsOk25_3 pa n pc ja m jc nm ea ne ec E w hn hne hE
    · rw [show (!endsBad n ⟨4, nm, ne, E⟩) = (decide (ne = 4) && allE n E ne) from endsBad_of 4 rfl (by omega) (by omega)]
      exact endsOk25_4 pa n pc ja m jc nm ea ne ec E w hn hne hE
  · have Hv : endsBad n ⟨kd, nm, ne, E⟩ = true := by
      have : inB kd 1 4 = false := by simp only [inB]; simp; omega
      simp [endsBad, this]
    rw [Hv]
    exact endsOk25_0 pa n pc ja m jc kd nm ea ne ec w hk

end Go.Proofs.YtjhmaofjmalglaaGreat
