import Derived.Test.YtjhmaofjmalglaaGreatZah
import Derived.Test.YtjhmaofjmalglaaGreatZag
import Derived.Deep.RegionWith
import Derived.Test.YtjhmaofjmalglaaGreatZaj
namespace Go.Proofs.YtjhmaofjmalglaaGreat
open Go.RowKit
theorem meth99 (w : World) : (method 337 182 (.agg #[]) "loop.example/signalbox/impl.ends").run Tryz.prog w = .ok (169, .agg #[]) w := by kernel_rfl
theorem kindOf44_3 (w : World) : Calls Tryz.prog 85 #[.int .i64 3] w fun e w' => e = .returned (.iface 182 (.agg #[])) ∧ w' = w := kindOf44 3 w
set_option maxRecDepth 100000 in
set_option maxHeartbeats 2000000 in
theorem endsOk25_3 (pa : Option Addr) (n pc : Nat) (ja : Option Addr) (m jc : Nat) (nm : ByteArray) (ea : Option Addr) (ne ec : Nat) (E : Nat → En) (w : World) (hn : n ≤ 1048576) (hne : ne ≤ 1048576) (hE : EsAt 0 w ea ne E) :
  Calls Tryz.prog 122 #[.agg #[.slice pa n pc, .slice ja m jc], .agg #[.int .i64 3, .string nm, .slice ea ne ec]] w fun e w' => e = .returned (.bool (decide (ne = 3) && allE n E ne)) ∧ Below w.heap.size w w' := by
 have hm := meth99
 by_cases hne1 : ne = 3
 ·
  have Hv : Hid ((decide (ne = 3) && allE n E ne) = allE n E ne) := by
   show _ = _
   simp [hne1]
  have hne2 : ((ne : Int) != 3) = false := by simp; omega
  have hne3 : 1 ≤ ne := by omega
  clear hne1
  go_enter Tryz.func122, Tryz.ntmps122
  go_wp2_with (go_at_call 85; refine (kindOf44_3 _).mono ?_; rintro e w1 ⟨rfl, rfl⟩)
  go_region_with (go_at_call 169; refine (ends71 _).mono ?_; rintro e w1 ⟨rfl, hb1⟩; have hc1 := (bcell hb1).1)
  all_goals
   have hW : Below (w.heap.size + 1 + 1) ((w.alloc (.cells #[.slice pa n pc, .slice ja m jc] 40)).alloc (.cells #[.int .i64 3, .string nm, .slice ea ne ec] 132)) w1 := ((Below.refl _ _).drew).trans (hb1.mono (by simp))
   have hc2 : w1.cell? ⟨w.heap.size + 1, 2, none⟩ = some (.slice ea ne ec) := by rw [hW.cell (by show w.heap.size + 1 < _; omega), World.cell?_alloc_at _ _ _ _ (by simp)]; rfl
   clear hc1 hb1 hm
   go_wp2_with fail
   clear hc2
   go_loopw [24] (fun i wr => ∃ q : Nat, q ≤ ne ∧ i = .int .i64 q ∧ Hid (∀ j, j < q → endB n (E j) = true) ∧ Below (w.heap.size + 1 + 1) ((w.alloc (.cells #[.slice pa n pc, .slice ja m jc] 40)).alloc (.cells #[.int .i64 3, .string nm, .slice ea ne ec] 132)) wr) (fun i _ => ne - (intOf i).toNat)
   case atStart => exact ⟨0, Nat.zero_le _, rfl, fun j hj => absurd hj (Nat.not_lt_zero _), hW⟩
   case round =>
    obtain ⟨q, hq, rfl, hall, hbel⟩ := hrel
    clear hW
    have hB : Below w.heap.size w wr := (bel2 w _ _).trans (hbel.mono (by omega))
    have zs : w.heap.size + 1 < wr.heap.size := by have := hbel.size; simp at this; omega
    have zs0 : w.heap.size < wr.heap.size := by omega
    have y0 : wr.cell? ⟨w.heap.size, 0, none⟩ = some (.slice pa n pc) := by rw [hbel.cell (by show w.heap.size < _; omega), World.cell?_alloc_past _ _ _ (by simp)]; simp
    by_cases hlq : q < ne
    ·
     obtain ⟨b2, off2, rfl, _, hb2, hc2⟩ := (hE.mono (Nat.le_refl _) hB (Nat.le_refl _)) (by omega)
     obtain ⟨d0, d1⟩ := hc2 q hlq
     clear hc2
     cases h3 : inB (E q).pc 0 ((n : Int) - 1)
     ·
      have Hf : Hid (allE n E ne = false) := allE_false hlq (by simp [endB, h3])
      clear hall
      go_wp2_with (go_at_call 43; refine (within43 _ _ _ _).mono ?_; rintro e w2 ⟨rfl, rfl⟩)
      go_ret
      exact ⟨by rw [Hv.out, Hf.out] <;> rfl, hB.alloc hB.size _⟩
     ·
      cases h4 : inB (E q).sd 0 1
      ·
       have Hf : Hid (allE n E ne = false) := allE_false hlq (by simp [endB, h3, h4])
       clear hall
       go_wp2_with (go_at_call 43; refine (within43 _ _ _ _).mono ?_; rintro e w2 ⟨rfl, rfl⟩)
       go_ret
       exact ⟨by rw [Hv.out, Hf.out] <;> rfl, hB.alloc hB.size _⟩
      ·
       have Hall : Hid (∀ j, j < q + 1 → endB n (E j) = true) := snoc_all (p := fun j => endB n (E j)) hall.out (by simp [endB, h3, h4])
       clear hall
       go_wp2_with (go_at_call 43; refine (within43 _ _ _ _).mono ?_; rintro e w2 ⟨rfl, rfl⟩)
       go_roundw
       case rel => exact ⟨q + 1, by omega, by go_num, Hall, hbel.alloc (by omega) _⟩
       case measure => simp [intOf]; omega
    ·
     obtain rfl : q = ne := by omega
     have Hf : Hid (allE n E q = true) := allE_true hall.out
     clear hall
     go_wp2_with fail
     go_ret
     exact ⟨by rw [Hv.out, Hf.out] <;> rfl, hB⟩
 ·
  have Hv : Hid ((decide (ne = 3) && allE n E ne) = false) := by
   show _ = _
   simp [hne1]
  have hne2 : ((ne : Int) != 3) = true := by simp; omega
  clear hne1
  go_enter Tryz.func122, Tryz.ntmps122
  go_wp2_with (go_at_call 85; refine (kindOf44_3 _).mono ?_; rintro e w1 ⟨rfl, rfl⟩)
  go_region_with (go_at_call 169; refine (ends71 _).mono ?_; rintro e w1 ⟨rfl, hb1⟩; have hc1 := (bcell hb1).1)
  all_goals
   go_wp2_with fail
   go_ret
   exact ⟨by rw [Hv.out] <;> rfl, (bel2 w _ _).drew.trans (hb1.mono (by simp; omega))⟩
end Go.Proofs.YtjhmaofjmalglaaGreat
namespace Go.Proofs.YtjhmaofjmalglaaGreat
open Go.RowKit
theorem meth100 (w : World) : (method 337 185 (.agg #[]) "loop.example/signalbox/impl.ends").run Tryz.prog w = .ok (175, .agg #[]) w := by kernel_rfl
theorem kindOf44_4 (w : World) : Calls Tryz.prog 85 #[.int .i64 4] w fun e w' => e = .returned (.iface 185 (.agg #[])) ∧ w' = w := kindOf44 4 w
set_option maxRecDepth 100000 in
set_option maxHeartbeats 2000000 in
theorem endsOk25_4 (pa : Option Addr) (n pc : Nat) (ja : Option Addr) (m jc : Nat) (nm : ByteArray) (ea : Option Addr) (ne ec : Nat) (E : Nat → En) (w : World) (hn : n ≤ 1048576) (hne : ne ≤ 1048576) (hE : EsAt 0 w ea ne E) :
  Calls Tryz.prog 122 #[.agg #[.slice pa n pc, .slice ja m jc], .agg #[.int .i64 4, .string nm, .slice ea ne ec]] w fun e w' => e = .returned (.bool (decide (ne = 4) && allE n E ne)) ∧ Below w.heap.size w w' := by
 have hm := meth100
 by_cases hne1 : ne = 4
 ·
  have Hv : Hid ((decide (ne = 4) && allE n E ne) = allE n E ne) := by
   show _ = _
   simp [hne1]
  have hne2 : ((ne : Int) != 4) = false := by simp; omega
  have hne3 : 1 ≤ ne := by omega
  clear hne1
  go_enter Tryz.func122, Tryz.ntmps122
  go_wp2_with (go_at_call 85; refine (kindOf44_4 _).mono ?_; rintro e w1 ⟨rfl, rfl⟩)
  go_region_with (go_at_call 175; refine (ends72 _).mono ?_; rintro e w1 ⟨rfl, hb1⟩; have hc1 := (bcell hb1).1)
  all_goals
   have hW : Below (w.heap.size + 1 + 1) ((w.alloc (.cells #[.slice pa n pc, .slice ja m jc] 40)).alloc (.cells #[.int .i64 4, .string nm, .slice ea ne ec] 132)) w1 := ((Below.refl _ _).drew).trans (hb1.mono (by simp))
   have hc2 : w1.cell? ⟨w.heap.size + 1, 2, none⟩ = some (.slice ea ne ec) := by rw [hW.cell (by show w.heap.size + 1 < _; omega), World.cell?_alloc_at _ _ _ _ (by simp)]; rfl
   clear hc1 hb1 hm
   go_wp2_with fail
   clear hc2
   go_loopw [24] (fun i wr => ∃ q : Nat, q ≤ ne ∧ i = .int .i64 q ∧ Hid (∀ j, j < q → endB n (E j) = true) ∧ Below (w.heap.size + 1 + 1) ((w.alloc (.cells #[.slice pa n pc, .slice ja m jc] 40)).alloc (.cells #[.int .i64 4, .string nm, .slice ea ne ec] 132)) wr) (fun i _ => ne - (intOf i).toNat)
   case atStart => exact ⟨0, Nat.zero_le _, rfl, fun j hj => absurd hj (Nat.not_lt_zero _), hW⟩
   case round =>
    obtain ⟨q, hq, rfl, hall, hbel⟩ := hrel
    clear hW
    have hB : Below w.heap.size w wr := (bel2 w _ _).trans (hbel.mono (by omega))
    have zs : w.heap.size + 1 < wr.heap.size := by have := hbel.size; simp at this; omega
    have zs0 : w.heap.size < wr.heap.size := by omega
    have y0 : wr.cell? ⟨w.heap.size, 0, none⟩ = some (.slice pa n pc) := by rw [hbel.cell (by show w.heap.size < _; omega), World.cell?_alloc_past _ _ _ (by simp)]; simp
    by_cases hlq : q < ne
    ·
     obtain ⟨b2, off2, rfl, _, hb2, hc2⟩ := (hE.mono (Nat.le_refl _) hB (Nat.le_refl _)) (by omega)
     obtain ⟨d0, d1⟩ := hc2 q hlq
     clear hc2
     cases h3 : inB (E q).pc 0 ((n : Int) - 1)
     ·
      have Hf : Hid (allE n E ne = false) := allE_false hlq (by simp [endB, h3])
      clear hall
      go_wp2_with (go_at_call 43; refine (within43 _ _ _ _).mono ?_; rintro e w2 ⟨rfl, rfl⟩)
      go_ret
      exact ⟨by rw [Hv.out, Hf.out] <;> rfl, hB.alloc hB.size _⟩
     ·
      cases h4 : inB (E q).sd 0 1
      ·
       have Hf : Hid (allE n E ne = false) := allE_false hlq (by simp [endB, h3, h4])
       clear hall
       go_wp2_with (go_at_call 43; refine (within43 _ _ _ _).mono ?_; rintro e w2 ⟨rfl, rfl⟩)
       go_ret
       exact ⟨by rw [Hv.out, Hf.out] <;> rfl, hB.alloc hB.size _⟩
      ·
       have Hall : Hid (∀ j, j < q + 1 → endB n (E j) = true) := snoc_all (p := fun j => endB n (E j)) hall.out (by simp [endB, h3, h4])
       clear hall
       go_wp2_with (go_at_call 43; refine (within43 _ _ _ _).mono ?_; rintro e w2 ⟨rfl, rfl⟩)
       go_roundw
       case rel => exact ⟨q + 1, by omega, by go_num, Hall, hbel.alloc (by omega) _⟩
       case measure => simp [intOf]; omega
    ·
     obtain rfl : q = ne := by omega
     have Hf : Hid (allE n E q = true) := allE_true hall.out
     clear hall
     go_wp2_with fail
     go_ret
     exact ⟨by rw [Hv.out, Hf.out] <;> rfl, hB⟩
 ·
  have Hv : Hid ((decide (ne = 4) && allE n E ne) = false) := by
   show _ = _
   simp [hne1]
  have hne2 : ((ne : Int) != 4) = true := by simp; omega
  clear hne1
  go_enter Tryz.func122, Tryz.ntmps122
  go_wp2_with (go_at_call 85; refine (kindOf44_4 _).mono ?_; rintro e w1 ⟨rfl, rfl⟩)
  go_region_with (go_at_call 175; refine (ends72 _).mono ?_; rintro e w1 ⟨rfl, hb1⟩; have hc1 := (bcell hb1).1)
  all_goals
   go_wp2_with fail
   go_ret
   exact ⟨by rw [Hv.out] <;> rfl, (bel2 w _ _).drew.trans (hb1.mono (by simp; omega))⟩
end Go.Proofs.YtjhmaofjmalglaaGreat
namespace Go.Proofs.YtjhmaofjmalglaaGreat
open Go.RowKit
set_option maxRecDepth 100000 in
set_option maxHeartbeats 2000000 in
theorem endsOk25_0 (pa : Option Addr) (n pc : Nat) (ja : Option Addr) (m jc : Nat) (kd : Int) (nm : ByteArray) (ea : Option Addr) (ne ec : Nat) (w : World) (hk : ¬ (1 ≤ kd ∧ kd ≤ 4)) :
  Calls Tryz.prog 122 #[.agg #[.slice pa n pc, .slice ja m jc], .agg #[.int .i64 kd, .string nm, .slice ea ne ec]] w fun e w' => e = .returned (.bool false) ∧ Below w.heap.size w w' := by
 have hkv : kindV kd = .nilIface := by
  rw [kindV, if_neg (by omega), if_neg (by omega), if_neg (by omega), if_neg (by omega)]
 clear hk
 go_enter Tryz.func122, Tryz.ntmps122
 go_wp2_with (go_at_call 85; refine (kindOf44 _ _).mono ?_; rintro e w1 ⟨rfl, rfl⟩)
 go_quiet (fail)
 go_wp2_with fail
 go_ret
 exact ⟨rfl, below_drewN (bel2 _ _ _) _⟩
theorem endsBad_of {n : Nat} {kd : Int} {nm : ByteArray} {ne : Nat} {E : Nat → En} (d : Nat) (hd : kd = (d : Int)) (h1 : 1 ≤ d) (h4 : d ≤ 4) : (!endsBad n ⟨kd, nm, ne, E⟩) = (decide (ne = d) && allE n E ne) := by
 subst hd
 have hin : inB (d : Int) 1 4 = true := by simp [inB]; omega
 simp only [endsBad, hin, Bool.not_true, Bool.false_or]
 by_cases h : ne = d
 ·
  simp [h]
 ·
  have : ¬ ((ne : Int) = (d : Int)) := by omega
  simp [h, this]
theorem endsOk25 (pa : Option Addr) (n pc : Nat) (ja : Option Addr) (m jc : Nat) (j : Jt) (ea : Option Addr) (ec : Nat) (w : World) (hn : n ≤ 1048576) (hne : j.ne ≤ 1048576) (hE : EsAt 0 w ea j.ne j.E) :
  Calls Tryz.prog 122 #[.agg #[.slice pa n pc, .slice ja m jc], .agg #[.int .i64 j.kd, .string j.nm, .slice ea j.ne ec]] w fun e w' => e = .returned (.bool (!endsBad n j)) ∧ Below w.heap.size w w' := by
 obtain ⟨kd, nm, ne, E⟩ := j
 by_cases hk : 1 ≤ kd ∧ kd ≤ 4
 ·
  have h5 : kd = 1 ∨ kd = 2 ∨ kd = 3 ∨ kd = 4 := by omega
  rcases h5 with rfl | rfl | rfl | rfl
  ·
   rw [show (!endsBad n ⟨1, nm, ne, E⟩) = (decide (ne = 1) && allE n E ne) from endsBad_of 1 rfl (by omega) (by omega)]
   exact endsOk25_1 pa n pc ja m jc nm ea ne ec E w hn hne hE
  ·
   rw [show (!endsBad n ⟨2, nm, ne, E⟩) = (decide (ne = 2) && allE n E ne) from endsBad_of 2 rfl (by omega) (by omega)]
   exact endsOk25_2 pa n pc ja m jc nm ea ne ec E w hn hne hE
  ·
   rw [show (!endsBad n ⟨3, nm, ne, E⟩) = (decide (ne = 3) && allE n E ne) from endsBad_of 3 rfl (by omega) (by omega)]
   exact endsOk25_3 pa n pc ja m jc nm ea ne ec E w hn hne hE
  ·
   rw [show (!endsBad n ⟨4, nm, ne, E⟩) = (decide (ne = 4) && allE n E ne) from endsBad_of 4 rfl (by omega) (by omega)]
   exact endsOk25_4 pa n pc ja m jc nm ea ne ec E w hn hne hE
 ·
  have Hv : endsBad n ⟨kd, nm, ne, E⟩ = true := by
   have : inB kd 1 4 = false := by simp only [inB]; simp; omega
   simp [endsBad, this]
  rw [Hv]
  exact endsOk25_0 pa n pc ja m jc kd nm ea ne ec w hk
end Go.Proofs.YtjhmaofjmalglaaGreat
