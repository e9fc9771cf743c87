import Derived.Test.YtjhmaofjmalglaaGreatZah
import Derived.Test.YtjhmaofjmalglaaGreatZag
import Derived.Deep.RegionWith
import Derived.Test.YtjhmaofjmalglaaGreatZaa
import Derived.ChangeKeysEq
namespace Go.Proofs.YtjhmaofjmalglaaGreat
open Go.RowKit
theorem meth97 (w : World) : (method 337 183 (.agg #[]) "loop.example/signalbox/impl.ends").run Tryz.prog w = .ok (171, .agg #[]) w := by kernel_rfl
theorem kindOf44_1 (w : World) : Calls Tryz.prog 85 #[.int .i64 1] w fun e w' => e = .returned (.iface 183 (.agg #[])) ∧ w' = w := kindOf44 1 w
set_option maxRecDepth 100000 in
set_option maxHeartbeats 2000000 in
theorem endsOk25_1 (pa : Option Addr) (n pc : Nat) (ja : Option Addr) (m jc : Nat) (nm : ByteArray) (ea : Option Addr) (ne ec : Nat) (E : Nat → En) (w : World) (hn : n ≤ 1048576) (hne : ne ≤ 1048576) (hE : EsAt 0 w ea ne E) :
  Calls Tryz.prog 122 #[.agg #[.slice pa n pc, .slice ja m jc], .agg #[.int .i64 1, .string nm, .slice ea ne ec]] w fun e w' => e = .returned (.bool (decide (ne = 1) && allE n E ne)) ∧ Below w.heap.size w w' := by
 have hm := meth97
 by_cases hne1 : ne = 1
 ·
  have Hv : Hid ((decide (ne = 1) && allE n E ne) = allE n E ne) := by
   show _ = _
   simp [hne1]
  have hne2 : ((ne : Int) != 1) = false := by simp; omega
  have hne3 : 1 ≤ ne := by omega
  clear hne1
  go_enter Tryz.func122, Tryz.ntmps122
  go_wp2_with (go_at_call 85; refine (kindOf44_1 _).mono ?_; rintro e w1 ⟨rfl, rfl⟩)
  go_region_with (go_at_call 171; refine (ends69 _).mono ?_; rintro e w1 ⟨rfl, hb1⟩; have hc1 := (bcell hb1).1)
  all_goals
   have hW : Below (w.heap.size + 1 + 1) ((w.alloc (.cells #[.slice pa n pc, .slice ja m jc] 40)).alloc (.cells #[.int .i64 1, .string nm, .slice ea ne ec] 132)) w1 := ((Below.refl _ _).drew).trans (hb1.mono (by simp))
   have hc2 : w1.cell? ⟨w.heap.size + 1, 2, none⟩ = some (.slice ea ne ec) := by rw [hW.cell (by show w.heap.size + 1 < _; omega), World.cell?_alloc_at _ _ _ _ (by simp)]; rfl
   clear hc1 hb1 hm
   go_wp2_with fail
   clear hc2
   go_loopw [24] (fun i wr => ∃ q : Nat, q ≤ ne ∧ i = .int .i64 q ∧ Hid (∀ j, j < q → endB n (E j) = true) ∧ Below (w.heap.size + 1 + 1) ((w.alloc (.cells #[.slice pa n pc, .slice ja m jc] 40)).alloc (.cells #[.int .i64 1, .string nm, .slice ea ne ec] 132)) wr) (fun i _ => ne - (intOf i).toNat)
   case atStart => exact ⟨0, Nat.zero_le _, rfl, fun j hj => absurd hj (Nat.not_lt_zero _), hW⟩
   case round =>
    obtain ⟨q, hq, rfl, hall, hbel⟩ := hrel
    clear hW
    have hB : Below w.heap.size w wr := (bel2 w _ _).trans (hbel.mono (by omega))
    have zs : w.heap.size + 1 < wr.heap.size := by have := hbel.size; simp at this; omega
    have zs0 : w.heap.size < wr.heap.size := by omega
    have y0 : wr.cell? ⟨w.heap.size, 0, none⟩ = some (.slice pa n pc) := by rw [hbel.cell (by show w.heap.size < _; omega), World.cell?_alloc_past _ _ _ (by simp)]; simp
    by_cases hlq : q < ne
    ·
     obtain ⟨b2, off2, rfl, _, hb2, hc2⟩ := (hE.mono (Nat.le_refl _) hB (Nat.le_refl _)) (by omega)
     obtain ⟨d0, d1⟩ := hc2 q hlq
     clear hc2
     cases h3 : inB (E q).pc 0 ((n : Int) - 1)
     ·
      have Hf : Hid (allE n E ne = false) := allE_false hlq (by simp [endB, h3])
      clear hall
      go_wp2_with (go_at_call 43; refine (within43 _ _ _ _).mono ?_; rintro e w2 ⟨rfl, rfl⟩)
      go_ret
      exact ⟨by rw [Hv.out, Hf.out] <;> rfl, hB.alloc hB.size _⟩
     ·
      cases h4 : inB (E q).sd 0 1
      ·
       have Hf : Hid (allE n E ne = false) := allE_false hlq (by simp [endB, h3, h4])
       clear hall
       go_wp2_with (go_at_call 43; refine (within43 _ _ _ _).mono ?_; rintro e w2 ⟨rfl, rfl⟩)
       go_ret
       exact ⟨by rw [Hv.out, Hf.out] <;> rfl, hB.alloc hB.size _⟩
      ·
       have Hall : Hid (∀ j, j < q + 1 → endB n (E j) = true) := snoc_all (p := fun j => endB n (E j)) hall.out (by simp [endB, h3, h4])
       clear hall
       go_wp2_with (go_at_call 43; refine (within43 _ _ _ _).mono ?_; rintro e w2 ⟨rfl, rfl⟩)
       go_roundw
       case rel => exact ⟨q + 1, by omega, by go_num, Hall, hbel.alloc (by omega) _⟩
       case measure => simp [intOf]; omega
    ·
     obtain rfl : q = ne := by omega
     have Hf : Hid (allE n E q = true) := allE_true hall.out
     clear hall
     go_wp2_with fail
     go_ret
     exact ⟨by rw [Hv.out, Hf.out] <;> rfl, hB⟩
 ·
  have Hv : Hid ((decide (ne = 1) && allE n E ne) = false) := by
   show _ = _
   simp [hne1]
  have hne2 : ((ne : Int) != 1) = true := by simp; omega
  clear hne1
  go_enter Tryz.func122, Tryz.ntmps122
  go_wp2_with (go_at_call 85; refine (kindOf44_1 _).mono ?_; rintro e w1 ⟨rfl, rfl⟩)
  go_region_with (go_at_call 171; refine (ends69 _).mono ?_; rintro e w1 ⟨rfl, hb1⟩; have hc1 := (bcell hb1).1)
  all_goals
   go_wp2_with fail
   go_ret
   exact ⟨by rw [Hv.out] <;> rfl, (bel2 w _ _).drew.trans (hb1.mono (by simp; omega))⟩
end Go.Proofs.YtjhmaofjmalglaaGreat
namespace Go.Proofs.YtjhmaofjmalglaaGreat
open Go.RowKit
theorem meth98 (w : World) : (method 337 184 (.agg #[]) "loop.example/signalbox/impl.ends").run Tryz.prog w = .ok (173, .agg #[]) w := by kernel_rfl
theorem kindOf44_2 (w : World) : Calls Tryz.prog 85 #[.int .i64 2] w fun e w' => e = .returned (.iface 184 (.agg #[])) ∧ w' = w := kindOf44 2 w
set_option maxRecDepth 100000 in
set_option maxHeartbeats 2000000 in
theorem endsOk25_2 (pa : Option Addr) (n pc : Nat) (ja : Option Addr) (m jc : Nat) (nm : ByteArray) (ea : Option Addr) (ne ec : Nat) (E : Nat → En) (w : World) (hn : n ≤ 1048576) (hne : ne ≤ 1048576) (hE : EsAt 0 w ea ne E) :
  Calls Tryz.prog 122 #[.agg #[.slice pa n pc, .slice ja m jc], .agg #[.int .i64 2, .string nm, .slice ea ne ec]] w fun e w' => e = .returned (.bool (decide (ne = 2) && allE n E ne)) ∧ Below w.heap.size w w' := by
 have hm := meth98
 by_cases hne1 : ne = 2
 ·
  have Hv : Hid ((decide (ne = 2) && allE n E ne) = allE n E ne) := by
   show _ = _
   simp [hne1]
  have hne2 : ((ne : Int) != 2) = false := by simp; omega
  have hne3 : 1 ≤ ne := by omega
  clear hne1
  go_enter Tryz.func122, Tryz.ntmps122
  go_wp2_with (go_at_call 85; refine (kindOf44_2 _).mono ?_; rintro e w1 ⟨rfl, rfl⟩)
  go_region_with (go_at_call 173; refine (ends70 _).mono ?_; rintro e w1 ⟨rfl, hb1⟩; have hc1 := (bcell hb1).1)
  all_goals
   have hW : Below (w.heap.size + 1 + 1) ((w.alloc (.cells #[.slice pa n pc, .slice ja m jc] 40)).alloc (.cells #[.int .i64 2, .string nm, .slice ea ne ec] 132)) w1 := ((Below.refl _ _).drew).trans (hb1.mono (by simp))
   have hc2 : w1.cell? ⟨w.heap.size + 1, 2, none⟩ = some (.slice ea ne ec) := by rw [hW.cell (by show w.heap.size + 1 < _; omega), World.cell?_alloc_at _ _ _ _ (by simp)]; rfl
   clear hc1 hb1 hm
   go_wp2_with fail
   clear hc2
   go_loopw [24] (fun i wr => ∃ q : Nat, q ≤ ne ∧ i = .int .i64 q ∧ Hid (∀ j, j < q → endB n (E j) = true) ∧ Below (w.heap.size + 1 + 1) ((w.alloc (.cells #[.slice pa n pc, .slice ja m jc] 40)).alloc (.cells #[.int .i64 2, .string nm, .slice ea ne ec] 132)) wr) (fun i _ => ne - (intOf i).toNat)
   case atStart => exact ⟨0, Nat.zero_le _, rfl, fun j hj => absurd hj (Nat.not_lt_zero _), hW⟩
   case round =>
    obtain ⟨q, hq, rfl, hall, hbel⟩ := hrel
    clear hW
    have hB : Below w.heap.size w wr := (bel2 w _ _).trans (hbel.mono (by omega))
    have zs : w.heap.size + 1 < wr.heap.size := by have := hbel.size; simp at this; omega
    have zs0 : w.heap.size < wr.heap.size := by omega
    have y0 : wr.cell? ⟨w.heap.size, 0, none⟩ = some (.slice pa n pc) := by rw [hbel.cell (by show w.heap.size < _; omega), World.cell?_alloc_past _ _ _ (by simp)]; simp
    by_cases hlq : q < ne
    ·
     obtain ⟨b2, off2, rfl, _, hb2, hc2⟩ := (hE.mono (Nat.le_refl _) hB (Nat.le_refl _)) (by omega)
     obtain ⟨d0, d1⟩ := hc2 q hlq
     clear hc2
     cases h3 : inB (E q).pc 0 ((n : Int) - 1)
     ·
      have Hf : Hid (allE n E ne = false) := allE_false hlq (by simp [endB, h3])
      clear hall
      go_wp2_with (go_at_call 43; refine (within43 _ _ _ _).mono ?_; rintro e w2 ⟨rfl, rfl⟩)
      go_ret
      exact ⟨by rw [Hv.out, Hf.out] <;> rfl, hB.alloc hB.size _⟩
     ·
      cases h4 : inB (E q).sd 0 1
      ·
       have Hf : Hid (allE n E ne = false) := allE_false hlq (by simp [endB, h3, h4])
       clear hall
       go_wp2_with (go_at_call 43; refine (within43 _ _ _ _).mono ?_; rintro e w2 ⟨rfl, rfl⟩)
       go_ret
       exact ⟨by rw [Hv.out, Hf.out] <;> rfl, hB.alloc hB.size _⟩
      ·
       have Hall : Hid (∀ j, j < q + 1 → endB n (E j) = true) := snoc_all (p := fun j => endB n (E j)) hall.out (by simp [endB, h3, h4])
       clear hall
       go_wp2_with (go_at_call 43; refine (within43 _ _ _ _).mono ?_; rintro e w2 ⟨rfl, rfl⟩)
       go_roundw
       case rel => exact ⟨q + 1, by omega, by go_num, Hall, hbel.alloc (by omega) _⟩
       case measure => simp [intOf]; omega
    ·
     obtain rfl : q = ne := by omega
     have Hf : Hid (allE n E q = true) := allE_true hall.out
     clear hall
     go_wp2_with fail
     go_ret
     exact ⟨by rw [Hv.out, Hf.out] <;> rfl, hB⟩
 ·
  have Hv : Hid ((decide (ne = 2) && allE n E ne) = false) := by
   show _ = _
   simp [hne1]
  have hne2 : ((ne : Int) != 2) = true := by simp; omega
  clear hne1
  go_enter Tryz.func122, Tryz.ntmps122
  go_wp2_with (go_at_call 85; refine (kindOf44_2 _).mono ?_; rintro e w1 ⟨rfl, rfl⟩)
  go_region_with (go_at_call 173; refine (ends70 _).mono ?_; rintro e w1 ⟨rfl, hb1⟩; have hc1 := (bcell hb1).1)
  all_goals
   go_wp2_with fail
   go_ret
   exact ⟨by rw [Hv.out] <;> rfl, (bel2 w _ _).drew.trans (hb1.mono (by simp; omega))⟩
end Go.Proofs.YtjhmaofjmalglaaGreat
namespace Go.Proofs.YtjhmaofjmalglaaGreat
open Go.RowKit
theorem part0 (x y : Value) (w : World) : (part 3 #[x, y] (0 * Tryz.prog.cellsOf 3)).run Tryz.prog w = .ok x w := by kernel_rfl
theorem part1 (x y : Value) (w : World) : (part 3 #[x, y] (1 * Tryz.prog.cellsOf 3)).run Tryz.prog w = .ok y w := by kernel_rfl
theorem info3s : (Tryz.prog.info? 3).isSome = true := by kernel_rfl
theorem eq89 (a b : Int) (w : World) : (Op.equalIn 10000 210 (.agg #[.int .i64 a, .int .i64 b]) (.agg #[.int .i64 1, .int .i64 1])).run Tryz.prog w = .ok (a == 1 && b == 1) w := by
 obtain ⟨i, hi⟩ := Option.isSome_iff_exists.1 info3s
 have h := run_equalIn_array w 9999 #[.int .i64 a, .int .i64 b] #[.int .i64 1, .int .i64 1] Tryz.underlying210 hi
 rw [show List.range 2 = [0, 1] from rfl] at h
 have e0 := fun w => run_equalIn_int (P := Tryz.prog) w 9998 3 .i64 .i64 a 1 Tryz.underlying3
 have e1 := fun w => run_equalIn_int (P := Tryz.prog) w 9998 3 .i64 .i64 b 1 Tryz.underlying3
 refine h.trans ?_
 simp only [Op.eqItems, Sem.run_bind, part0, Result.andThen_ok]
 rw [e0]
 simp only [Result.andThen_ok]
 cases h1 : (a == 1)
 ·
  simp
 ·
  simp only [Bool.not_true, Bool.false_eq_true, if_false, Sem.run_bind, part1, Result.andThen_ok]
  rw [e1]
  cases h2 : (b == 1) <;> simp
end Go.Proofs.YtjhmaofjmalglaaGreat
