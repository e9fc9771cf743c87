import Derived.Test.YtoennemahlakeaaGreatTa
namespace Go.Proofs.YtoennemahlakeaaGreat
open Go.RowKit

def acrossF (kd k : Nat) : List Nat := match kd, k with
  | 2, 0 => [1]
  | 2, 1 => [0]
  | 3, 0 => [1, 2]
  | 3, 1 => [0]
  | 3, 2 => [0]
  | 4, 0 => [1]
  | 4, 1 => [0]
  | 4, 2 => [3]
  | 4, 3 => [2]
  | _, _ => []

theorem es_new {w : World} {c : Array Value} {n : Nat} {E : Nat → En} (h : ∀ i, i < n → c[i * 2]? = some (.int .i64 (E i).pc) ∧ c[i * 2 + 1]? = some (.int .i64 (E i).sd)) : EsAt w.heap.size (w.alloc (.cells c 138)) (some ⟨w.heap.size, 0, none⟩) n E := by
  intro _
  refine ⟨w.heap.size, 0, rfl, Nat.le_refl _, by simp, fun i hi => ?_⟩
  rw [World.cell?_alloc_at _ _ _ _ rfl, World.cell?_alloc_at _ _ _ _ rfl, Nat.zero_add]
  exact h i hi

theorem across80_2_0 (nm : ByteArray) (ea : Option Addr) (ne ec : Nat) (E : Nat → En) (w : World) (hne : ne = 2) (hE : EsAt 0 w ea ne E) :
    Calls Tryz.prog 103 #[.agg #[.int .i64 2, .string nm, .slice ea ne ec], .int .i64 0] w fun e w' => ∃ a, e = .returned (.slice a 1 1) ∧ EsAt w.heap.size w' a 1 (fun i => E (([1] : List Nat).getD i 0)) ∧ Below w.heap.size w w' := by
  subst hne
  obtain ⟨b, off, rfl, _, hb, hc⟩ := hE (by omega)
  have a1 : w.cell? ⟨b, off + 2, none⟩ = some (.int .i64 (E 1).pc) := (hc 1 (by omega)).1
  have b1 : w.cell? ⟨b, off + 2 + 1, none⟩ = some (.int .i64 (E 1).sd) := (hc 1 (by omega)).2
  have hE2 := es_new (w := w.alloc (.cells #[.int .i64 2, .string nm, .slice (some ⟨b, off, none⟩) 2 ec] 96)) (c := #[.int .i64 (E 1).pc, .int .i64 (E 1).sd]) (n := 1) (E := fun i => E (([1] : List Nat).getD i 0)) (fun i hi => by
    obtain rfl : i = 0 := by omega
    exact ⟨rfl, rfl⟩)
  rw [show (w.alloc (.cells #[.int .i64 2, .string nm, .slice (some ⟨b, off, none⟩) 2 ec] 96)).heap.size = w.heap.size + 1 by simp] at hE2
  clear hc hE
  go_enter Tryz.func103, Tryz.ntmps103
  go_wp2_with fail
  all_goals go_ret
  all_goals exact ⟨_, rfl, hE2.keep (by omega) (Nat.le_refl _) fun _ _ _ => rfl, bel2 _ _ _⟩

theorem across80_2_1 (nm : ByteArray) (ea : Option Addr) (ne ec : Nat) (E : Nat → En) (w : World) (hne : ne = 2) (hE : EsAt 0 w ea ne E) :
    Calls Tryz.prog 103 #[.agg #[.int .i64 2, .string nm, .slice ea ne ec], .int .i64 1] w fun e w' => ∃ a, e = .returned (.slice a 1 1) ∧ EsAt w.heap.size w' a 1 (fun i => E (([0] : List Nat).getD i 0)) ∧ Below w.heap.size w w' := by
  subst hne
  obtain ⟨b, off, rfl, _, hb, hc⟩ := hE (by omega)
  have a0 : w.cell? ⟨b, off, none⟩ = some (.int .i64 (E 0).pc) := (hc 0 (by omega)).1
  have b0 : w.cell? ⟨b, off + 1, none⟩ = some (.int .i64 (E 0).sd) := (hc 0 (by omega)).2
  have hE2 := es_new (w := w.alloc (.cells #[.int .i64 2, .string nm, .slice (some ⟨b, off, none⟩) 2 ec] 96)) (c := #[.int .i64 (E 0).pc, .int .i64 (E 0).sd]) (n := 1) (E := fun i => E (([0] : List Nat).getD i 0)) (fun i hi => by
    obtain rfl : i = 0 := by omega
    exact ⟨rfl, rfl⟩)
  rw [show (w.alloc (.cells #[.int .i64 2, .string nm, .slice (some ⟨b, off, none⟩) 2 ec] 96)).heap.size = w.heap.size + 1 by simp] at hE2
  clear hc hE
  go_enter Tryz.func103, Tryz.ntmps103
  go_wp2_with fail
  all_goals go_ret
  all_goals exact ⟨_, rfl, hE2.keep (by omega) (Nat.le_refl _) fun _ _ _ => rfl, bel2 _ _ _⟩

theorem across80_3_0 (nm : ByteArray) (ea : Option Addr) (ne ec : Nat) (E : Nat → En) (w : World) (hne : ne = 3) (hE : EsAt 0 w ea ne E) :
    Calls Tryz.prog 103 #[.agg #[.int .i64 3, .string nm, .slice ea ne ec], .int .i64 0] w fun e w' => ∃ a, e = .returned (.slice a 2 2) ∧ EsAt w.heap.size w' a 2 (fun i => E (([1, 2] : List Nat).getD i 0)) ∧ Below w.heap.size w w' := by
  subst hne
  obtain ⟨b, off, rfl, _, hb, hc⟩ := hE (by omega)
  have a1 : w.cell? ⟨b, off + 2, none⟩ = some (.int .i64 (E 1).pc) := (hc 1 (by omega)).1
  have b1 : w.cell? ⟨b, off + 2 + 1, none⟩ = some (.int .i64 (E 1).sd) := (hc 1 (by omega)).2
  have a2 : w.cell? ⟨b, off + 4, none⟩ = some (.int .i64 (E 2).pc) := (hc 2 (by omega)).1
  have b2 : w.cell? ⟨b, off + 4 + 1, none⟩ = some (.int .i64 (E 2).sd) := (hc 2 (by omega)).2
  have hE2 := es_new (w := w.alloc (.cells #[.int .i64 3, .string nm, .slice (some ⟨b, off, none⟩) 3 ec] 96)) (c := #[.int .i64 (E 1).pc, .int .i64 (E 1).sd, .int .i64 (E 2).pc, .int .i64 (E 2).sd]) (n := 2) (E := fun i => E (([1, 2] : List Nat).getD i 0)) (fun i hi => by
    rcases (show i = 0 ∨ i = 1 by omega) with rfl | rfl
    all_goals exact ⟨rfl, rfl⟩)
  rw [show (w.alloc (.cells #[.int .i64 3, .string nm, .slice (some ⟨b, off, none⟩) 3 ec] 96)).heap.size = w.heap.size + 1 by simp] at hE2
  clear hc hE
  go_enter Tryz.func103, Tryz.ntmps103
  go_wp2_with fail
  go_region
  all_goals go_wp2_with fail
  all_goals go_ret
  all_goals exact ⟨_, rfl, hE2.keep (by omega) (Nat.le_refl _) fun _ _ _ => rfl, (bel2 _ _ _).drew⟩

theorem across80_3_1 (nm : ByteArray) (ea : Option Addr) (ne ec : Nat) (E : Nat → En) (w : World) (hne : ne = 3) (hE : EsAt 0 w ea ne E) :
    Calls Tryz.prog 103 #[.agg #[.int .i64 3, .string nm, .slice ea ne ec], .int .i64 1] w fun e w' => ∃ a, e = .returned (.slice a 1 1) ∧ EsAt w.heap.size w' a 1 (fun i => E (([0] : List Nat).getD i 0)) ∧ Below w.heap.size w w' := by
  subst hne
  obtain ⟨b, off, rfl, _, hb, hc⟩ := hE (by omega)
  have a0 : w.cell? ⟨b, off, none⟩ = some (.int .i64 (E 0).pc) := (hc 0 (by omega)).1
  have b0 : w.cell? ⟨b, off + 1, none⟩ = some (.int .i64 (E 0).sd) := (hc 0 (by omega)).2
  have hE2 := es_new (w := w.alloc (.cells #[.int .i64 3, .string nm, .slice (some ⟨b, off, none⟩) 3 ec] 96)) (c := #[.int .i64 (E 0).pc, .int .i64 (E 0).sd]) (n := 1) (E := fun i => E (([0] : List Nat).getD i 0)) (fun i hi => by
    obtain rfl : i = 0 := by omega
    exact ⟨rfl, rfl⟩)
  rw [show (w.alloc (.cells #[.int .i64 3, .string nm, .slice (some ⟨b, off, none⟩) 3 ec] 96)).heap.size = w.heap.size + 1 by simp] at hE2
  clear hc hE
  go_enter Tryz.func103, Tryz.ntmps103
  go_wp2_with fail
  all_goals go_ret
  all_goals exact ⟨_, rfl, hE2.keep (by omega) (Nat.le_refl _) fun _ _ _ => rfl, bel2 _ _ _⟩

theorem across80_3_2 (nm : ByteArray) (ea : Option Addr) (ne ec : Nat) (E : Nat → En) (w : World) (hne : ne = 3) (hE : EsAt 0 w ea ne E) :
    Calls Tryz.prog 103 #[.agg #[.int .i64 3, .string nm, .slice ea ne ec], .int .i64 2] w fun e w' => ∃ a, e = .returned (.slice a 1 1) ∧ EsAt w.heap.size w' a 1 (fun i => E (([0] : List Nat).getD i 0)) ∧ Below w.heap.size w w' := by
  subst hne
  obtain ⟨b, off, rfl, _, hb, hc⟩ := hE (by omega)
  have a0 : w.cell? ⟨b, off, none⟩ = some (.int .i64 (E 0).pc) := (hc 0 (by omega)).1
  have b0 : w.cell? ⟨b, off + 1, none⟩ = some (.int .i64 (E 0).sd) := (hc 0 (by omega)).2
  have hE2 := es_new (w := w.alloc (.cells #[.int .i64 3, .string nm, .slice (some ⟨b, off, none⟩) 3 ec] 96)) (c := #[.int .i64 (E 0).pc, .int .i64 (E 0).sd]) (n := 1) (E := fun i => E (([0] : List Nat).getD i 0)) (fun i hi => by
    obtain rfl : i = 0 := by omega
    exact ⟨rfl, rfl⟩)
  rw [show (w.alloc (.cells #[.int .i64 3, .string nm, .slice (some ⟨b, off, none⟩) 3 ec] 96)).heap.size = w.heap.size + 1 by simp] at hE2
  clear hc hE
  go_enter Tryz.func103, Tryz.ntmps103
  go_wp2_with fail
  all_goals go_ret
  all_goals exact ⟨_, rfl, hE2.keep (by omega) (Nat.le_refl _) fun _ _ _ => rfl, bel2 _ _ _⟩

theorem across80_4_0 (nm : ByteArray) (ea : Option Addr) (ne ec : Nat) (E : Nat → En) (w : World) (hne : ne = 4) (hE : EsAt 0 w ea ne E) :
    Calls Tryz.prog 103 #[.agg #[.int .i64 4, .string nm, .slice ea ne ec], .int .i64 0] w fun e w' => ∃ a, e = .returned (.slice a 1 1) ∧ EsAt w.heap.size w' a 1 (fun i => E (([1] : List Nat).getD i 0)) ∧ Below w.heap.size w w' := by
  subst hne
  obtain ⟨b, off, rfl, _, hb, hc⟩ := hE (by omega)
  have a1 : w.cell? ⟨b, off + 2, none⟩ = some (.int .i64 (E 1).pc) := (hc 1 (by omega)).1
  have b1 : w.cell? ⟨b, off + 2 + 1, none⟩ = some (.int .i64 (E 1).sd) := (hc 1 (by omega)).2
  have hE2 := es_new (w := (w.alloc (.cells #[.int .i64 4, .string nm, .slice (some ⟨b, off, none⟩) 4 ec] 96)).alloc (.cells #[.int .i64 1, .int .i64 0, .int .i64 3, .int .i64 2] 3)) (c := #[.int .i64 (E 1).pc, .int .i64 (E 1).sd]) (n := 1) (E := fun i => E (([1] : List Nat).getD i 0)) (fun i hi => by
    obtain rfl : i = 0 := by omega
    exact ⟨rfl, rfl⟩)
  rw [show ((w.alloc (.cells #[.int .i64 4, .string nm, .slice (some ⟨b, off, none⟩) 4 ec] 96)).alloc (.cells #[.int .i64 1, .int .i64 0, .int .i64 3, .int .i64 2] 3)).heap.size = w.heap.size + 1 + 1 by simp] at hE2
  clear hc hE
  go_enter Tryz.func103, Tryz.ntmps103
  go_wp2_with fail
  go_region
  all_goals go_wp2_with fail
  all_goals go_ret
  all_goals exact ⟨_, rfl, hE2.keep (by omega) (Nat.le_refl _) fun _ _ _ => rfl, (bel3 _ _ _ _).drew⟩

theorem across80_4_1 (nm : ByteArray) (ea : Option Addr) (ne ec : Nat) (E : Nat → En) (w : World) (hne : ne = 4) (hE : EsAt 0 w ea ne E) :
    Calls Tryz.prog 103 #[.agg #[.int .i64 4, .string nm, .slice ea ne ec], .int .i64 1] w fun e w' => ∃ a, e = .returned (.slice a 1 1) ∧ EsAt w.heap.size w' a 1 (fun i => E (([0] : List Nat).getD i 0)) ∧ Below w.heap.size w w' := by
  subst hne
  obtain ⟨b, off, rfl, _, hb, hc⟩ := hE (by omega)
  have a0 : w.cell? ⟨b, off, none⟩ = some (.int .i64 (E 0).pc) := (hc 0 (by omega)).1
  have b0 : w.cell? ⟨b, off + 1, none⟩ = some (.int .i64 (E 0).sd) := (hc 0 (by omega)).2
  have hE2 := es_new (w := (w.alloc (.cells #[.int .i64 4, .string nm, .slice (some ⟨b, off, none⟩) 4 ec] 96)).alloc (.cells #[.int .i64 1, .int .i64 0, .int .i64 3, .int .i64 2] 3)) (c := #[.int .i64 (E 0).pc, .int .i64 (E 0).sd]) (n := 1) (E := fun i => E (([0] : List Nat).getD i 0)) (fun i hi => by
    obtain rfl : i = 0 := by omega
    exact ⟨rfl, rfl⟩)
  rw [show ((w.alloc (.cells #[.int .i64 4, .string nm, .slice (some ⟨b, off, none⟩) 4 ec] 96)).alloc (.cells #[.int .i64 1, .int .i64 0, .int .i64 3, .int .i64 2] 3)).heap.size = w.heap.size + 1 + 1 by simp] at hE2
  clear hc hE
  go_enter Tryz.func103, Tryz.ntmps103
  go_wp2_with fail
  go_region
  all_goals go_wp2_with fail
  all_goals go_ret
  all_goals exact ⟨_, rfl, hE2.keep (by omega) (Nat.le_refl _) fun _ _ _ => rfl, (bel3 _ _ _ _).drew⟩

theorem across80_4_2 (nm : ByteArray) (ea : Option Addr) (ne ec : Nat) (E : Nat → En) (w : World) (hne : ne = 4) (hE : EsAt 0 w ea ne E) :
    Calls Tryz.prog 103 #[.agg #[.int .i64 4, .string nm, .slice ea ne ec], .int .i64 2] w fun e w' => ∃ a, e = .returned (.slice a 1 1) ∧ EsAt w.heap.size w' a 1 (fun i => E (([3] : List Nat).getD i 0)) ∧ Below w.heap.size w w' := by
  subst hne
  obtain ⟨b, off, rfl, _, hb, hc⟩ := hE (by omega)
  have a3 : w.cell? ⟨b, off + 6, none⟩ = some (.int .i64 (E 3).pc) := (hc 3 (by omega)).1
  have b3 : w.cell? ⟨b, off + 6 + 1, none⟩ = some (.int .i64 (E 3).sd) := (hc 3 (by omega)).2
  have hE2 := es_new (w := (w.alloc (.cells #[.int .i64 4, .string nm, .slice (some ⟨b, off, none⟩) 4 ec] 96)).alloc (.cells #[.int .i64 1, .int .i64 0, .int .i64 3, .int .i64 2] 3)) (c := #[.int .i64 (E 3).pc, .int .i64 (E 3).sd]) (n := 1) (E := fun i => E (([3] : List Nat).getD i 0)) (fun i hi => by
    obtain rfl : i = 0 := by omega
    exact ⟨rfl, rfl⟩)
  rw [show ((w.alloc (.cells #[.int .i64 4, .string nm, .slice (some ⟨b, off, none⟩) 4 ec] 96)).alloc (.cells #[.int .i64 1, .int .i64 0, .int .i64 3, .int .i64 2] 3)).heap.size = w.heap.size + 1 + 1 by simp] at hE2
  clear hc hE
  go_enter Tryz.func103, Tryz.ntmps103
  go_wp2_with fail
  go_region
  all_goals go_wp2_with fail
  all_goals go_ret
  all_goals exact ⟨_, rfl, hE2.keep (by omega) (Nat.le_refl _) fun _ _ _ => rfl, (bel3 _ _ _ _).drew⟩

theorem across80_4_3 (nm : ByteArray) (ea : Option Addr) (ne ec : Nat) (E : Nat → En) (w : World) (hne : ne = 4) (hE : EsAt 0 w ea ne E) :
    Calls Tryz.prog 103 #[.agg #[.int .i64 4, .string nm, .slice ea ne ec], .int .i64 3] w fun e w' => ∃ a, e = .returned (.slice a 1 1) ∧ EsAt w.heap.size w' a 1 (fun i => E (([2] : List Nat).getD i 0)) ∧ Below w.heap.size w w' := by
  subst hne
  obtain ⟨b, off, rfl, _, hb, hc⟩ := hE (by omega)
  have a2 : w.cell? ⟨b, off + 4, none⟩ = some (.int .i64 (E 2).pc) := (hc 2 (by omega)).1
  have b2 : w.cell? ⟨b, off + 4 + 1, none⟩ = some (.int .i64 (E 2).sd) := (hc 2 (by omega)).2
  have hE2 := es_new (w := (w.alloc (.cells #[.int .i64 4, .string nm, .slice (some ⟨b, off, none⟩) 4 ec] 96)).alloc (.cells #[.int .i64 1, .int .i64 0, .int .i64 3, .int .i64 2] 3)) (c := #[.int .i64 (E 2).pc, .int .i64 (E 2).sd]) (n := 1) (E := fun i => E (([2] : List Nat).getD i 0)) (fun i hi => by
    obtain rfl : i = 0 := by omega
    exact ⟨rfl, rfl⟩)
  rw [show ((w.alloc (.cells #[.int .i64 4, .string nm, .slice (some ⟨b, off, none⟩) 4 ec] 96)).alloc (.cells #[.int .i64 1, .int .i64 0, .int .i64 3, .int .i64 2] 3)).heap.size = w.heap.size + 1 + 1 by simp] at hE2
  clear hc hE
  go_enter Tryz.func103, Tryz.ntmps103
  go_wp2_with fail
  go_region
  all_goals go_wp2_with fail
  all_goals go_ret
  all_goals exact ⟨_, rfl, hE2.keep (by omega) (Nat.le_refl _) fun _ _ _ => rfl, (bel3 _ _ _ _).drew⟩

theorem across59 (nm : ByteArray) (ea : Option Addr) (ne ec : Nat) (E : Nat → En) (kd : Int) (q : Nat) (w : World) (hk : kd = 2 ∨ kd = 3 ∨ kd = 4) (hne : (ne : Int) = kd) (hq : q < ne) (hE : EsAt 0 w ea ne E) :
    Calls Tryz.prog 103 #[.agg #[.int .i64 kd, .string nm, .slice ea ne ec], .int .i64 q] w fun e w' => ∃ a, e = .returned (.slice a (acrossF kd.toNat q).length (acrossF kd.toNat q).length) ∧ EsAt w.heap.size w' a (acrossF kd.toNat q).length (fun i => E ((acrossF kd.toNat q).getD i 0)) ∧ Below w.heap.size w w' := by
  rcases hk with rfl | rfl | rfl
  · have hn : ne = 2 := by omega
    subst hn
    rcases (show q = 0 ∨ q = 1 by omega) with rfl | rfl
    · exact across80_2_0 nm ea 2 ec E w rfl hE
    · exact across80_2_1 nm ea 2 ec E w rfl hE
  · have hn : ne = 3 := by omega
    subst hn
    rcases (show q = 0 ∨ q = 1 ∨ q = 2 by omega) with rfl | rfl | rfl
    · exact across80_3_0 nm ea 3 ec E w rfl hE
    · exact across80_3_1 nm ea 3 ec E w rfl hE
    · exact across80_3_2 nm ea 3 ec E w rfl hE
  · have hn : ne = 4 := by omega
    subst hn
    rcases (show q = 0 ∨ q = 1 ∨ q = 2 ∨ q = 3 by omega) with rfl | rfl | rfl | rfl
    · exact across80_4_0 nm ea 4 ec E w rfl hE
    · exact across80_4_1 nm ea 4 ec E w rfl hE
    · exact across80_4_2 nm ea 4 ec E w rfl hE
    · exact across80_4_3 nm ea 4 ec E w rfl hE

end Go.Proofs.YtoennemahlakeaaGreat
