import Derived.Test.YtjhmaofjmalglaaGreatData
import Derived.ProofKit
import Derived.Deep.Slices
import Derived.Deep.Strs
import Derived.Lib.SmallJoins
namespace Go.Proofs.YtjhmaofjmalglaaGreat
open Go.RowKit Go.Deep Go.Joins Go.ChangeShapes

section
variable {H : Type} {enc : TypeId × Value → H} {w : World} {base : Nat} {spare : Nat → Bool} {held : Bool}

theorem add_none (b off k : Nat) : (⟨b, off, none⟩ : Addr).add k = ⟨b, off + k, none⟩ := by
  unfold Addr.add
  split <;> simp_all

theorem list2 {α : Type} {l : List α} (h : l.length = 2) : ∃ a b, l = [a, b] := by
  match l, h with
  | [a, b], _ => exact ⟨a, b, rfl⟩
theorem list3 {α : Type} {l : List α} (h : l.length = 3) : ∃ a b c, l = [a, b, c] := by
  match l, h with
  | [a, b, c], _ => exact ⟨a, b, c, rfl⟩
theorem list4 {α : Type} {l : List α} (h : l.length = 4) : ∃ a b c d, l = [a, b, c, d] := by
  match l, h with
  | [a, b, c, d], _ => exact ⟨a, b, c, d, rfl⟩

theorem cells76 : Tryz.prog.cellsOf 122 = 4 := by kernel_rfl
theorem cells80 : Tryz.prog.cellsOf 126 = 3 := by kernel_rfl
theorem cells103 : Tryz.prog.cellsOf 208 = 2 := by kernel_rfl
theorem cells25 : Tryz.prog.cellsOf 25 = 2 := by kernel_rfl
theorem cells9 : Tryz.prog.cellsOf 9 = 1 := by kernel_rfl
theorem cells3 : Tryz.prog.cellsOf 3 = 1 := by kernel_rfl
theorem cells78 : Tryz.prog.cellsOf 124 = 1 := by kernel_rfl

/-- one piece's cells -/
theorem open_piece {n : Nat} {cs : List Value} {y : DataW H × List MemPlace} (h : DataW.trod enc Tryz.prog w base spare held n 122 cs = some y) :
    ∃ p : Pc, cs = [.string p.nm, .int .i64 p.ln, .int .i64 p.sp, .int .i64 p.br] ∧ p.nm.size ≤ maxLen := by
  obtain ⟨y0, y1, y2, y3, k, _, hl, h0, h1, h2, h3⟩ := trod_struct4 Tryz.underlying122 h
  obtain ⟨v0, v1, v2, v3, rfl⟩ := list4 (hl.trans cells76)
  simp only [cells9, cells3, List.drop_zero, List.drop_succ_cons, List.take_succ_cons, List.take_zero] at h0 h1 h2 h3
  obtain ⟨s, e0, _, hs⟩ := DataW.trod_string Tryz.underlying9 h0
  obtain ⟨a, e1, _, _⟩ := DataW.trod_int Tryz.underlying3 h1
  obtain ⟨b, e2, _, _⟩ := DataW.trod_int Tryz.underlying3 h2
  obtain ⟨c, e3, _, _⟩ := DataW.trod_int Tryz.underlying3 h3
  simp only [List.cons.injEq, and_true] at e0 e1 e2 e3
  exact ⟨⟨s, a, b, c⟩, by rw [e0, e1, e2, e3], hs⟩

theorem open_end {n : Nat} {cs : List Value} {y : DataW H × List MemPlace} (h : DataW.trod enc Tryz.prog w base spare held n 208 cs = some y) :
    ∃ p : En, cs = [.int .i64 p.pc, .int .i64 p.sd] := by
  obtain ⟨y0, y1, k, _, hl, h0, h1⟩ := trod_struct2 Tryz.underlying208 h
  obtain ⟨v0, v1, rfl⟩ := list2 (hl.trans cells103)
  simp only [cells3, List.drop_zero, List.drop_succ_cons, List.take_succ_cons, List.take_zero] at h0 h1
  obtain ⟨a, e1, _, _⟩ := DataW.trod_int Tryz.underlying3 h0
  obtain ⟨b, e2, _, _⟩ := DataW.trod_int Tryz.underlying3 h1
  simp only [List.cons.injEq, and_true] at e1 e2
  exact ⟨⟨a, b⟩, by rw [e1, e2]⟩

/-- a slice's address, where there is an element -/
theorem spot_none {a : Addr} {k : Nat} {cs : List Value} (h : w.cells? base (a.add 0) (k + 1) = some cs) : a.spot = none := by
  obtain ⟨_, hl, hc⟩ := World.cells?_some h
  have h0 := hc 0 (by omega)
  obtain ⟨v, hv⟩ : ∃ v, cs[0]? = some v := ⟨cs[0], by simp [hl]⟩
  rw [hv] at h0
  have := World.cell?_spot h0
  simpa [Addr.add] using this

theorem open_pieces {fuel : Nat} {v : Value} {x : DataW H × List MemPlace} (h : DataW.trod enc Tryz.prog w base spare held fuel 22 [v] = some x) :
    ∃ (a : Option Addr) (n cap : Nat) (P : Nat → Pc), v = .slice a n cap ∧ n ≤ maxLen ∧ PsAt 0 w a n P ∧ ∀ i, i < n → (P i).nm.size ≤ maxLen := by
  rcases open_slice Tryz.underlying22 h with ⟨hcs, _⟩ | ⟨a, len, cap, m, k, D, Pl, hcs, _, hl, hm, hmm, _, hel⟩
  · simp only [List.cons.injEq, and_true] at hcs
    exact ⟨none, 0, 0, fun _ => ⟨ByteArray.empty, 0, 0, 0⟩, hcs, by simp [maxLen], fun h => absurd h (by omega), fun i hi => absurd hi (by omega)⟩
  · simp only [List.cons.injEq, and_true] at hcs
    have hlm : len ≤ m := by rw [hmm]; split <;> omega
    rw [cells76] at hel
    obtain ⟨P, hP⟩ := @choose_lt Pc ⟨⟨ByteArray.empty, 0, 0, 0⟩⟩ len (fun i p => (w.cells? base (a.add (i * 4)) 4 = some [.string p.nm, .int .i64 p.ln, .int .i64 p.sp, .int .i64 p.br]) ∧ p.nm.size ≤ maxLen) (fun i hi => by
      obtain ⟨cs', h1, h2⟩ := hel i (by omega)
      obtain ⟨p, rfl, hp⟩ := open_piece h2
      exact ⟨p, h1, hp⟩)
    refine ⟨some a, len, cap, P, hcs, by omega, fun h0 => ?_, fun i hi => (hP i hi).2⟩
    obtain ⟨b, off, sp⟩ := a
    have hs : sp = none := by
      have h1 := (hP 0 h0).1
      rw [Nat.zero_mul] at h1
      exact spot_none h1
    subst hs
    have hcell : ∀ i, i < len → w.cell? ⟨b, off + i * 4, none⟩ = some (.string (P i).nm) ∧ w.cell? ⟨b, off + i * 4 + 1, none⟩ = some (.int .i64 (P i).ln) ∧
      w.cell? ⟨b, off + i * 4 + 2, none⟩ = some (.int .i64 (P i).sp) ∧ w.cell? ⟨b, off + i * 4 + 3, none⟩ = some (.int .i64 (P i).br) := fun i hi => by
      obtain ⟨_, _, hc⟩ := World.cells?_some (hP i hi).1
      rw [add_none] at hc
      have g0 := hc 0 (by omega)
      have g1 := hc 1 (by omega)
      have g2 := hc 2 (by omega)
      have g3 := hc 3 (by omega)
      rw [add_none] at g0 g1 g2 g3
      exact ⟨g0, g1, g2, g3⟩
    exact ⟨b, off, rfl, Nat.zero_le _, World.block_lt_of_cell? w _ (hcell 0 h0).1, hcell⟩

theorem open_ends {fuel : Nat} {v : Value} {x : DataW H × List MemPlace} (h : DataW.trod enc Tryz.prog w base spare held fuel 124 [v] = some x) :
    ∃ (a : Option Addr) (n cap : Nat) (E : Nat → En), v = .slice a n cap ∧ n ≤ maxLen ∧ EsAt 0 w a n E := by
  rcases open_slice Tryz.underlying124 h with ⟨hcs, _⟩ | ⟨a, len, cap, m, k, D, Pl, hcs, _, hl, hm, hmm, _, hel⟩
  · simp only [List.cons.injEq, and_true] at hcs
    exact ⟨none, 0, 0, fun _ => ⟨0, 0⟩, hcs, by simp [maxLen], fun h => absurd h (by omega)⟩
  · simp only [List.cons.injEq, and_true] at hcs
    have hlm : len ≤ m := by rw [hmm]; split <;> omega
    rw [cells103] at hel
    obtain ⟨E, hE⟩ := @choose_lt En ⟨⟨0, 0⟩⟩ len (fun i p => (w.cells? base (a.add (i * 2)) 2 = some [.int .i64 p.pc, .int .i64 p.sd])) (fun i hi => by
      obtain ⟨cs', h1, h2⟩ := hel i (by omega)
      obtain ⟨p, rfl⟩ := open_end h2
      exact ⟨p, h1⟩)
    refine ⟨some a, len, cap, E, hcs, by omega, fun h0 => ?_⟩
    obtain ⟨b, off, sp⟩ := a
    have hs : sp = none := by
      have h1 := hE 0 h0
      rw [Nat.zero_mul] at h1
      exact spot_none h1
    subst hs
    have hcell : ∀ i, i < len → w.cell? ⟨b, off + i * 2, none⟩ = some (.int .i64 (E i).pc) ∧ w.cell? ⟨b, off + i * 2 + 1, none⟩ = some (.int .i64 (E i).sd) := fun i hi => by
      obtain ⟨_, _, hc⟩ := World.cells?_some (hE i hi)
      rw [add_none] at hc
      have g0 := hc 0 (by omega)
      have g1 := hc 1 (by omega)
      rw [add_none] at g0 g1
      exact ⟨g0, g1⟩
    exact ⟨b, off, rfl, Nat.zero_le _, World.block_lt_of_cell? w _ (hcell 0 h0).1, hcell⟩

/-- one joint's cells -/
theorem open_joint {n : Nat} {cs : List Value} {y : DataW H × List MemPlace} (h : DataW.trod enc Tryz.prog w base spare held n 126 cs = some y) :
    ∃ (p : Jt) (ea : Option Addr) (ec : Nat), cs = [.int .i64 p.kd, .string p.nm, .slice ea p.ne ec] ∧ p.nm.size ≤ maxLen ∧ p.ne ≤ maxLen ∧ EsAt 0 w ea p.ne p.E := by
  obtain ⟨y0, y1, y2, k, _, hl, h0, h1, h2⟩ := trod_struct3 Tryz.underlying126 h
  obtain ⟨v0, v1, v2, rfl⟩ := list3 (hl.trans cells80)
  simp only [cells9, cells3, cells78, List.drop_zero, List.drop_succ_cons, List.take_succ_cons, List.take_zero] at h0 h1 h2
  obtain ⟨a, e0, _, _⟩ := DataW.trod_int Tryz.underlying3 h0
  obtain ⟨s, e1, _, hs⟩ := DataW.trod_string Tryz.underlying9 h1
  obtain ⟨ea, ne, ec, E, e2, hn, hE⟩ := open_ends h2
  simp only [List.cons.injEq, and_true] at e0 e1
  exact ⟨⟨a, s, ne, E⟩, ea, ec, by rw [e0, e1, e2], hs, hn, hE⟩

theorem open_joints {fuel : Nat} {v : Value} {x : DataW H × List MemPlace} (h : DataW.trod enc Tryz.prog w base spare held fuel 23 [v] = some x) :
    ∃ (a : Option Addr) (n cap : Nat) (J : Nat → Jt), v = .slice a n cap ∧ n ≤ maxLen ∧ JsAt 0 w a n J ∧ ∀ i, i < n → (J i).nm.size ≤ maxLen ∧ (J i).ne ≤ maxLen := by
  rcases open_slice Tryz.underlying23 h with ⟨hcs, _⟩ | ⟨a, len, cap, m, k, D, Pl, hcs, _, hl, hm, hmm, _, hel⟩
  · simp only [List.cons.injEq, and_true] at hcs
    exact ⟨none, 0, 0, fun _ => ⟨0, ByteArray.empty, 0, fun _ => ⟨0, 0⟩⟩, hcs, by simp [maxLen], fun h => absurd h (by omega), fun i hi => absurd hi (by omega)⟩
  · simp only [List.cons.injEq, and_true] at hcs
    have hlm : len ≤ m := by rw [hmm]; split <;> omega
    rw [cells80] at hel
    obtain ⟨J, hJ⟩ := @choose_lt Jt ⟨⟨0, ByteArray.empty, 0, fun _ => ⟨0, 0⟩⟩⟩ len (fun i p => ∃ ea ec, (w.cells? base (a.add (i * 3)) 3 = some [.int .i64 p.kd, .string p.nm, .slice ea p.ne ec]) ∧ p.nm.size ≤ maxLen ∧ p.ne ≤ maxLen ∧ EsAt 0 w ea p.ne p.E) (fun i hi => by
      obtain ⟨cs', h1, h2⟩ := hel i (by omega)
      obtain ⟨p, ea, ec, rfl, hp⟩ := open_joint h2
      exact ⟨p, ea, ec, h1, hp⟩)
    refine ⟨some a, len, cap, J, hcs, by omega, fun h0 => ?_, fun i hi => by obtain ⟨_, _, _, h1, h2, _⟩ := hJ i hi; exact ⟨h1, h2⟩⟩
    obtain ⟨b, off, sp⟩ := a
    have hs : sp = none := by
      obtain ⟨ea, ec, h1, _⟩ := hJ 0 h0
      rw [Nat.zero_mul] at h1
      exact spot_none h1
    subst hs
    have hcell : ∀ i, i < len → ∃ ea ec, w.cell? ⟨b, off + i * 3, none⟩ = some (.int .i64 (J i).kd) ∧ w.cell? ⟨b, off + i * 3 + 1, none⟩ = some (.string (J i).nm) ∧
      w.cell? ⟨b, off + i * 3 + 2, none⟩ = some (.slice ea (J i).ne ec) ∧ EsAt 0 w ea (J i).ne (J i).E := fun i hi => by
      obtain ⟨ea, ec, h1, _, _, hE⟩ := hJ i hi
      obtain ⟨_, _, hc⟩ := World.cells?_some h1
      rw [add_none] at hc
      have g0 := hc 0 (by omega)
      have g1 := hc 1 (by omega)
      have g2 := hc 2 (by omega)
      rw [add_none] at g0 g1 g2
      exact ⟨ea, ec, g0, g1, g2, hE⟩
    obtain ⟨_, _, h1, _⟩ := hcell 0 h0
    exact ⟨b, off, rfl, Nat.zero_le _, World.block_lt_of_cell? w _ h1, hcell⟩

end
end Go.Proofs.YtjhmaofjmalglaaGreat
