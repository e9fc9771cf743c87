import Derived.Test.YtmcaohablpaknaaMd
import Derived.ProofKit
import Derived.Deep.Slices
import Derived.Deep.Strs
import Derived.Lib.SmallJoins
namespace Go.Proofs.Ytmcaohablpaknaa
open Go.RowKit Go.Deep Go.Joins Go.ChangeShapes

section
variable {H : Type} {enc : TypeId × Value → H} {w : World} {base : Nat} {spare : Nat → Bool} {held : Bool}

theorem add_none (b off k : Nat) : (⟨b, off, none⟩ : Addr).add k = ⟨b, off + k, none⟩ := by
  unfold Addr.add
  split <;> simp_all
theorem list2 {α : Type} {l : List α} (h : l.length = 2) : ∃ a b, l = [a, b] := by
  match l, h with
  | [a, b], _ => exact ⟨a, b, rfl⟩
theorem list3 {α : Type} {l : List α} (h : l.length = 3) : ∃ a b c, l = [a, b, c] := by
  match l, h with
  | [a, b, c], _ => exact ⟨a, b, c, rfl⟩
theorem list5 {α : Type} {l : List α} (h : l.length = 5) : ∃ a b c d e, l = [a, b, c, d, e] := by
  match l, h with
  | [a, b, c, d, e], _ => exact ⟨a, b, c, d, e, rfl⟩
theorem cells3 : Try.prog.cellsOf 3 = 1 := by kernel_rfl
theorem cells4 : Try.prog.cellsOf 4 = 1 := by kernel_rfl
theorem cells22 : Try.prog.cellsOf 22 = 1 := by kernel_rfl
theorem cells40 : Try.prog.cellsOf 40 = 1 := by kernel_rfl
theorem cells52 : Try.prog.cellsOf 52 = 1 := by kernel_rfl
theorem cells24 : Try.prog.cellsOf 24 = 2 := by kernel_rfl
theorem cells47 : Try.prog.cellsOf 47 = 3 := by kernel_rfl
theorem cells54 : Try.prog.cellsOf 54 = 3 := by kernel_rfl
theorem cells97 : Try.prog.cellsOf 95 = 2 := by kernel_rfl
theorem cells102 : Try.prog.cellsOf 100 = 5 := by kernel_rfl

theorem open_counter {n : Nat} {cs : List Value} {y : DataW H × List MemPlace} (h : DataW.trod enc Try.prog w base spare held n 95 cs = some y) : ∃ p : Int × Int, cs = [.int .i64 p.1, .int .i64 p.2] := by
  obtain ⟨y0, y1, k, _, hl, h0, h1⟩ := trod_struct2 Try.underlying95 h
  obtain ⟨v0, v1, rfl⟩ := list2 (hl.trans cells97)
  simp only [cells3, List.drop_zero, List.drop_succ_cons, List.take_succ_cons, List.take_zero] at h0 h1
  obtain ⟨a, e1, _, _⟩ := DataW.trod_int Try.underlying3 h0
  obtain ⟨b, e2, _, _⟩ := DataW.trod_int Try.underlying3 h1
  simp only [List.cons.injEq, and_true] at e1 e2
  exact ⟨(a, b), by rw [e1, e2]⟩
theorem trod_struct5 {P : Program} {t : TypeId} {f0 f1 f2 f3 f4 : Field} {fuel : Nat} {cs : List Value} {x : DataW H × List MemPlace} (ht : P.underlying t = some (.struct #[f0, f1, f2, f3, f4])) (h : DataW.trod enc P w base spare held fuel t cs = some x) :
    ∃ y0 y1 y2 y3 y4 n, cs.length = P.cellsOf t ∧ DataW.trod enc P w base spare held n f0.type ((cs.drop f0.offset).take (P.cellsOf f0.type)) = some y0 ∧
      DataW.trod enc P w base spare held n f1.type ((cs.drop f1.offset).take (P.cellsOf f1.type)) = some y1 ∧ DataW.trod enc P w base spare held n f2.type ((cs.drop f2.offset).take (P.cellsOf f2.type)) = some y2 ∧
      DataW.trod enc P w base spare held n f3.type ((cs.drop f3.offset).take (P.cellsOf f3.type)) = some y3 ∧ DataW.trod enc P w base spare held n f4.type ((cs.drop f4.offset).take (P.cellsOf f4.type)) = some y4 := by
  obtain ⟨xs, n, _, rfl, hl, hlen, hf⟩ := DataW.trod_struct ht h
  match xs, hlen with
  | [y0, y1, y2, y3, y4], _ => exact ⟨y0, y1, y2, y3, y4, n, hl, by simpa using hf 0 f0 rfl, by simpa using hf 1 f1 rfl, by simpa using hf 2 f2 rfl, by simpa using hf 3 f3 rfl, by simpa using hf 4 f4 rfl⟩
theorem open_section {n : Nat} {cs : List Value} {y : DataW H × List MemPlace} (h : DataW.trod enc Try.prog w base spare held n 100 cs = some y) : ∃ s : Sec, cs = [.int .i64 s.told, .int .i64 s.count, .bool s.lost, .bool s.sweep, .int .i64 s.last] := by
  obtain ⟨y0, y1, y2, y3, y4, k, hl, h0, h1, h2, h3, h4⟩ := trod_struct5 Try.underlying100 h
  obtain ⟨v0, v1, v2, v3, v4, rfl⟩ := list5 (hl.trans cells102)
  simp only [cells3, cells4, List.drop_zero, List.drop_succ_cons, List.take_succ_cons, List.take_zero] at h0 h1 h2 h3 h4
  obtain ⟨a, e0, _, _⟩ := DataW.trod_int Try.underlying3 h0
  obtain ⟨b, e1, _, _⟩ := DataW.trod_int Try.underlying3 h1
  obtain ⟨c, e2, _⟩ := DataW.trod_bool Try.underlying4 h2
  obtain ⟨d, e3, _⟩ := DataW.trod_bool Try.underlying4 h3
  obtain ⟨e, e4, _, _⟩ := DataW.trod_int Try.underlying3 h4
  simp only [List.cons.injEq, and_true] at e0 e1 e2 e3 e4
  exact ⟨⟨a, b, c, d, e⟩, by rw [e0, e1, e2, e3, e4]⟩
theorem open_bool {n : Nat} {cs : List Value} {y : DataW H × List MemPlace} (h : DataW.trod enc Try.prog w base spare held n 4 cs = some y) : ∃ b : Bool, cs = [.bool b] := by
  obtain ⟨c, e2, _⟩ := DataW.trod_bool Try.underlying4 h
  exact ⟨c, e2⟩

/-- a slice's address, where there is an element -/
theorem spot_none {a : Addr} {k : Nat} {cs : List Value} (h : w.cells? base (a.add 0) (k + 1) = some cs) : a.spot = none := by
  obtain ⟨_, hl, hc⟩ := World.cells?_some h
  have h0 := hc 0 (by omega)
  obtain ⟨v, hv⟩ : ∃ v, cs[0]? = some v := ⟨cs[0], by simp [hl]⟩
  rw [hv] at h0
  have := World.cell?_spot h0
  simpa [Addr.add] using this

theorem VsAt.congr {c C : Nat} {w : World} {a : Option Addr} {n : Nat} {F G : Nat → Nat → Value} (h : VsAt c C w a n F) (hf : ∀ i, i < n → ∀ j, j < c → F i j = G i j) : VsAt c C w a n G := by
  intro h0
  obtain ⟨b, off, h1, h2, h3, h4⟩ := h h0
  exact ⟨b, off, h1, h2, h3, fun i hi j hj => by rw [h4 i hi j hj, hf i hi j hj]⟩
theorem open_vlist {α : Type} (d : α) (E : α → List Value) {t e : TypeId} {c : Nat} (ht : Try.prog.underlying t = some (.slice e)) (hc : Try.prog.cellsOf e = c + 1) (hE : ∀ p, (E p).length = c + 1)
    (ho : ∀ {n : Nat} {cs : List Value} {y : DataW H × List MemPlace}, DataW.trod enc Try.prog w base spare held n e cs = some y → ∃ p, cs = E p)
    {fuel : Nat} {v : Value} {x : DataW H × List MemPlace} (h : DataW.trod enc Try.prog w base spare held fuel t [v] = some x) :
    ∃ (a : Option Addr) (n cap : Nat) (L : Nat → α), v = .slice a n cap ∧ n ≤ maxLen ∧ VsAt (c + 1) 0 w a n (fun i j => (E (L i)).getD j undef) := by
  rcases open_slice ht h with ⟨hcs, _⟩ | ⟨a, len, cap, m, k, D, Pl, hcs, _, hl, hm, hmm, _, hel⟩
  · simp only [List.cons.injEq, and_true] at hcs
    exact ⟨none, 0, 0, fun _ => d, hcs, by simp [maxLen], fun h => absurd h (by omega)⟩
  · simp only [List.cons.injEq, and_true] at hcs
    have hlm : len ≤ m := by rw [hmm]; split <;> omega
    rw [hc] at hel
    obtain ⟨L, hL⟩ := @choose_lt α ⟨d⟩ len (fun i p => w.cells? base (a.add (i * (c + 1))) (c + 1) = some (E p)) (fun i hi => by
      obtain ⟨cs', h1, h2⟩ := hel i (by omega)
      obtain ⟨p, rfl⟩ := ho h2
      exact ⟨p, h1⟩)
    refine ⟨some a, len, cap, L, hcs, by omega, fun h0 => ?_⟩
    obtain ⟨b, off, sp⟩ := a
    have hs : sp = none := by
      have h1 := hL 0 h0
      rw [Nat.zero_mul] at h1
      exact spot_none h1
    subst hs
    have hcell : ∀ i, i < len → ∀ j, j < c + 1 → w.cell? ⟨b, off + i * (c + 1) + j, none⟩ = some ((E (L i)).getD j undef) := fun i hi j hj => by
      have hcc := hL i hi
      obtain ⟨_, _, hc9⟩ := World.cells?_some hcc
      rw [add_none] at hc9
      have g0 := hc9 j hj
      rw [add_none] at g0
      rw [g0, List.getElem?_eq_getElem (by rw [hE]; exact hj), List.getD_eq_getElem?_getD, List.getElem?_eq_getElem (by rw [hE]; exact hj)]
      rfl
    exact ⟨b, off, rfl, Nat.zero_le _, World.block_lt_of_cell? w _ (hcell 0 h0 0 (by omega)), hcell⟩

theorem open_layout {n : Nat} {cs : List Value} {y : DataW H × List MemPlace} (h : DataW.trod enc Try.prog w base spare held n 24 cs = some y) :
    ∃ (sec : Int) (a : Option Addr) (n cap : Nat) (K : Nat → Nat → Int), cs = [.int .i64 sec, .slice a n cap] ∧ n ≤ maxLen ∧ VsAt 2 0 w a n (intF K) := by
  obtain ⟨y0, y1, k, _, hl, h0, h1⟩ := trod_struct2 Try.underlying24 h
  obtain ⟨v0, v1, rfl⟩ := list2 (hl.trans cells24)
  simp only [cells3, cells22, List.drop_zero, List.drop_succ_cons, List.take_succ_cons, List.take_zero] at h0 h1
  obtain ⟨sec, e0, _, _⟩ := DataW.trod_int Try.underlying3 h0
  obtain ⟨a, n, cap, L, rfl, hn, g⟩ := open_vlist (0, 0) (fun p : Int × Int => [.int .i64 p.1, .int .i64 p.2]) (c := 1) Try.underlying22 cells97 (fun _ => rfl) (fun h => open_counter h) h1
  simp only [List.cons.injEq, and_true] at e0
  refine ⟨sec, a, n, cap, fun i j => if j = 0 then (L i).1 else (L i).2, by rw [e0], hn, g.congr fun i _ j hj => ?_⟩
  rcases (show j = 0 ∨ j = 1 by omega) with rfl | rfl <;> rfl
theorem open_state {n : Nat} {cs : List Value} {y : DataW H × List MemPlace} (h : DataW.trod enc Try.prog w base spare held n 54 cs = some y) :
    ∃ (ok : Bool) (sa da : Option Addr) (ns nd sc dc : Nat) (S : Nat → Sec) (D : Nat → Bool), cs = [.bool ok, .slice sa ns sc, .slice da nd dc] ∧ ns ≤ maxLen ∧ nd ≤ maxLen ∧ VsAt 5 0 w sa ns (secF S) ∧ VsAt 1 0 w da nd (boolF D) := by
  obtain ⟨y0, y1, y2, k, _, hl, h0, h1, h2⟩ := trod_struct3 Try.underlying54 h
  obtain ⟨v0, v1, v2, rfl⟩ := list3 (hl.trans cells54)
  simp only [cells4, cells52, cells40, List.drop_zero, List.drop_succ_cons, List.take_succ_cons, List.take_zero] at h0 h1 h2
  obtain ⟨ok, e0⟩ := open_bool h0
  obtain ⟨sa, ns, sc, S, rfl, hns, g1⟩ := open_vlist ⟨0, 0, false, false, 0⟩ (fun s : Sec => [.int .i64 s.told, .int .i64 s.count, .bool s.lost, .bool s.sweep, .int .i64 s.last]) (c := 4) Try.underlying52 cells102 (fun _ => rfl) (fun h => open_section h) h1
  obtain ⟨da, nd, dc, D, rfl, hnd, g2⟩ := open_vlist false (fun b : Bool => [.bool b]) (c := 0) Try.underlying40 cells4 (fun _ => rfl) (fun h => open_bool h) h2
  simp only [List.cons.injEq, and_true] at e0
  refine ⟨ok, sa, da, ns, nd, sc, dc, S, D, by rw [e0], hns, hnd, g1.congr fun i _ j hj => ?_, g2.congr fun i _ j hj => ?_⟩
  · rcases (show j = 0 ∨ j = 1 ∨ j = 2 ∨ j = 3 ∨ j = 4 by omega) with rfl | rfl | rfl | rfl | rfl <;> rfl
  · obtain rfl : j = 0 := by omega
    rfl
theorem open_event {n : Nat} {cs : List Value} {y : DataW H × List MemPlace} (h : DataW.trod enc Try.prog w base spare held n 47 cs = some y) : ∃ op of dir : Int, cs = [.int .i64 op, .int .i64 of, .int .i64 dir] := by
  obtain ⟨y0, y1, y2, k, _, hl, h0, h1, h2⟩ := trod_struct3 Try.underlying47 h
  obtain ⟨v0, v1, v2, rfl⟩ := list3 (hl.trans cells47)
  simp only [cells3, List.drop_zero, List.drop_succ_cons, List.take_succ_cons, List.take_zero] at h0 h1 h2
  obtain ⟨a, e0, _, _⟩ := DataW.trod_int Try.underlying3 h0
  obtain ⟨b, e1, _, _⟩ := DataW.trod_int Try.underlying3 h1
  obtain ⟨c, e2, _, _⟩ := DataW.trod_int Try.underlying3 h2
  simp only [List.cons.injEq, and_true] at e0 e1 e2
  exact ⟨a, b, c, by rw [e0, e1, e2]⟩

end
end Go.Proofs.Ytmcaohablpaknaa
