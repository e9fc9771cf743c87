import Derived.Test.YtpghgdnhfhdgmaaSz
import Derived.ProofKit
import Derived.Deep.Slices
import Derived.Deep.Strs
import Derived.Lib.SmallJoins
namespace Go.Proofs.Ytpghgdnhfhdgmaa
open Go.RowKit Go.Deep Go.Joins Go.ChangeShapes

section
variable {H : Type} {enc : TypeId × Value → H} {w : World} {base : Nat} {spare : Nat → Bool} {held : Bool}

theorem add_none (b off k : Nat) : (⟨b, off, none⟩ : Addr).add k = ⟨b, off + k, none⟩ := by
  unfold Addr.add
  split <;> simp_all
theorem list2 {α : Type} {l : List α} (h : l.length = 2) : ∃ a b, l = [a, b] := by
  match l, h with
  | [a, b], _ => exact ⟨a, b, rfl⟩
theorem list3 {α : Type} {l : List α} (h : l.length = 3) : ∃ a b c, l = [a, b, c] := by
  match l, h with
  | [a, b, c], _ => exact ⟨a, b, c, rfl⟩
theorem list4 {α : Type} {l : List α} (h : l.length = 4) : ∃ a b c d, l = [a, b, c, d] := by
  match l, h with
  | [a, b, c, d], _ => exact ⟨a, b, c, d, rfl⟩
theorem list8 {α : Type} {l : List α} (h : l.length = 8) : ∃ a b c d e f g i, l = [a, b, c, d, e, f, g, i] := by
  match l, h with
  | [a, b, c, d, e, f, g, i], _ => exact ⟨a, b, c, d, e, f, g, i, rfl⟩

theorem cells3 : Try.prog.cellsOf 3 = 1 := by kernel_rfl
theorem cells22 : Try.prog.cellsOf 22 = 1 := by kernel_rfl
theorem cells23 : Try.prog.cellsOf 23 = 1 := by kernel_rfl
theorem cells24 : Try.prog.cellsOf 24 = 1 := by kernel_rfl
theorem cells25 : Try.prog.cellsOf 25 = 1 := by kernel_rfl
theorem cells26 : Try.prog.cellsOf 26 = 1 := by kernel_rfl
theorem cells28 : Try.prog.cellsOf 28 = 8 := by kernel_rfl
theorem cells99 : Try.prog.cellsOf 99 = 2 := by kernel_rfl
theorem cells101 : Try.prog.cellsOf 101 = 2 := by kernel_rfl
theorem cells105 : Try.prog.cellsOf 105 = 3 := by kernel_rfl
theorem cells107 : Try.prog.cellsOf 107 = 4 := by kernel_rfl

theorem open_two {t : TypeId} {f0 f1 : Field} (ht : Try.prog.underlying t = some (.struct #[f0, f1])) (hc : Try.prog.cellsOf t = 2) (e0 : f0.type = 3 ∧ f0.offset = 0) (e1 : f1.type = 3 ∧ f1.offset = 1)
    {n : Nat} {cs : List Value} {y : DataW H × List MemPlace} (h : DataW.trod enc Try.prog w base spare held n t cs = some y) : ∃ l : List Int, l.length = 2 ∧ cs = l.map (Value.int .i64) := by
  obtain ⟨y0, y1, k, _, hl, h0, h1⟩ := trod_struct2 ht h
  obtain ⟨v0, v1, rfl⟩ := list2 (hl.trans hc)
  simp only [e0.1, e0.2, e1.1, e1.2, cells3, List.drop_zero, List.drop_succ_cons, List.take_succ_cons, List.take_zero] at h0 h1
  obtain ⟨a, e1, _, _⟩ := DataW.trod_int Try.underlying3 h0
  obtain ⟨b, e2, _, _⟩ := DataW.trod_int Try.underlying3 h1
  simp only [List.cons.injEq, and_true] at e1 e2
  exact ⟨[a, b], rfl, by rw [e1, e2]; rfl⟩
theorem open_three {n : Nat} {cs : List Value} {y : DataW H × List MemPlace} (h : DataW.trod enc Try.prog w base spare held n 105 cs = some y) : ∃ l : List Int, l.length = 3 ∧ cs = l.map (Value.int .i64) := by
  obtain ⟨y0, y1, y2, k, _, hl, h0, h1, h2⟩ := trod_struct3 Try.underlying105 h
  obtain ⟨v0, v1, v2, rfl⟩ := list3 (hl.trans cells105)
  simp only [cells3, List.drop_zero, List.drop_succ_cons, List.take_succ_cons, List.take_zero] at h0 h1 h2
  obtain ⟨a, e1, _, _⟩ := DataW.trod_int Try.underlying3 h0
  obtain ⟨b, e2, _, _⟩ := DataW.trod_int Try.underlying3 h1
  obtain ⟨c, e3, _, _⟩ := DataW.trod_int Try.underlying3 h2
  simp only [List.cons.injEq, and_true] at e1 e2 e3
  exact ⟨[a, b, c], rfl, by rw [e1, e2, e3]; rfl⟩
theorem open_four {n : Nat} {cs : List Value} {y : DataW H × List MemPlace} (h : DataW.trod enc Try.prog w base spare held n 107 cs = some y) : ∃ l : List Int, l.length = 4 ∧ cs = l.map (Value.int .i64) := by
  obtain ⟨y0, y1, y2, y3, k, _, hl, h0, h1, h2, h3⟩ := trod_struct4 Try.underlying107 h
  obtain ⟨v0, v1, v2, v3, rfl⟩ := list4 (hl.trans cells107)
  simp only [cells3, List.drop_zero, List.drop_succ_cons, List.take_succ_cons, List.take_zero] at h0 h1 h2 h3
  obtain ⟨a, e1, _, _⟩ := DataW.trod_int Try.underlying3 h0
  obtain ⟨b, e2, _, _⟩ := DataW.trod_int Try.underlying3 h1
  obtain ⟨c, e3, _, _⟩ := DataW.trod_int Try.underlying3 h2
  obtain ⟨d, e4, _, _⟩ := DataW.trod_int Try.underlying3 h3
  simp only [List.cons.injEq, and_true] at e1 e2 e3 e4
  exact ⟨[a, b, c, d], rfl, by rw [e1, e2, e3, e4]; rfl⟩
theorem open_one {n : Nat} {cs : List Value} {y : DataW H × List MemPlace} (h : DataW.trod enc Try.prog w base spare held n 3 cs = some y) : ∃ l : List Int, l.length = 1 ∧ cs = l.map (Value.int .i64) := by
  obtain ⟨a, e1, _, _⟩ := DataW.trod_int Try.underlying3 h
  exact ⟨[a], rfl, by rw [e1]; rfl⟩

/-- a slice's address, where there is an element -/
theorem spot_none {a : Addr} {k : Nat} {cs : List Value} (h : w.cells? base (a.add 0) (k + 1) = some cs) : a.spot = none := by
  obtain ⟨_, hl, hc⟩ := World.cells?_some h
  have h0 := hc 0 (by omega)
  obtain ⟨v, hv⟩ : ∃ v, cs[0]? = some v := ⟨cs[0], by simp [hl]⟩
  rw [hv] at h0
  have := World.cell?_spot h0
  simpa [Addr.add] using this

theorem open_list {t e : TypeId} {c : Nat} (ht : Try.prog.underlying t = some (.slice e)) (hc : Try.prog.cellsOf e = c + 1)
    (ho : ∀ {n : Nat} {cs : List Value} {y : DataW H × List MemPlace}, DataW.trod enc Try.prog w base spare held n e cs = some y → ∃ l : List Int, l.length = c + 1 ∧ cs = l.map (Value.int .i64))
    {fuel : Nat} {v : Value} {x : DataW H × List MemPlace} (h : DataW.trod enc Try.prog w base spare held fuel t [v] = some x) :
    ∃ (a : Option Addr) (n cap : Nat) (F : Nat → Nat → Int), v = .slice a n cap ∧ n ≤ maxLen ∧ NsAt (c + 1) 0 w a n F := by
  rcases open_slice ht h with ⟨hcs, _⟩ | ⟨a, len, cap, m, k, D, Pl, hcs, _, hl, hm, hmm, _, hel⟩
  · simp only [List.cons.injEq, and_true] at hcs
    exact ⟨none, 0, 0, fun _ _ => 0, hcs, by simp [maxLen], fun h => absurd h (by omega)⟩
  · simp only [List.cons.injEq, and_true] at hcs
    have hlm : len ≤ m := by rw [hmm]; split <;> omega
    rw [hc] at hel
    obtain ⟨L, hL⟩ := @choose_lt (List Int) ⟨[]⟩ len (fun i p => p.length = c + 1 ∧ w.cells? base (a.add (i * (c + 1))) (c + 1) = some (p.map (Value.int .i64))) (fun i hi => by
      obtain ⟨cs', h1, h2⟩ := hel i (by omega)
      obtain ⟨p, hp, rfl⟩ := ho h2
      exact ⟨p, hp, h1⟩)
    refine ⟨some a, len, cap, fun i j => (L i).getD j 0, hcs, by omega, fun h0 => ?_⟩
    obtain ⟨b, off, sp⟩ := a
    have hs : sp = none := by
      have h1 := (hL 0 h0).2
      rw [Nat.zero_mul] at h1
      exact spot_none h1
    subst hs
    have hcell : ∀ i, i < len → ∀ j, j < c + 1 → w.cell? ⟨b, off + i * (c + 1) + j, none⟩ = some (.int .i64 ((L i).getD j 0)) := fun i hi j hj => by
      obtain ⟨hp, hcc⟩ := hL i hi
      obtain ⟨_, _, hc9⟩ := World.cells?_some hcc
      rw [add_none] at hc9
      have g0 := hc9 j hj
      rw [add_none] at g0
      rw [g0, List.getElem?_map, List.getElem?_eq_getElem (by omega), List.getD_eq_getElem?_getD, List.getElem?_eq_getElem (by omega)]
      rfl
    exact ⟨b, off, rfl, Nat.zero_le _, World.block_lt_of_cell? w _ (hcell 0 h0 0 (by omega)), hcell⟩

theorem trod_struct8 {P : Program} {t : TypeId} {f0 f1 f2 f3 f4 f5 f6 f7 : Field} {fuel : Nat} {cs : List Value} {x : DataW H × List MemPlace} (ht : P.underlying t = some (.struct #[f0, f1, f2, f3, f4, f5, f6, f7])) (h : DataW.trod enc P w base spare held fuel t cs = some x) :
    ∃ y0 y1 y2 y3 y4 y5 y6 y7 n, cs.length = P.cellsOf t ∧ DataW.trod enc P w base spare held n f0.type ((cs.drop f0.offset).take (P.cellsOf f0.type)) = some y0 ∧
      DataW.trod enc P w base spare held n f1.type ((cs.drop f1.offset).take (P.cellsOf f1.type)) = some y1 ∧ DataW.trod enc P w base spare held n f2.type ((cs.drop f2.offset).take (P.cellsOf f2.type)) = some y2 ∧
      DataW.trod enc P w base spare held n f3.type ((cs.drop f3.offset).take (P.cellsOf f3.type)) = some y3 ∧ DataW.trod enc P w base spare held n f4.type ((cs.drop f4.offset).take (P.cellsOf f4.type)) = some y4 ∧
      DataW.trod enc P w base spare held n f5.type ((cs.drop f5.offset).take (P.cellsOf f5.type)) = some y5 ∧ DataW.trod enc P w base spare held n f6.type ((cs.drop f6.offset).take (P.cellsOf f6.type)) = some y6 ∧
      DataW.trod enc P w base spare held n f7.type ((cs.drop f7.offset).take (P.cellsOf f7.type)) = some y7 := by
  obtain ⟨xs, n, _, rfl, hl, hlen, hf⟩ := DataW.trod_struct ht h
  match xs, hlen with
  | [y0, y1, y2, y3, y4, y5, y6, y7], _ => exact ⟨y0, y1, y2, y3, y4, y5, y6, y7, n, hl, by simpa using hf 0 f0 rfl, by simpa using hf 1 f1 rfl, by simpa using hf 2 f2 rfl, by simpa using hf 3 f3 rfl, by simpa using hf 4 f4 rfl, by simpa using hf 5 f5 rfl, by simpa using hf 6 f6 rfl, by simpa using hf 7 f7 rfl⟩

/-- a route's eight cells -/
theorem open_route {n : Nat} {cs : List Value} {y : DataW H × List MemPlace} (h : DataW.trod enc Try.prog w base spare held n 28 cs = some y) :
    ∃ (r : Rt) (sa la xa qa oa fa : Option Addr) (sc lc xc qc oc fc : Nat), cs = [.int .i64 r.fr, .int .i64 r.to, .slice sa r.ns sc, .slice la r.nl lc, .slice xa r.nx xc, .slice qa r.np qc, .slice oa r.no oc, .slice fa r.nf fc] ∧ r.fits ∧ RtIn 0 w r sa la xa qa oa fa := by
  obtain ⟨y0, y1, y2, y3, y4, y5, y6, y7, k, hl, h0, h1, h2, h3, h4, h5, h6, h7⟩ := trod_struct8 Try.underlying28 h
  obtain ⟨v0, v1, v2, v3, v4, v5, v6, v7, rfl⟩ := list8 (hl.trans cells28)
  simp only [cells3, cells22, cells23, cells24, cells25, cells26, List.drop_zero, List.drop_succ_cons, List.take_succ_cons, List.take_zero] at h0 h1 h2 h3 h4 h5 h6 h7
  obtain ⟨fr, e0, _, _⟩ := DataW.trod_int Try.underlying3 h0
  obtain ⟨to, e1, _, _⟩ := DataW.trod_int Try.underlying3 h1
  obtain ⟨sa, ns, sc, S, rfl, n2, g2⟩ := open_list (c := 1) Try.underlying22 cells99 (fun h => open_two Try.underlying99 cells99 ⟨rfl, rfl⟩ ⟨rfl, rfl⟩ h) h2
  obtain ⟨la, nl, lc, L, rfl, n3, g3⟩ := open_list (c := 1) Try.underlying23 cells101 (fun h => open_two Try.underlying101 cells101 ⟨rfl, rfl⟩ ⟨rfl, rfl⟩ h) h3
  obtain ⟨xa, nx, xc, X, rfl, n4, g4⟩ := open_list (c := 0) Try.underlying24 cells3 (fun h => open_one h) h4
  obtain ⟨qa, np, qc, Q, rfl, n5, g5⟩ := open_list (c := 2) Try.underlying25 cells105 (fun h => open_three h) h5
  obtain ⟨oa, no, oc, O, rfl, n6, g6⟩ := open_list (c := 2) Try.underlying25 cells105 (fun h => open_three h) h6
  obtain ⟨fa, nf, fc, F, rfl, n7, g7⟩ := open_list (c := 3) Try.underlying26 cells107 (fun h => open_four h) h7
  simp only [List.cons.injEq, and_true] at e0 e1
  exact ⟨⟨fr, to, ns, S, nl, L, nx, X, np, Q, no, O, nf, F⟩, sa, la, xa, qa, oa, fa, sc, lc, xc, qc, oc, fc, by rw [e0, e1], ⟨n2, n3, n4, n5, n6, n7⟩, ⟨g2, g3, g4, g5, g6, g7⟩⟩

/-- a slice of routes -/
theorem open_routes {fuel : Nat} {v : Value} {x : DataW H × List MemPlace} (h : DataW.trod enc Try.prog w base spare held fuel 45 [v] = some x) :
    ∃ (a : Option Addr) (n cap : Nat) (R : Nat → Rt), v = .slice a n cap ∧ n ≤ maxLen ∧ RsAt 0 w a n R ∧ ∀ i, i < n → (R i).fits := by
  rcases open_slice Try.underlying45 h with ⟨hcs, _⟩ | ⟨a, len, cap, m, k, D, Pl, hcs, _, hl, hm, hmm, _, hel⟩
  · simp only [List.cons.injEq, and_true] at hcs
    exact ⟨none, 0, 0, fun _ => ⟨0, 0, 0, fun _ _ => 0, 0, fun _ _ => 0, 0, fun _ _ => 0, 0, fun _ _ => 0, 0, fun _ _ => 0, 0, fun _ _ => 0⟩, hcs, by simp [maxLen], fun h => absurd h (by omega), fun i hi => absurd hi (by omega)⟩
  · simp only [List.cons.injEq, and_true] at hcs
    have hlm : len ≤ m := by rw [hmm]; split <;> omega
    rw [cells28] at hel
    obtain ⟨R, hR⟩ := @choose_lt Rt ⟨⟨0, 0, 0, fun _ _ => 0, 0, fun _ _ => 0, 0, fun _ _ => 0, 0, fun _ _ => 0, 0, fun _ _ => 0, 0, fun _ _ => 0⟩⟩ len (fun i r => ∃ (sa la xa qa oa fa : Option Addr) (sc lc xc qc oc fc : Nat), w.cells? base (a.add (i * 8)) 8 = some [.int .i64 r.fr, .int .i64 r.to, .slice sa r.ns sc, .slice la r.nl lc, .slice xa r.nx xc, .slice qa r.np qc, .slice oa r.no oc, .slice fa r.nf fc] ∧ r.fits ∧ RtIn 0 w r sa la xa qa oa fa) (fun i hi => by
      obtain ⟨cs', h1, h2⟩ := hel i (by omega)
      obtain ⟨r, sa, la, xa, qa, oa, fa, sc, lc, xc, qc, oc, fc, rfl, hp⟩ := open_route h2
      exact ⟨r, sa, la, xa, qa, oa, fa, sc, lc, xc, qc, oc, fc, h1, hp⟩)
    refine ⟨some a, len, cap, R, hcs, by omega, fun h0 => ?_, fun i hi => by obtain ⟨_, _, _, _, _, _, _, _, _, _, _, _, _, h1, _⟩ := hR i hi; exact h1⟩
    obtain ⟨b, off, sp⟩ := a
    have hs : sp = none := by
      obtain ⟨_, _, _, _, _, _, _, _, _, _, _, _, h1, _⟩ := hR 0 h0
      rw [Nat.zero_mul] at h1
      exact spot_none h1
    subst hs
    have hcell : ∀ i, i < len → ∃ sa sc la lc xa xc qa qc oa oc fa fc,
        w.cell? ⟨b, off + i * 8, none⟩ = some (.int .i64 (R i).fr) ∧ w.cell? ⟨b, off + i * 8 + 1, none⟩ = some (.int .i64 (R i).to) ∧
        w.cell? ⟨b, off + i * 8 + 2, none⟩ = some (.slice sa (R i).ns sc) ∧ w.cell? ⟨b, off + i * 8 + 3, none⟩ = some (.slice la (R i).nl lc) ∧
        w.cell? ⟨b, off + i * 8 + 4, none⟩ = some (.slice xa (R i).nx xc) ∧ w.cell? ⟨b, off + i * 8 + 5, none⟩ = some (.slice qa (R i).np qc) ∧
        w.cell? ⟨b, off + i * 8 + 6, none⟩ = some (.slice oa (R i).no oc) ∧ w.cell? ⟨b, off + i * 8 + 7, none⟩ = some (.slice fa (R i).nf fc) ∧
        RtIn 0 w (R i) sa la xa qa oa fa := fun i hi => by
      obtain ⟨sa, la, xa, qa, oa, fa, sc, lc, xc, qc, oc, fc, h1, _, hE⟩ := hR i hi
      obtain ⟨_, _, hc⟩ := World.cells?_some h1
      rw [add_none] at hc
      have g0 := hc 0 (by omega)
      have g1 := hc 1 (by omega)
      have g2 := hc 2 (by omega)
      have g3 := hc 3 (by omega)
      have g4 := hc 4 (by omega)
      have g5 := hc 5 (by omega)
      have g6 := hc 6 (by omega)
      have g7 := hc 7 (by omega)
      rw [add_none] at g0 g1 g2 g3 g4 g5 g6 g7
      exact ⟨sa, sc, la, lc, xa, xc, qa, qc, oa, oc, fa, fc, g0, g1, g2, g3, g4, g5, g6, g7, hE⟩
    obtain ⟨_, _, _, _, _, _, _, _, _, _, _, _, h1, _⟩ := hcell 0 h0
    exact ⟨b, off, rfl, Nat.zero_le _, World.block_lt_of_cell? w _ h1, hcell⟩

end
end Go.Proofs.Ytpghgdnhfhdgmaa
