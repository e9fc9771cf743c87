import Derived.Test.YtflomaagenjfpaaMd
import Derived.ProofKit
import Derived.Deep.Slices
import Derived.Deep.Strs
import Derived.Lib.SmallJoins
import Derived.OpenShut
import Derived.ShutString
import Derived.ChangeOld
import Derived.Below
namespace Go.Proofs.Ytflomaagenjfpaa
open Go.RowKit Go.Deep Go.Joins Go.ChangeShapes Go.WideShapes Go.ChangeAt

section
variable {H : Type} {enc : TypeId × Value → H} {w : World} {base : Nat} {spare : Nat → Bool} {held : Bool}

theorem add_none (b off k : Nat) : (⟨b, off, none⟩ : Addr).add k = ⟨b, off + k, none⟩ := by
  unfold Addr.add
  split <;> simp_all

theorem list4 {α : Type} {l : List α} (h : l.length = 4) : ∃ a b c d, l = [a, b, c, d] := by
  match l, h with
  | [a, b, c, d], _ => exact ⟨a, b, c, d, rfl⟩
theorem cells3 : Try.prog.cellsOf 3 = 1 := by kernel_rfl
theorem cells4 : Try.prog.cellsOf 4 = 1 := by kernel_rfl
theorem cells22 : Try.prog.cellsOf 22 = 1 := by kernel_rfl
theorem cells23 : Try.prog.cellsOf 23 = 1 := by kernel_rfl
theorem cells24 : Try.prog.cellsOf 24 = 1 := by kernel_rfl
theorem cells26 : Try.prog.cellsOf 26 = 4 := by kernel_rfl
theorem open_bool {n : Nat} {cs : List Value} {y : DataW H × List MemPlace} (h : DataW.trod enc Try.prog w base spare held n 4 cs = some y) : ∃ b : Bool, cs = [.bool b] := by
  obtain ⟨c, e2, _⟩ := DataW.trod_bool Try.underlying4 h
  exact ⟨c, e2⟩

/-- a slice's address, where there is an element -/
theorem spot_none {a : Addr} {k : Nat} {cs : List Value} (h : w.cells? base (a.add 0) (k + 1) = some cs) : a.spot = none := by
  obtain ⟨_, hl, hc⟩ := World.cells?_some h
  have h0 := hc 0 (by omega)
  obtain ⟨v, hv⟩ : ∃ v, cs[0]? = some v := ⟨cs[0], by simp [hl]⟩
  rw [hv] at h0
  have := World.cell?_spot h0
  simpa [Addr.add] using this

theorem open_int1 {n : Nat} {cs : List Value} {y : DataW H × List MemPlace} (h : DataW.trod enc Try.prog w base spare held n 3 cs = some y) : ∃ x : Int, cs = [.int .i64 x] := by
  obtain ⟨a, e1, _, _⟩ := DataW.trod_int Try.underlying3 h
  exact ⟨a, e1⟩

theorem VsAt.congr {c C : Nat} {w : World} {a : Option Addr} {n : Nat} {F G : Nat → Nat → Value} (h : VsAt c C w a n F) (hf : ∀ i, i < n → ∀ j, j < c → F i j = G i j) : VsAt c C w a n G := by
  intro h0
  obtain ⟨b, off, h1, h2, h3, h4⟩ := h h0
  exact ⟨b, off, h1, h2, h3, fun i hi j hj => by rw [h4 i hi j hj, hf i hi j hj]⟩

theorem open_vlist {α : Type} (d : α) (E : α → List Value) {t e : TypeId} {c : Nat} (ht : Try.prog.underlying t = some (.slice e)) (hc : Try.prog.cellsOf e = c + 1) (hE : ∀ p, (E p).length = c + 1)
    (ho : ∀ {n : Nat} {cs : List Value} {y : DataW H × List MemPlace}, DataW.trod enc Try.prog w base spare held n e cs = some y → ∃ p, cs = E p)
    {fuel : Nat} {v : Value} {x : DataW H × List MemPlace} (h : DataW.trod enc Try.prog w base spare held fuel t [v] = some x) :
    ∃ (a : Option Addr) (n cap : Nat) (L : Nat → α), v = .slice a n cap ∧ n ≤ maxLen ∧ VsAt (c + 1) 0 w a n (fun i j => (E (L i)).getD j undef) := by
  rcases open_slice ht h with ⟨hcs, _⟩ | ⟨a, len, cap, m, k, D, Pl, hcs, _, hl, hm, hmm, _, hel⟩
  · simp only [List.cons.injEq, and_true] at hcs
    exact ⟨none, 0, 0, fun _ => d, hcs, by simp [maxLen], fun h => absurd h (by omega)⟩
  · simp only [List.cons.injEq, and_true] at hcs
    have hlm : len ≤ m := by rw [hmm]; split <;> omega
    rw [hc] at hel
    obtain ⟨L, hL⟩ := @choose_lt α ⟨d⟩ len (fun i p => w.cells? base (a.add (i * (c + 1))) (c + 1) = some (E p)) (fun i hi => by
      obtain ⟨cs', h1, h2⟩ := hel i (by omega)
      obtain ⟨p, rfl⟩ := ho h2
      exact ⟨p, h1⟩)
    refine ⟨some a, len, cap, L, hcs, by omega, fun h0 => ?_⟩
    obtain ⟨b, off, sp⟩ := a
    have hs : sp = none := by
      have h1 := hL 0 h0
      rw [Nat.zero_mul] at h1
      exact spot_none h1
    subst hs
    have hcell : ∀ i, i < len → ∀ j, j < c + 1 → w.cell? ⟨b, off + i * (c + 1) + j, none⟩ = some ((E (L i)).getD j undef) := fun i hi j hj => by
      have hcc := hL i hi
      obtain ⟨_, _, hc9⟩ := World.cells?_some hcc
      rw [add_none] at hc9
      have g0 := hc9 j hj
      rw [add_none] at g0
      rw [g0, List.getElem?_eq_getElem (by rw [hE]; exact hj), List.getD_eq_getElem?_getD, List.getElem?_eq_getElem (by rw [hE]; exact hj)]
      rfl
    exact ⟨b, off, rfl, Nat.zero_le _, World.block_lt_of_cell? w _ (hcell 0 h0 0 (by omega)), hcell⟩

theorem open_ints {fuel : Nat} {v : Value} {x : DataW H × List MemPlace} (h : DataW.trod enc Try.prog w base spare held fuel 22 [v] = some x) :
    ∃ (a : Option Addr) (n cap : Nat) (F : Nat → Int), v = .slice a n cap ∧ n ≤ maxLen ∧ VsAt 1 0 w a n (oneF F) := by
  obtain ⟨a, n, cap, L, rfl, hn, g⟩ := open_vlist 0 (fun x : Int => [.int .i64 x]) (c := 0) Try.underlying22 cells3 (fun _ => rfl) (fun h => open_int1 h) h
  refine ⟨a, n, cap, L, rfl, hn, g.congr fun i _ j hj => ?_⟩
  obtain rfl : j = 0 := by omega
  rfl

theorem open_boolL {fuel : Nat} {v : Value} {x : DataW H × List MemPlace} (h : DataW.trod enc Try.prog w base spare held fuel 23 [v] = some x) :
    ∃ (a : Option Addr) (n cap : Nat) (F : Nat → Bool), v = .slice a n cap ∧ n ≤ maxLen ∧ VsAt 1 0 w a n (boolF F) := by
  obtain ⟨a, n, cap, L, rfl, hn, g⟩ := open_vlist false (fun b : Bool => [.bool b]) (c := 0) Try.underlying23 cells4 (fun _ => rfl) (fun h => open_bool h) h
  refine ⟨a, n, cap, L, rfl, hn, g.congr fun i _ j hj => ?_⟩
  obtain rfl : j = 0 := by omega
  rfl

/-- rows of truths -/
theorem open_bools {fuel : Nat} {v : Value} {x : DataW H × List MemPlace} (h : DataW.trod enc Try.prog w base spare held fuel 24 [v] = some x) :
    ∃ (a : Option Addr) (n cap : Nat) (K : Nat → Nat) (T : Nat → Nat → Bool), v = .slice a n cap ∧ n ≤ maxLen ∧ BsAt 0 w a n K T ∧ ∀ i, i < n → K i ≤ maxLen := by
  rcases open_slice Try.underlying24 h with ⟨hcs, _⟩ | ⟨a, len, cap, m, k, D, Pl, hcs, _, hl, hm, hmm, _, hel⟩
  · simp only [List.cons.injEq, and_true] at hcs
    exact ⟨none, 0, 0, fun _ => 0, fun _ _ => false, hcs, by simp [maxLen], fun h => absurd h (by omega), fun i hi => absurd hi (by omega)⟩
  · simp only [List.cons.injEq, and_true] at hcs
    have hlm : len ≤ m := by rw [hmm]; split <;> omega
    rw [cells23] at hel
    obtain ⟨R, hR⟩ := @choose_lt (Nat × (Nat → Bool)) ⟨(0, fun _ => false)⟩ len (fun i r => ∃ (ra : Option Addr) (rc : Nat), w.cells? base (a.add (i * 1)) 1 = some [.slice ra r.1 rc] ∧ r.1 ≤ maxLen ∧ VsAt 1 0 w ra r.1 (boolF r.2)) (fun i hi => by
      obtain ⟨cs', h1, h2⟩ := hel i (by omega)
      obtain ⟨_, e1, _⟩ := World.cells?_some h1
      match cs', e1 with
      | [v], _ =>
        obtain ⟨ra, n, rc, F, rfl, hn, g⟩ := open_boolL h2
        exact ⟨(n, F), ra, rc, h1, hn, g⟩)
    refine ⟨some a, len, cap, fun i => (R i).1, fun i => (R i).2, hcs, by omega, fun h0 => ?_, fun i hi => by obtain ⟨_, _, _, h1, _⟩ := hR i hi; exact h1⟩
    obtain ⟨b, off, sp⟩ := a
    have hs : sp = none := by
      obtain ⟨_, _, h1, _⟩ := hR 0 h0
      rw [Nat.zero_mul] at h1
      exact spot_none h1
    subst hs
    have hcell : ∀ i, i < len → ∃ ra rc, w.cell? ⟨b, off + i, none⟩ = some (.slice ra (R i).1 rc) ∧ VsAt 1 0 w ra (R i).1 (boolF (R i).2) := fun i hi => by
      obtain ⟨ra, rc, h1, _, hE⟩ := hR i hi
      obtain ⟨_, _, hc⟩ := World.cells?_some h1
      rw [add_none, Nat.mul_one] at hc
      have g0 := hc 0 (by omega)
      rw [add_none] at g0
      exact ⟨ra, rc, g0, hE⟩
    obtain ⟨_, _, h1, _⟩ := hcell 0 h0
    exact ⟨b, off, rfl, Nat.zero_le _, World.block_lt_of_cell? w _ h1, hcell⟩

theorem trod_struct4 {P : Program} {t : TypeId} {f0 f1 f2 f3 : Field} {fuel : Nat} {cs : List Value} {x : DataW H × List MemPlace} (ht : P.underlying t = some (.struct #[f0, f1, f2, f3])) (h : DataW.trod enc P w base spare held fuel t cs = some x) :
    ∃ y0 y1 y2 y3 n, cs.length = P.cellsOf t ∧ DataW.trod enc P w base spare held n f0.type ((cs.drop f0.offset).take (P.cellsOf f0.type)) = some y0 ∧
      DataW.trod enc P w base spare held n f1.type ((cs.drop f1.offset).take (P.cellsOf f1.type)) = some y1 ∧ DataW.trod enc P w base spare held n f2.type ((cs.drop f2.offset).take (P.cellsOf f2.type)) = some y2 ∧
      DataW.trod enc P w base spare held n f3.type ((cs.drop f3.offset).take (P.cellsOf f3.type)) = some y3 := by
  obtain ⟨xs, n, _, rfl, hl, hlen, hf⟩ := DataW.trod_struct ht h
  match xs, hlen with
  | [y0, y1, y2, y3], _ => exact ⟨y0, y1, y2, y3, n, hl, by simpa using hf 0 f0 rfl, by simpa using hf 1 f1 rfl, by simpa using hf 2 f2 rfl, by simpa using hf 3 f3 rfl⟩
/-- a row's four cells -/
theorem open_row {n : Nat} {cs : List Value} {y : DataW H × List MemPlace} (h : DataW.trod enc Try.prog w base spare held n 26 cs = some y) :
    ∃ (r : Rw) (xa fa oa ka : Option Addr) (xc fc oc kc : Nat), cs = [.slice xa r.nn xc, .slice fa r.nf fc, .slice oa r.no oc, .slice ka r.nk kc] ∧ r.fits ∧ RwIn 0 w r xa fa oa ka := by
  obtain ⟨y0, y1, y2, y3, k, hl, h0, h1, h2, h3⟩ := trod_struct4 Try.underlying26 h
  obtain ⟨v0, v1, v2, v3, rfl⟩ := list4 (hl.trans cells26)
  simp only [cells22, cells23, cells24, List.drop_zero, List.drop_succ_cons, List.take_succ_cons, List.take_zero] at h0 h1 h2 h3
  obtain ⟨xa, nn, xc, X, rfl, n0, g0⟩ := open_ints h0
  obtain ⟨fa, nf, fc, F, rfl, n1, g1⟩ := open_ints h1
  obtain ⟨oa, no, oc, O, rfl, n2, g2⟩ := open_boolL h2
  obtain ⟨ka, nk, kc, K, T, rfl, n3, g3, n4⟩ := open_bools h3
  exact ⟨⟨nn, X, nf, F, no, O, nk, K, T⟩, xa, fa, oa, ka, xc, fc, oc, kc, rfl, ⟨n0, n1, n2, n3, n4⟩, ⟨g0, g1, g2, g3⟩⟩
end

theorem own : ownKnob Try.prog.godebug = none := by kernel_rfl
theorem laidOut : laidOutB Try.prog = true := by kernel_rfl

set_option maxRecDepth 100000 in
theorem open_rowV {H : Type} {enc : TypeId × Value → H} {w : World} {base : Nat} {spare : Nat → Bool} {held : Bool} {r : Reach} {b0 : Nat} {v : Value} {d : DataW H} {q : List MemPlace} (hv : Value.okWide Try.prog w r b0 26 v) (h : DataW.Trod enc Try.prog w base spare held 26 v d q) :
    ∃ (r : Rw) (xa fa oa ka : Option Addr) (xc fc oc kc : Nat), v = .agg #[.slice xa r.nn xc, .slice fa r.nf fc, .slice oa r.no oc, .slice ka r.nk kc] ∧ r.fits ∧ RwIn 0 w r xa fa oa ka := by
  obtain ⟨cs, rfl, hsz⟩ := okWide_struct Try.underlying26 hv
  obtain ⟨fuel, hf⟩ := h
  obtain ⟨r, xa, fa, oa, ka, xc, fc, oc, kc, he, h1, h2⟩ := open_row hf
  refine ⟨r, xa, fa, oa, ka, xc, fc, oc, kc, ?_, h1, h2⟩
  have : cs.toList = _ := he
  rw [← Array.toArray_toList (xs := cs), this]

end Go.Proofs.Ytflomaagenjfpaa
