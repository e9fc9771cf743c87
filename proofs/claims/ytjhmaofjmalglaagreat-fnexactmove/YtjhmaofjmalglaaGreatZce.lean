import Derived.Test.YtjhmaofjmalglaaGreatZaa
import Derived.ProofKit
import Derived.Deep.Slices
import Derived.Deep.Strs
import Derived.Lib.SmallJoins
import Derived.Test.YtjhmaofjmalglaaGreatRows
import Derived.Test.YtjhmaofjmalglaaGreatZcc
import Derived.OpenShut
import Derived.ShutString
import Derived.ChangeOld
import Derived.Below
namespace Go.Proofs.YtjhmaofjmalglaaGreat
open Go.RowKit Go.Deep Go.Joins Go.ChangeShapes
section
variable {H : Type} {enc : TypeId × Value → H} {w : World} {base : Nat} {spare : Nat → Bool} {held : Bool}
theorem add_none (b off k : Nat) : (⟨b, off, none⟩ : Addr).add k = ⟨b, off + k, none⟩ := by
 unfold Addr.add
 split <;> simp_all
theorem list2 {α : Type} {l : List α} (h : l.length = 2) : ∃ a b, l = [a, b] := by
 match l, h with
 | [a, b], _ => exact ⟨a, b, rfl⟩
theorem list3 {α : Type} {l : List α} (h : l.length = 3) : ∃ a b c, l = [a, b, c] := by
 match l, h with
 | [a, b, c], _ => exact ⟨a, b, c, rfl⟩
theorem list4 {α : Type} {l : List α} (h : l.length = 4) : ∃ a b c d, l = [a, b, c, d] := by
 match l, h with
 | [a, b, c, d], _ => exact ⟨a, b, c, d, rfl⟩
theorem cells76 : Tryz.prog.cellsOf 122 = 4 := by kernel_rfl
theorem cells80 : Tryz.prog.cellsOf 126 = 3 := by kernel_rfl
theorem cells103 : Tryz.prog.cellsOf 208 = 2 := by kernel_rfl
theorem cells25 : Tryz.prog.cellsOf 25 = 2 := by kernel_rfl
theorem cells9 : Tryz.prog.cellsOf 9 = 1 := by kernel_rfl
theorem cells3 : Tryz.prog.cellsOf 3 = 1 := by kernel_rfl
theorem cells78 : Tryz.prog.cellsOf 124 = 1 := by kernel_rfl
theorem open_piece {n : Nat} {cs : List Value} {y : DataW H × List MemPlace} (h : DataW.trod enc Tryz.prog w base spare held n 122 cs = some y) :
  ∃ p : Pc, cs = [.string p.nm, .int .i64 p.ln, .int .i64 p.sp, .int .i64 p.br] ∧ p.nm.size ≤ maxLen := by
 obtain ⟨y0, y1, y2, y3, k, _, hl, h0, h1, h2, h3⟩ := trod_struct4 Tryz.underlying122 h
 obtain ⟨v0, v1, v2, v3, rfl⟩ := list4 (hl.trans cells76)
 simp only [cells9, cells3, List.drop_zero, List.drop_succ_cons, List.take_succ_cons, List.take_zero] at h0 h1 h2 h3
 obtain ⟨s, e0, _, hs⟩ := DataW.trod_string Tryz.underlying9 h0
 obtain ⟨a, e1, _, _⟩ := DataW.trod_int Tryz.underlying3 h1
 obtain ⟨b, e2, _, _⟩ := DataW.trod_int Tryz.underlying3 h2
 obtain ⟨c, e3, _, _⟩ := DataW.trod_int Tryz.underlying3 h3
 simp only [List.cons.injEq, and_true] at e0 e1 e2 e3
 exact ⟨⟨s, a, b, c⟩, by rw [e0, e1, e2, e3], hs⟩
theorem open_end {n : Nat} {cs : List Value} {y : DataW H × List MemPlace} (h : DataW.trod enc Tryz.prog w base spare held n 208 cs = some y) :
  ∃ p : En, cs = [.int .i64 p.pc, .int .i64 p.sd] := by
 obtain ⟨y0, y1, k, _, hl, h0, h1⟩ := trod_struct2 Tryz.underlying208 h
 obtain ⟨v0, v1, rfl⟩ := list2 (hl.trans cells103)
 simp only [cells3, List.drop_zero, List.drop_succ_cons, List.take_succ_cons, List.take_zero] at h0 h1
 obtain ⟨a, e1, _, _⟩ := DataW.trod_int Tryz.underlying3 h0
 obtain ⟨b, e2, _, _⟩ := DataW.trod_int Tryz.underlying3 h1
 simp only [List.cons.injEq, and_true] at e1 e2
 exact ⟨⟨a, b⟩, by rw [e1, e2]⟩
theorem spot_none {a : Addr} {k : Nat} {cs : List Value} (h : w.cells? base (a.add 0) (k + 1) = some cs) : a.spot = none := by
 obtain ⟨_, hl, hc⟩ := World.cells?_some h
 have h0 := hc 0 (by omega)
 obtain ⟨v, hv⟩ : ∃ v, cs[0]? = some v := ⟨cs[0], by simp [hl]⟩
 rw [hv] at h0
 have := World.cell?_spot h0
 simpa [Addr.add] using this
theorem open_pieces {fuel : Nat} {v : Value} {x : DataW H × List MemPlace} (h : DataW.trod enc Tryz.prog w base spare held fuel 22 [v] = some x) :
  ∃ (a : Option Addr) (n cap : Nat) (P : Nat → Pc), v = .slice a n cap ∧ n ≤ maxLen ∧ PsAt 0 w a n P ∧ ∀ i, i < n → (P i).nm.size ≤ maxLen := by
 rcases open_slice Tryz.underlying22 h with ⟨hcs, _⟩ | ⟨a, len, cap, m, k, D, Pl, hcs, _, hl, hm, hmm, _, hel⟩
 ·
  simp only [List.cons.injEq, and_true] at hcs
  exact ⟨none, 0, 0, fun _ => ⟨ByteArray.empty, 0, 0, 0⟩, hcs, by simp [maxLen], fun h => absurd h (by omega), fun i hi => absurd hi (by omega)⟩
 ·
  simp only [List.cons.injEq, and_true] at hcs
  have hlm : len ≤ m := by rw [hmm]; split <;> omega
  rw [cells76] at hel
  obtain ⟨P, hP⟩ := @choose_lt Pc ⟨⟨ByteArray.empty, 0, 0, 0⟩⟩ len (fun i p => (w.cells? base (a.add (i * 4)) 4 = some [.string p.nm, .int .i64 p.ln, .int .i64 p.sp, .int .i64 p.br]) ∧ p.nm.size ≤ maxLen) (fun i hi => by
   obtain ⟨cs', h1, h2⟩ := hel i (by omega)
   obtain ⟨p, rfl, hp⟩ := open_piece h2
   exact ⟨p, h1, hp⟩)
  refine ⟨some a, len, cap, P, hcs, by omega, fun h0 => ?_, fun i hi => (hP i hi).2⟩
  obtain ⟨b, off, sp⟩ := a
  have hs : sp = none := by
   have h1 := (hP 0 h0).1
   rw [Nat.zero_mul] at h1
   exact spot_none h1
  subst hs
  have hcell : ∀ i, i < len → w.cell? ⟨b, off + i * 4, none⟩ = some (.string (P i).nm) ∧ w.cell? ⟨b, off + i * 4 + 1, none⟩ = some (.int .i64 (P i).ln) ∧
   w.cell? ⟨b, off + i * 4 + 2, none⟩ = some (.int .i64 (P i).sp) ∧ w.cell? ⟨b, off + i * 4 + 3, none⟩ = some (.int .i64 (P i).br) := fun i hi => by
   obtain ⟨_, _, hc⟩ := World.cells?_some (hP i hi).1
   rw [add_none] at hc
   have g0 := hc 0 (by omega)
   have g1 := hc 1 (by omega)
   have g2 := hc 2 (by omega)
   have g3 := hc 3 (by omega)
   rw [add_none] at g0 g1 g2 g3
   exact ⟨g0, g1, g2, g3⟩
  exact ⟨b, off, rfl, Nat.zero_le _, World.block_lt_of_cell? w _ (hcell 0 h0).1, hcell⟩
theorem open_ends {fuel : Nat} {v : Value} {x : DataW H × List MemPlace} (h : DataW.trod enc Tryz.prog w base spare held fuel 124 [v] = some x) :
  ∃ (a : Option Addr) (n cap : Nat) (E : Nat → En), v = .slice a n cap ∧ n ≤ maxLen ∧ EsAt 0 w a n E := by
 rcases open_slice Tryz.underlying124 h with ⟨hcs, _⟩ | ⟨a, len, cap, m, k, D, Pl, hcs, _, hl, hm, hmm, _, hel⟩
 ·
  simp only [List.cons.injEq, and_true] at hcs
  exact ⟨none, 0, 0, fun _ => ⟨0, 0⟩, hcs, by simp [maxLen], fun h => absurd h (by omega)⟩
 ·
  simp only [List.cons.injEq, and_true] at hcs
  have hlm : len ≤ m := by rw [hmm]; split <;> omega
  rw [cells103] at hel
  obtain ⟨E, hE⟩ := @choose_lt En ⟨⟨0, 0⟩⟩ len (fun i p => (w.cells? base (a.add (i * 2)) 2 = some [.int .i64 p.pc, .int .i64 p.sd])) (fun i hi => by
   obtain ⟨cs', h1, h2⟩ := hel i (by omega)
   obtain ⟨p, rfl⟩ := open_end h2
   exact ⟨p, h1⟩)
  refine ⟨some a, len, cap, E, hcs, by omega, fun h0 => ?_⟩
  obtain ⟨b, off, sp⟩ := a
  have hs : sp = none := by
   have h1 := hE 0 h0
   rw [Nat.zero_mul] at h1
   exact spot_none h1
  subst hs
  have hcell : ∀ i, i < len → w.cell? ⟨b, off + i * 2, none⟩ = some (.int .i64 (E i).pc) ∧ w.cell? ⟨b, off + i * 2 + 1, none⟩ = some (.int .i64 (E i).sd) := fun i hi => by
   obtain ⟨_, _, hc⟩ := World.cells?_some (hE i hi)
   rw [add_none] at hc
   have g0 := hc 0 (by omega)
   have g1 := hc 1 (by omega)
   rw [add_none] at g0 g1
   exact ⟨g0, g1⟩
  exact ⟨b, off, rfl, Nat.zero_le _, World.block_lt_of_cell? w _ (hcell 0 h0).1, hcell⟩
theorem open_joint {n : Nat} {cs : List Value} {y : DataW H × List MemPlace} (h : DataW.trod enc Tryz.prog w base spare held n 126 cs = some y) :
  ∃ (p : Jt) (ea : Option Addr) (ec : Nat), cs = [.int .i64 p.kd, .string p.nm, .slice ea p.ne ec] ∧ p.nm.size ≤ maxLen ∧ p.ne ≤ maxLen ∧ EsAt 0 w ea p.ne p.E := by
 obtain ⟨y0, y1, y2, k, _, hl, h0, h1, h2⟩ := trod_struct3 Tryz.underlying126 h
 obtain ⟨v0, v1, v2, rfl⟩ := list3 (hl.trans cells80)
 simp only [cells9, cells3, cells78, List.drop_zero, List.drop_succ_cons, List.take_succ_cons, List.take_zero] at h0 h1 h2
 obtain ⟨a, e0, _, _⟩ := DataW.trod_int Tryz.underlying3 h0
 obtain ⟨s, e1, _, hs⟩ := DataW.trod_string Tryz.underlying9 h1
 obtain ⟨ea, ne, ec, E, e2, hn, hE⟩ := open_ends h2
 simp only [List.cons.injEq, and_true] at e0 e1
 exact ⟨⟨a, s, ne, E⟩, ea, ec, by rw [e0, e1, e2], hs, hn, hE⟩
theorem open_joints {fuel : Nat} {v : Value} {x : DataW H × List MemPlace} (h : DataW.trod enc Tryz.prog w base spare held fuel 23 [v] = some x) :
  ∃ (a : Option Addr) (n cap : Nat) (J : Nat → Jt), v = .slice a n cap ∧ n ≤ maxLen ∧ JsAt 0 w a n J ∧ ∀ i, i < n → (J i).nm.size ≤ maxLen ∧ (J i).ne ≤ maxLen := by
 rcases open_slice Tryz.underlying23 h with ⟨hcs, _⟩ | ⟨a, len, cap, m, k, D, Pl, hcs, _, hl, hm, hmm, _, hel⟩
 ·
  simp only [List.cons.injEq, and_true] at hcs
  exact ⟨none, 0, 0, fun _ => ⟨0, ByteArray.empty, 0, fun _ => ⟨0, 0⟩⟩, hcs, by simp [maxLen], fun h => absurd h (by omega), fun i hi => absurd hi (by omega)⟩
 ·
  simp only [List.cons.injEq, and_true] at hcs
  have hlm : len ≤ m := by rw [hmm]; split <;> omega
  rw [cells80] at hel
  obtain ⟨J, hJ⟩ := @choose_lt Jt ⟨⟨0, ByteArray.empty, 0, fun _ => ⟨0, 0⟩⟩⟩ len (fun i p => ∃ ea ec, (w.cells? base (a.add (i * 3)) 3 = some [.int .i64 p.kd, .string p.nm, .slice ea p.ne ec]) ∧ p.nm.size ≤ maxLen ∧ p.ne ≤ maxLen ∧ EsAt 0 w ea p.ne p.E) (fun i hi => by
   obtain ⟨cs', h1, h2⟩ := hel i (by omega)
   obtain ⟨p, ea, ec, rfl, hp⟩ := open_joint h2
   exact ⟨p, ea, ec, h1, hp⟩)
  refine ⟨some a, len, cap, J, hcs, by omega, fun h0 => ?_, fun i hi => by obtain ⟨_, _, _, h1, h2, _⟩ := hJ i hi; exact ⟨h1, h2⟩⟩
  obtain ⟨b, off, sp⟩ := a
  have hs : sp = none := by
   obtain ⟨ea, ec, h1, _⟩ := hJ 0 h0
   rw [Nat.zero_mul] at h1
   exact spot_none h1
  subst hs
  have hcell : ∀ i, i < len → ∃ ea ec, w.cell? ⟨b, off + i * 3, none⟩ = some (.int .i64 (J i).kd) ∧ w.cell? ⟨b, off + i * 3 + 1, none⟩ = some (.string (J i).nm) ∧
   w.cell? ⟨b, off + i * 3 + 2, none⟩ = some (.slice ea (J i).ne ec) ∧ EsAt 0 w ea (J i).ne (J i).E := fun i hi => by
   obtain ⟨ea, ec, h1, _, _, hE⟩ := hJ i hi
   obtain ⟨_, _, hc⟩ := World.cells?_some h1
   rw [add_none] at hc
   have g0 := hc 0 (by omega)
   have g1 := hc 1 (by omega)
   have g2 := hc 2 (by omega)
   rw [add_none] at g0 g1 g2
   exact ⟨ea, ec, g0, g1, g2, hE⟩
  obtain ⟨_, _, h1, _⟩ := hcell 0 h0
  exact ⟨b, off, rfl, Nat.zero_le _, World.block_lt_of_cell? w _ h1, hcell⟩
end
end Go.Proofs.YtjhmaofjmalglaaGreat
namespace Go.Proofs.YtjhmaofjmalglaaGreat
open Go.ChangeShapes Go.WideShapes Go.ChangeAt Go.RowKit Go.Joins
theorem own : ownKnob Tryz.prog.godebug = none := by kernel_rfl
theorem laidOut : laidOutB Tryz.prog = true := by kernel_rfl
section
open Go.Deep
variable {H : Type} {enc : TypeId × Value → H} {w : World} {base : Nat} {spare : Nat → Bool} {held : Bool}
theorem open_intsI {fuel : Nat} {v : Value} {x : DataW H × List MemPlace} (h : DataW.trod enc Tryz.prog w base spare held fuel 26 [v] = some x) :
  ∃ (a : Option Addr) (n cap : Nat) (D : Nat → Int), v = .slice a n cap ∧ n ≤ maxLen ∧ IsAt 0 w a n D := by
 rcases open_slice Tryz.underlying26 h with ⟨hcs, _⟩ | ⟨a, len, cap, m, k, D, Pl, hcs, _, hl, hm, hmm, _, hel⟩
 ·
  simp only [List.cons.injEq, and_true] at hcs
  exact ⟨none, 0, 0, fun _ => 0, hcs, by simp [maxLen], fun h => absurd h (by omega)⟩
 ·
  simp only [List.cons.injEq, and_true] at hcs
  have hlm : len ≤ m := by rw [hmm]; split <;> omega
  rw [cells3] at hel
  obtain ⟨P, hP⟩ := @choose_lt Int ⟨0⟩ len (fun i p => w.cells? base (a.add (i * 1)) 1 = some [.int .i64 p]) (fun i hi => by
   obtain ⟨cs', h1, h2⟩ := hel i (by omega)
   obtain ⟨p, e1, _, _⟩ := DataW.trod_int Tryz.underlying3 h2
   subst e1
   exact ⟨p, h1⟩)
  refine ⟨some a, len, cap, P, hcs, by omega, fun h0 => ?_⟩
  obtain ⟨b, off, sp⟩ := a
  have hs : sp = none := by
   have h1 := hP 0 h0
   rw [Nat.zero_mul] at h1
   exact spot_none h1
  subst hs
  have hcell : ∀ i, i < len → w.cell? ⟨b, off + i, none⟩ = some (.int .i64 (P i)) := fun i hi => by
   obtain ⟨_, _, hc⟩ := World.cells?_some (hP i hi)
   rw [add_none] at hc
   have g0 := hc 0 (by omega)
   rw [add_none, Nat.mul_one] at g0
   exact g0
  exact ⟨b, off, rfl, Nat.zero_le _, World.block_lt_of_cell? w _ (hcell 0 h0), hcell⟩
theorem cells154 : Tryz.prog.cellsOf 154 = 2 := by kernel_rfl
theorem cells28 : Tryz.prog.cellsOf 28 = 3 := by kernel_rfl
theorem cells51 : Tryz.prog.cellsOf 51 = 1 := by kernel_rfl
theorem cells53 : Tryz.prog.cellsOf 53 = 5 := by kernel_rfl
theorem open_step {n : Nat} {cs : List Value} {y : DataW H × List MemPlace} (h : DataW.trod enc Tryz.prog w base spare held n 154 cs = some y) :
  ∃ p : Nat → Int, cs = [.int .i64 (p 0), .int .i64 (p 1)] := by
 obtain ⟨y0, y1, k, _, hl, h0, h1⟩ := trod_struct2 Tryz.underlying154 h
 obtain ⟨v0, v1, rfl⟩ := list2 (hl.trans cells154)
 simp only [cells3, List.drop_zero, List.drop_succ_cons, List.take_succ_cons, List.take_zero] at h0 h1
 obtain ⟨a, e1, _, _⟩ := DataW.trod_int Tryz.underlying3 h0
 obtain ⟨b, e2, _, _⟩ := DataW.trod_int Tryz.underlying3 h1
 simp only [List.cons.injEq, and_true] at e1 e2
 exact ⟨fun j => if j = 0 then a else b, by rw [e1, e2]; rfl⟩
theorem open_steps {fuel : Nat} {v : Value} {x : DataW H × List MemPlace} (h : DataW.trod enc Tryz.prog w base spare held fuel 51 [v] = some x) :
  ∃ (a : Option Addr) (n cap : Nat) (E : Nat → Nat → Int), v = .slice a n cap ∧ n ≤ maxLen ∧ NsAt 2 0 w a n E := by
 rcases open_slice Tryz.underlying51 h with ⟨hcs, _⟩ | ⟨a, len, cap, m, k, D, Pl, hcs, _, hl, hm, hmm, _, hel⟩
 ·
  simp only [List.cons.injEq, and_true] at hcs
  exact ⟨none, 0, 0, fun _ _ => 0, hcs, by simp [maxLen], fun h => absurd h (by omega)⟩
 ·
  simp only [List.cons.injEq, and_true] at hcs
  have hlm : len ≤ m := by rw [hmm]; split <;> omega
  rw [cells154] at hel
  obtain ⟨E, hE⟩ := @choose_lt (Nat → Int) ⟨fun _ => 0⟩ len (fun i p => (w.cells? base (a.add (i * 2)) 2 = some [.int .i64 (p 0), .int .i64 (p 1)])) (fun i hi => by
   obtain ⟨cs', h1, h2⟩ := hel i (by omega)
   obtain ⟨p, rfl⟩ := open_step h2
   exact ⟨p, h1⟩)
  refine ⟨some a, len, cap, E, hcs, by omega, fun h0 => ?_⟩
  obtain ⟨b, off, sp⟩ := a
  have hs : sp = none := by
   have h1 := hE 0 h0
   rw [Nat.zero_mul] at h1
   exact spot_none h1
  subst hs
  have hcell : ∀ i, i < len → w.cell? ⟨b, off + i * 2, none⟩ = some (.int .i64 (E i 0)) ∧ w.cell? ⟨b, off + i * 2 + 1, none⟩ = some (.int .i64 (E i 1)) := fun i hi => by
   obtain ⟨_, _, hc⟩ := World.cells?_some (hE i hi)
   rw [add_none] at hc
   have g0 := hc 0 (by omega)
   have g1 := hc 1 (by omega)
   rw [add_none] at g0 g1
   exact ⟨g0, g1⟩
  refine ⟨b, off, rfl, Nat.zero_le _, World.block_lt_of_cell? w _ (hcell 0 h0).1, fun i hi j hj => ?_⟩
  rcases (show j = 0 ∨ j = 1 by omega) with rfl | rfl
  ·
   exact (hcell i hi).1
  ·
   exact (hcell i hi).2
theorem array5 {α : Type} {cs : Array α} (h : cs.size = 5) : ∃ c0 c1 c2 c3 c4, cs = #[c0, c1, c2, c3, c4] := by
 obtain ⟨l⟩ := cs
 match l, h with
 | [c0, c1, c2, c3, c4], _ => exact ⟨c0, c1, c2, c3, c4, rfl⟩
set_option maxRecDepth 100000 in
theorem open_train {r : Reach} {b0 : Nat} {v : Value} {d : DataW H} {p : List MemPlace} (hv : Value.okWide Tryz.prog w r b0 53 v) (h : DataW.Trod enc Tryz.prog w base spare held 53 v d p) :
  ∃ (fp fa fw lg : Int) (nb : Nat) (B : Nat → Nat → Int) (ba : Option Addr) (bk : Nat), v = .agg #[.int .i64 fp, .int .i64 fa, .int .i64 fw, .int .i64 lg, .slice ba nb bk] ∧ nb ≤ maxLen ∧ NsAt 2 0 w ba nb B := by
 obtain ⟨cs, rfl, hsz⟩ := okWide_struct Tryz.underlying53 hv
 obtain ⟨c0, c1, c2, c3, c4, rfl⟩ := array5 (hsz.trans cells53)
 obtain ⟨fuel, hf⟩ := h
 obtain ⟨y0, y1, y2, n, _, _, h0, h1, h2⟩ := trod_struct3 Tryz.underlying53 hf
 simp only [Value.cells, cells28, cells3, cells51, List.drop_zero, List.drop_succ_cons, List.take_succ_cons, List.take_zero] at h0 h1 h2
 obtain ⟨z0, z1, z2, k, _, _, g0, g1, g2⟩ := trod_struct3 Tryz.underlying28 h0
 simp only [cells3, List.drop_zero, List.drop_succ_cons, List.take_succ_cons, List.take_zero] at g0 g1 g2
 obtain ⟨x0, e0, _, _⟩ := DataW.trod_int Tryz.underlying3 g0
 obtain ⟨x1, e1, _, _⟩ := DataW.trod_int Tryz.underlying3 g1
 obtain ⟨x2, e2, _, _⟩ := DataW.trod_int Tryz.underlying3 g2
 obtain ⟨x3, e3, _, _⟩ := DataW.trod_int Tryz.underlying3 h1
 obtain ⟨ba, nb, bk, B, e4, hn, hB⟩ := open_steps h2
 simp only [List.cons.injEq, and_true] at e0 e1 e2 e3
 exact ⟨x0, x1, x2, x3, nb, B, ba, bk, by rw [e0, e1, e2, e3, e4], hn, hB⟩
end
set_option maxRecDepth 100000 in
theorem moveLifted (os : Os) (started : os.Started) (H : Type) (enc : TypeId × Value → H) :
  ReturnsInHanded {} Tryz.checked os 5 .any (Rows.fnExactMoveSpec.pre6 enc Tryz.prog Tryz.f5 Rows.fnExactMoveRow.domain false) (Rows.fnExactMoveSpec.post enc Tryz.prog Tryz.f5 false true false false) := by
 refine returnsInHanded_of_change (C := Tryz.checked) own started (by kernel_rfl) Tryz.func5
  (ChangeSpec.witness6 (enc := enc) (C := Tryz.checked) false ⟨#[], #[.agg #[.slice none 0 0, .slice none 0 0], .slice none 0 0, .agg #[.int .i64 0, .int .i64 0, .int .i64 0, .int .i64 0, .slice none 0 0], .int .i64 0], []⟩ 8 (by kernel_rfl) (by kernel_rfl) (by kernel_rfl) (by kernel_rfl)) ?_
 intro W base args ds gs before hval0 hW hcnd _
 have hval : ∀ (j : Nat) t v, Tryz.f5.params[j]? = some t → args[j]? = some v → Value.okWide Tryz.prog W .any base t v := hval0
 have hW' := hW
 obtain ⟨p, q, hA0, hV, rfl, hfz, hnd⟩ := hW
 have hA : DataW.TrodAll enc Tryz.prog W 0 (fun _ => true) true Tryz.f5.params.toList args.toList ds p := hA0
 rw [Tryz.params5] at hA hval
 obtain ⟨v0, vs0, d0, ds0, p0, q0, hargs, rfl, rfl, h0, r0⟩ := trodAll_cons hA
 obtain ⟨v1, vs1, d1, ds1, p1, q1, rfl, rfl, rfl, h1, r1⟩ := trodAll_cons r0
 obtain ⟨v2, vs2, d2, ds2, p2, q2, rfl, rfl, rfl, h2, r2⟩ := trodAll_cons r1
 obtain ⟨v3, vs3, d3, ds3, p3, q3, rfl, rfl, rfl, h3, r3⟩ := trodAll_cons r2
 obtain ⟨rfl, rfl, rfl⟩ := trodAll_nil r3
 obtain rfl : args = #[v0, v1, v2, v3] := by cases args; simp_all
 obtain ⟨rfl, rfl⟩ := trodVars_none hV
 have k0 := h0
 have k1 := h1
 have k2 := h2
 have k3 := h3
 have lt0 : ∀ x ∈ p0, x.block < W.heap.size := by obtain ⟨m, hm⟩ := k0; exact DataW.trod_lt m _ _ _ hm
 have lt1 : ∀ x ∈ p1, x.block < W.heap.size := by obtain ⟨m, hm⟩ := k1; exact DataW.trod_lt m _ _ _ hm
 have lt2 : ∀ x ∈ p2, x.block < W.heap.size := by obtain ⟨m, hm⟩ := k2; exact DataW.trod_lt m _ _ _ hm
 have lt3 : ∀ x ∈ p3, x.block < W.heap.size := by obtain ⟨m, hm⟩ := k3; exact DataW.trod_lt m _ _ _ hm
 obtain ⟨x0, x1, y0, y1, fu, rfl, _, _, g0, g1⟩ := open_agg2 Tryz.underlying25 (by kernel_rfl) cells25 (hval 0 25 v0 rfl rfl) h0
 obtain ⟨pa, n, pc, P, rfl, hn, hP, hps⟩ := open_pieces g0
 obtain ⟨ja, m, jc, J, rfl, hm, hJ, hjs⟩ := open_joints g1
 obtain ⟨a1, len1, cap1, rfl⟩ := okWide_slice Tryz.underlying26 (hval 1 26 v1 rfl rfl)
 obtain ⟨fu1, hf1⟩ := h1
 obtain ⟨sa, kk, sc, S, hse, hk, hS⟩ := open_intsI (by simpa [Value.cells] using hf1)
 simp only [Value.slice.injEq] at hse
 obtain ⟨rfl, rfl, rfl⟩ := hse
 obtain ⟨fp, fa, fw, lg, nb, B, ba, bk, rfl, hnb, hB⟩ := open_train (hval 2 53 v2 rfl rfl) h2
 obtain ⟨T, rfl⟩ := okWide_int Tryz.underlying3 (hval 3 3 v3 rfl rfl)
 clear hA0 hval0
 refine (law5v (v := ⟨n, P, m, J⟩) pa pc ja jc a1 len1 cap1 S fp fa fw lg nb B ba bk T W hn hm hk hnb hP hJ hps hjs hS hB).mono fun e W' ⟨he, bel⟩ => ?_
 subst he
 exact ⟨_, rfl, _, _, _, [], _, [], hW', trodAll_mk1 (shut_bool Tryz.underlying4 _), (trodAll_cons_mk (Below.trod laidOut (by kernel_rfl) (of_decide_eq_true (by kernel_rfl)) k0 bel lt0) (trodAll_cons_mk (Below.trod laidOut (by kernel_rfl) (of_decide_eq_true (by kernel_rfl)) k1 bel lt1) (trodAll_cons_mk (Below.trod laidOut (by kernel_rfl) (of_decide_eq_true (by kernel_rfl)) k2 bel lt2) (trodAll_cons_mk (Below.trod laidOut (by kernel_rfl) (of_decide_eq_true (by kernel_rfl)) k3 bel lt3) trodAll_mk0)))), rfl, bel.frame _, fun h => by cases h⟩
theorem moveOver : Rows.fnExactMoveRow.holds Tryz.pinned (OpenSpec.ofChange Rows.fnExactMoveSpec) :=
 OpenClaim.holds_of_wide 5 Tryz.f5 rfl rfl rfl rfl rfl rfl rfl ⟨rfl, rfl, rfl, rfl, rfl⟩ rfl rfl rfl rfl rfl (by kernel_rfl) Tryz.func5 (by kernel_rfl)
  (of_decide_eq_true (by kernel_rfl)) (by unfold Func.isWrapper; first | (rw [if_pos (by decide +kernel)]; kernel_rfl) | (rw [if_neg (by decide +kernel)]; exact ⟨rfl, rfl⟩))
  (fun os started H enc _ => moveLifted os started H enc)
theorem fnExactMove_proved : Rows.FnExactMoveSaid := moveOver
#print axioms fnExactMove_proved
end Go.Proofs.YtjhmaofjmalglaaGreat
