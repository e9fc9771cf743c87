import Derived.Test.YtkeilejbelblcaaGreatDoorH6
import Derived.Test.YtkeilejbelblcaaGreatDoorH2
namespace Go.Proofs.YtkeilejbelblcaaGreatDoor
open Go.RowKit

theorem Chg.of_below {hb lo hi r : Nat} {w w' : World} (h : Below w.heap.size w w') (hl : hb < w.heap.size) : Chg hb lo hi r w w' :=
  ⟨h.os, h.tape, h.output, h.size, fun k hk _ _ => h.block k hk, fun o _ => World.cell?_of_block (a := ⟨hb, o, none⟩) (h.block hb hl), fun o => World.frozen?_of_block (a := ⟨hb, o, none⟩) (h.block hb hl)⟩
theorem Chg.below {hb lo hi r M : Nat} {w w' : World} (h : Chg hb lo hi r w w') (hM : M ≤ w.heap.size) (h1 : M ≤ hb) (h2 : M ≤ r) : Below M w w' := ⟨h.os, h.tape, h.output, h.size, fun k hk => h.other k (by omega) (by omega) (by omega)⟩
/-- another way of the same list stands as it stood -/
theorem HAt.chg {w w' : World} {hb ho : Nat} {h : Hl} {r rc lo hi r0 : Nat} (x : HAt w hb ho h r rc) (hc : Chg hb lo hi r0 w w') (ho' : ho + 5 ≤ lo ∨ hi ≤ ho) (hr : r ≠ r0) : HAt w' hb ho h r rc := by
  have k2 := fun o => World.cell?_of_block (w := w) (w' := w') (a := ⟨r, o, none⟩) (hc.other r x.rl x.ne hr)
  have kf2 := fun o => World.frozen?_of_block (w := w) (w' := w') (a := ⟨r, o, none⟩) (hc.other r x.rl x.ne hr)
  exact ⟨Nat.lt_of_lt_of_le x.lt hc.size, x.ne, (hc.cell _ (by omega)).trans x.c0, (hc.cell _ (by omega)).trans x.c1, (hc.cell _ (by omega)).trans x.c2, (hc.cell _ (by omega)).trans x.c3, (hc.cell _ (by omega)).trans x.c4, fun j hj => (hc.frozen _).trans (x.fr j hj), Nat.lt_of_lt_of_le x.rl hc.size, fun j hj => ⟨(k2 _).trans (x.row j hj).1, (kf2 _).trans (x.row j hj).2⟩⟩
def updN {A : Type} (F : Nat → A) (i : Nat) (x : A) : Nat → A := fun j => if j = i then x else F j
theorem updN_same {A : Type} (F : Nat → A) (i : Nat) (x : A) : updN F i x i = x := if_pos rfl
theorem updN_ne {A : Type} {F : Nat → A} {i j : Nat} {x : A} (h : j ≠ i) : updN F i x j = F j := if_neg h
/-- a frame in memory of one's own, from M on -/
structure FMem (M : Nat) (w : World) (fb hb : Nat) (ok : Bool) (oa : Option Addr) (no oc : Nat) (O : Nat → Bool) (pa : Option Addr) (np pc : Nat) (P : Nat → Nat → Int) (nh hc : Nat) (Y : Nat → Hl) (r rc : Nat → Nat) : Prop where
  bx : Box w fb 42 #[.bool ok, .slice oa no oc, .slice pa np pc, .slice (some ⟨hb, 0, none⟩) nh hc]
  o : VsAt 1 0 w oa no (boolF O)
  p : VsAt 2 0 w pa np (intF P)
  h : ∀ i, i < nh → HAt w hb (i * 5) (Y i) (r i) (rc i)
  inj : ∀ i, i < nh → ∀ j, j < nh → r i = r j → i = j
  fh : fb ≠ hb
  fr : ∀ i, i < nh → fb ≠ r i
  oo : ∀ i, i < nh → OffV no oa hb (r i)
  pp : ∀ i, i < nh → OffV np pa hb (r i)
  mf : M ≤ fb
  mh : M ≤ hb
  mr : ∀ i, i < nh → M ≤ r i
theorem FMem.step {M : Nat} {w w' : World} {fb hb : Nat} {ok : Bool} {oa : Option Addr} {no oc : Nat} {O : Nat → Bool} {pa : Option Addr} {np pc : Nat} {P : Nat → Nat → Int} {nh hc : Nat} {Y : Nat → Hl} {r rc : Nat → Nat}
    (x : FMem M w fb hb ok oa no oc O pa np pc P nh hc Y r rc) {i : Nat} (hi : i < nh) (hM : M ≤ w.heap.size) (hC : Chg hb (i * 5) (i * 5 + 5) (r i) w w') {k : Hl} {r' rc' : Nat} (hA : HAt w' hb (i * 5) k r' rc') (hr : r' = r i ∨ w.heap.size ≤ r') :
    FMem M w' fb hb ok oa no oc O pa np pc P nh hc (updN Y i k) (updN r i r') (updN rc i rc') := by
  have hoff : ∀ {c n : Nat} {a : Option Addr} {F : Nat → Nat → Value}, VsAt c 0 w a n F → (∀ j, j < nh → OffV n a hb (r j)) → ∀ j, j < nh → OffV n a hb (updN r i r' j) := fun {c n a F} hv hf j hj h0 b off e => by
    obtain ⟨b', off', e', _, hlt, _⟩ := hv h0
    rw [e] at e'
    simp only [Option.some.injEq, Addr.mk.injEq] at e'
    refine ⟨(hf j hj h0 b off e).1, ?_⟩
    by_cases c : j = i
    · subst c
      rw [updN_same]
      rcases hr with rfl | hr
      · exact (hf j hj h0 b off e).2
      · omega
    · rw [updN_ne c]
      exact (hf j hj h0 b off e).2
  refine ⟨x.bx.chg hC x.fh (x.fr i hi), x.o.chg hC (x.oo i hi), x.p.chg hC (x.pp i hi), fun j hj => ?_, fun j hj l hl e => ?_, x.fh, fun j hj => ?_, hoff x.o x.oo, hoff x.p x.pp, x.mf, x.mh, fun j hj => ?_⟩
  · by_cases c : j = i
    · subst c
      simp only [updN_same]
      exact hA
    · simp only [updN_ne c]
      exact (x.h j hj).chg hC (by omega) fun e => c (x.inj j hj i hi e)
  · by_cases c : j = i
    · by_cases c2 : l = i
      · omega
      · subst c
        rw [updN_same, updN_ne c2] at e
        rcases hr with hr | hr
        · rw [hr] at e
          exact x.inj j hi l hl e
        · have := (x.h l hl).rl
          omega
    · by_cases c2 : l = i
      · subst c2
        rw [updN_same, updN_ne c] at e
        rcases hr with hr | hr
        · rw [hr] at e
          exact x.inj j hj l hi e
        · have := (x.h j hj).rl
          omega
      · rw [updN_ne c, updN_ne c2] at e
        exact x.inj j hj l hl e
  · by_cases c : j = i
    · subst c
      rw [updN_same]
      rcases hr with hr | hr
      · rw [hr]
        exact x.fr j hj
      · have := x.bx.lt
        omega
    · rw [updN_ne c]
      exact x.fr j hj
  · by_cases c : j = i
    · subst c
      rw [updN_same]
      rcases hr with hr | hr
      · rw [hr]
        exact x.mr j hj
      · omega
    · rw [updN_ne c]
      exact x.mr j hj
theorem FMem.congr {M : Nat} {w : World} {fb hb : Nat} {ok : Bool} {oa : Option Addr} {no oc : Nat} {O : Nat → Bool} {pa : Option Addr} {np pc : Nat} {P : Nat → Nat → Int} {nh hc : Nat} {Y Z : Nat → Hl} {r rc : Nat → Nat}
    (x : FMem M w fb hb ok oa no oc O pa np pc P nh hc Y r rc) (e : ∀ i, i < nh → likeH (Y i) (Z i)) : FMem M w fb hb ok oa no oc O pa np pc P nh hc Z r rc :=
  ⟨x.bx, x.o, x.p, fun i hi => (x.h i hi).congr (e i hi), x.inj, x.fh, x.fr, x.oo, x.pp, x.mf, x.mh, x.mr⟩
theorem FMem.mono {M : Nat} {w w' : World} {fb hb : Nat} {ok : Bool} {oa : Option Addr} {no oc : Nat} {O : Nat → Bool} {pa : Option Addr} {np pc : Nat} {P : Nat → Nat → Int} {nh hc : Nat} {Y : Nat → Hl} {r rc : Nat → Nat}
    (x : FMem M w fb hb ok oa no oc O pa np pc P nh hc Y r rc) (hB : Below w.heap.size w w') : FMem M w' fb hb ok oa no oc O pa np pc P nh hc Y r rc :=
  ⟨x.bx.mono hB (Nat.le_refl _), x.o.mono (Nat.le_refl _) hB (Nat.le_refl _), x.p.mono (Nat.le_refl _) hB (Nat.le_refl _), fun i hi => (x.h i hi).mono hB, x.inj, x.fh, x.fr, x.oo, x.pp, x.mf, x.mh, x.mr⟩
/-- what the way i of the plan sees -/
def vwOf (y : Wy) (O : Nat → Bool) (P : Nat → Nat → Int) : Vw := ⟨y.ns, fun k => O (y.S k).toNat, prvB y O P⟩

end Go.Proofs.YtkeilejbelblcaaGreatDoor
