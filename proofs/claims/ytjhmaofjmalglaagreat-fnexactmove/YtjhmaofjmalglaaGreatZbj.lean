import Derived.Test.YtjhmaofjmalglaaGreatZbi
import Derived.Test.YtjhmaofjmalglaaGreatZbh
namespace Go.Proofs.YtjhmaofjmalglaaGreat
open Go.RowKit Go.Lib
def ndG (h : Nat → Int) (lg : Int) : Nat → Nat → Nat
 | 0, i => if lg ≤ h i then i else i + 1
 | f + 1, i => if lg ≤ h i then i else ndG h lg f (i + 1)
def ndN (h : Nat → Int) (lg : Int) (nb : Nat) : Nat := ndG h lg nb 0
theorem ndG_is {h : Nat → Int} {lg : Int} : ∀ {f i z : Nat}, i ≤ z → z ≤ i + f + 1 → (∀ q, i ≤ q → q < z → q ≤ i + f → h q < lg) → (z ≤ i + f → lg ≤ h z) → ndG h lg f i = z
 | 0, i, z, h0, h1, h2, h3 => by
  by_cases c : lg ≤ h i
  ·
   have e : z = i := by
    by_cases d : z = i
    ·
     exact d
    ·
     have := h2 i nr (by omega) (by omega)
     omega
   show (if lg ≤ h i then i else i + 1) = z
   rw [if_pos c, e]
  ·
   have e : z = i + 1 := by
    by_cases d : z = i
    ·
     have := h3 (by omega)
     rw [d] at this
     exact absurd this c
    ·
     omega
   show (if lg ≤ h i then i else i + 1) = z
   rw [if_neg c, e]
 | f + 1, i, z, h0, h1, h2, h3 => by
  show (if lg ≤ h i then i else ndG h lg f (i + 1)) = z
  by_cases c : lg ≤ h i
  ·
   have e : z = i := by
    by_cases d : z = i
    ·
     exact d
    ·
     have := h2 i nr (by omega) (by omega)
     omega
   rw [if_pos c, e]
  ·
   rw [if_neg c]
   have hz : i + 1 ≤ z := by
    by_cases d : z = i
    ·
     have := h3 (by omega)
     rw [d] at this
     exact absurd this c
    ·
     omega
   exact ndG_is hz (by omega) (fun q a b e => h2 q (by omega) b (by omega)) (fun a => h3 (by omega))
theorem ndN_is {h : Nat → Int} {lg : Int} {nb z : Nat} (h1 : z ≤ nb + 1) (h2 : ∀ q, q < z → q ≤ nb → h q < lg) (h3 : z ≤ nb → lg ≤ h z) : ndN h lg nb = z :=
 ndG_is (Nat.zero_le _) (by omega) (fun q _ a b => h2 q a (by omega)) (fun a => h3 (by omega))
theorem ndG_ok {h : Nat → Int} {lg : Int} : ∀ {f i : Nat}, (lg ≤ h (i + f)) → i ≤ ndG h lg f i ∧ ndG h lg f i ≤ i + f ∧ (∀ q, i ≤ q → q < ndG h lg f i → h q < lg) ∧ lg ≤ h (ndG h lg f i)
 | 0, i, hl => by
  have e : ndG h lg 0 i = i := if_pos hl
  rw [e]
  exact ⟨Nat.le_refl _, Nat.le_refl _, fun q a b => absurd b (by omega), hl⟩
 | f + 1, i, hl => by
  by_cases c : lg ≤ h i
  ·
   have e : ndG h lg (f + 1) i = i := if_pos c
   rw [e]
   exact ⟨Nat.le_refl _, by omega, fun q a b => absurd b (by omega), c⟩
  ·
   have e : ndG h lg (f + 1) i = ndG h lg f (i + 1) := if_neg c
   rw [e]
   obtain ⟨a1, a2, a3, a4⟩ := ndG_ok (h := h) (lg := lg) (f := f) (i := i + 1) (by rw [show i + 1 + f = i + (f + 1) by omega]; exact hl)
   refine ⟨by omega, by omega, fun q b d => ?_, a4⟩
   by_cases g : q = i
   ·
    rw [g]; omega
   ·
    exact a3 q (by omega) d
theorem ndN_ok {h : Nat → Int} {lg : Int} {nb : Nat} (hl : lg ≤ h nb) : ndN h lg nb ≤ nb ∧ (∀ q, q < ndN h lg nb → h q < lg) ∧ lg ≤ h (ndN h lg nb) := by
 obtain ⟨_, a2, a3, a4⟩ := ndG_ok (h := h) (lg := lg) (f := nb) (i := 0) (by rw [Nat.zero_add]; exact hl)
 rw [Nat.zero_add] at a2
 exact ⟨a2, fun q b => a3 q (Nat.zero_le _) b, a4⟩
structure Mv where
 fp : Nat
 fa : Int
 fw : Int
 nb : Nat
 B : Nat → Nat → Int
 far : Int
 no : Nat
 O : Nat → Nat → Int
def mvR (v : Nv) (s : Mv) : Int := if s.fw = 1 then (v.P s.fp).ln - s.fa else s.fa
def mvC (v : Nv) (L : Nat → Int) (s : Mv) : Int := (exitAt v L s.fp s.fw).2
def mvJ (v : Nv) (s : Mv) : Int := ((v.at (headE s.fp s.fw)).1 : Int)
def mvH (v : Nv) (s : Mv) : Nat → Int := hvF v (s.fp : Int) s.fa s.fw s.B
def mvE (v : Nv) (L : Nat → Int) (s : Mv) : Mv := { s with fp := (nextAt v L s.fp s.fw).pc.toNat, fa := farI (v.P (nextAt v L s.fp s.fw).pc.toNat).ln 0 (wayOf (nextAt v L s.fp s.fw)), fw := wayOf (nextAt v L s.fp s.fw), nb := s.nb + 1, B := stF (s.fp : Int) s.fw s.B }
def mvBy (v : Nv) (T : Int) (s : Mv) : Int := if mvR v s ≤ T - s.far then mvR v s else T - s.far
def mvAl (v : Nv) (s : Mv) : Int := farI (v.P s.fp).ln s.fa s.fw
def ovF (n : Nat) (O : Nat → Nat → Int) (p a b : Int) (i c : Nat) : Int := if i = n then (if c = 0 then p else if c = 1 then a else b) else O i c
def mvA (v : Nv) (lg T : Int) (s : Mv) : Mv := { s with
 fa := s.fa + mvBy v T s * s.fw
 nb := ndN (hvF v (s.fp : Int) (s.fa + mvBy v T s * s.fw) s.fw s.B) lg s.nb
 far := s.far + mvBy v T s
 no := s.no + 1
 O := ovF s.no s.O s.fp (pfA (v.P s.fp).ln s.fw (mvAl v s) (mvAl v s + mvBy v T s)) (pfB (v.P s.fp).ln s.fw (mvAl v s) (mvAl v s + mvBy v T s)) }
def MvStep (v : Nv) (L : Nat → Int) (lg T : Int) (R : Mv → Mv → Int → Int → Prop) : Prop :=
 (∀ s, ¬ s.far < T → R s s 0 (-1)) ∧ (∀ s, s.far < T → mvR v s = 0 → mvC v L s ≠ 0 → R s s (mvC v L s) (mvJ v s)) ∧
 (∀ s, s.far < T → mvR v s = 0 → mvC v L s = 0 → s.nb = 200 → R s s 6 (mvJ v s)) ∧
 (∀ s r c j, s.far < T → mvR v s = 0 → mvC v L s = 0 → ¬ s.nb = 200 → R (mvE v L s) r c j → R s r c j) ∧
 (∀ s r c j, s.far < T → ¬ mvR v s = 0 → R (mvA v lg T s) r c j → R s r c j)
def MvTo (v : Nv) (L : Nat → Int) (lg T : Int) (s r : Mv) (c j : Int) : Prop := ∀ R, MvStep v L lg T R → R s r c j
theorem MvTo.done {v : Nv} {L : Nat → Int} {lg T : Int} {s : Mv} (h1 : ¬ s.far < T) : MvTo v L lg T s s 0 (-1) := fun _ h => h.1 s h1
theorem MvTo.stop {v : Nv} {L : Nat → Int} {lg T : Int} {s : Mv} (h1 : s.far < T) (h2 : mvR v s = 0) (h3 : mvC v L s ≠ 0) : MvTo v L lg T s s (mvC v L s) (mvJ v s) := fun _ h => h.2.1 s h1 h2 h3
theorem MvTo.many {v : Nv} {L : Nat → Int} {lg T : Int} {s : Mv} (h1 : s.far < T) (h2 : mvR v s = 0) (h3 : mvC v L s = 0) (h4 : s.nb = 200) : MvTo v L lg T s s 6 (mvJ v s) := fun _ h => h.2.2.1 s h1 h2 h3 h4
theorem MvTo.enter {v : Nv} {L : Nat → Int} {lg T : Int} {s r : Mv} {c j : Int} (h1 : s.far < T) (h2 : mvR v s = 0) (h3 : mvC v L s = 0) (h4 : ¬ s.nb = 200) (h5 : MvTo v L lg T (mvE v L s) r c j) : MvTo v L lg T s r c j := fun R h => h.2.2.2.1 s r c j h1 h2 h3 h4 (h5 R h)
theorem MvTo.along {v : Nv} {L : Nat → Int} {lg T : Int} {s r : Mv} {c j : Int} (h1 : s.far < T) (h2 : ¬ mvR v s = 0) (h5 : MvTo v L lg T (mvA v lg T s) r c j) : MvTo v L lg T s r c j := fun R h => h.2.2.2.2 s r c j h1 h2 (h5 R h)
def MvD (v : Nv) (L : Nat → Int) (lg T : Int) (s r : Mv) (c j : Int) : Prop :=
 (¬ s.far < T ∧ r = s ∧ c = 0 ∧ j = -1) ∨ ((s.far < T ∧ mvR v s = 0 ∧ mvC v L s ≠ 0) ∧ r = s ∧ c = mvC v L s ∧ j = mvJ v s) ∨
 ((s.far < T ∧ mvR v s = 0 ∧ mvC v L s = 0 ∧ s.nb = 200) ∧ r = s ∧ c = 6 ∧ j = mvJ v s) ∨
 ((s.far < T ∧ mvR v s = 0 ∧ mvC v L s = 0 ∧ ¬ s.nb = 200) ∧ MvTo v L lg T (mvE v L s) r c j) ∨ ((s.far < T ∧ ¬ mvR v s = 0) ∧ MvTo v L lg T (mvA v lg T s) r c j)
theorem MvD.run {v : Nv} {L : Nat → Int} {lg T : Int} {s r : Mv} {c j : Int} (h : MvD v L lg T s r c j) : MvTo v L lg T s r c j := by
 rcases h with ⟨h1, rfl, rfl, rfl⟩ | ⟨h1, rfl, rfl, rfl⟩ | ⟨h1, rfl, rfl, rfl⟩ | ⟨h1, h2⟩ | ⟨h1, h2⟩
 ·
  exact MvTo.done h1
 ·
  exact MvTo.stop h1.1 h1.2.1 h1.2.2
 ·
  exact MvTo.many h1.1 h1.2.1 h1.2.2.1 h1.2.2.2
 ·
  exact MvTo.enter h1.1 h1.2.1 h1.2.2.1 h1.2.2.2 h2
 ·
  exact MvTo.along h1.1 h1.2 h2
theorem MvTo.inv {v : Nv} {L : Nat → Int} {lg T : Int} {s r : Mv} {c j : Int} (h : MvTo v L lg T s r c j) : MvD v L lg T s r c j :=
 h (MvD v L lg T) ⟨fun _ h1 => Or.inl ⟨h1, rfl, rfl, rfl⟩, fun _ h1 h2 h3 => Or.inr (Or.inl ⟨⟨h1, h2, h3⟩, rfl, rfl, rfl⟩), fun _ h1 h2 h3 h4 => Or.inr (Or.inr (Or.inl ⟨⟨h1, h2, h3, h4⟩, rfl, rfl, rfl⟩)), fun _ _ _ _ h1 h2 h3 h4 h5 => Or.inr (Or.inr (Or.inr (Or.inl ⟨⟨h1, h2, h3, h4⟩, h5.run⟩))), fun _ _ _ _ h1 h2 h5 => Or.inr (Or.inr (Or.inr (Or.inr ⟨⟨h1, h2⟩, h5.run⟩)))⟩
theorem MvTo.det {v : Nv} {L : Nat → Int} {lg T : Int} {s r r' : Mv} {c j c' j' : Int} (h : MvTo v L lg T s r c j) (h' : MvTo v L lg T s r' c' j') : r = r' ∧ c = c' ∧ j = j' := by
 refine h (fun s r c j => ∀ r' c' j', MvTo v L lg T s r' c' j' → r = r' ∧ c = c' ∧ j = j') ⟨?_, ?_, ?_, ?_, ?_⟩ r' c' j' h'
 ·
  intro s h1 r' c' j' g
  rcases g.inv with ⟨_, rfl, rfl, rfl⟩ | ⟨g1, _⟩ | ⟨g1, _⟩ | ⟨g1, _⟩ | ⟨g1, _⟩
  ·
   exact ⟨rfl, rfl, rfl⟩
  ·
   exact absurd g1.1 h1
  ·
   exact absurd g1.1 h1
  ·
   exact absurd g1.1 h1
  ·
   exact absurd g1.1 h1
 ·
  intro s h1 h2 h3 r' c' j' g
  rcases g.inv with ⟨g1, _⟩ | ⟨_, rfl, rfl, rfl⟩ | ⟨g1, _⟩ | ⟨g1, _⟩ | ⟨g1, _⟩
  ·
   exact absurd h1 g1
  ·
   exact ⟨rfl, rfl, rfl⟩
  ·
   exact absurd g1.2.2.1 h3
  ·
   exact absurd g1.2.2.1 h3
  ·
   exact absurd h2 g1.2
 ·
  intro s h1 h2 h3 h4 r' c' j' g
  rcases g.inv with ⟨g1, _⟩ | ⟨g1, _⟩ | ⟨_, rfl, rfl, rfl⟩ | ⟨g1, _⟩ | ⟨g1, _⟩
  ·
   exact absurd h1 g1
  ·
   exact absurd h3 g1.2.2
  ·
   exact ⟨rfl, rfl, rfl⟩
  ·
   exact absurd h4 g1.2.2.2
  ·
   exact absurd h2 g1.2
 ·
  intro s r c j h1 h2 h3 h4 ih r' c' j' g
  rcases g.inv with ⟨g1, _⟩ | ⟨g1, _⟩ | ⟨g1, _⟩ | ⟨_, g5⟩ | ⟨g1, _⟩
  ·
   exact absurd h1 g1
  ·
   exact absurd h3 g1.2.2
  ·
   exact absurd g1.2.2.2 h4
  ·
   exact ih _ _ _ g5
  ·
   exact absurd h2 g1.2
 ·
  intro s r c j h1 h2 ih r' c' j' g
  rcases g.inv with ⟨g1, _⟩ | ⟨g1, _⟩ | ⟨g1, _⟩ | ⟨g1, _⟩ | ⟨_, g5⟩
  ·
   exact absurd h1 g1
  ·
   exact absurd g1.2.1 h2
  ·
   exact absurd g1.2.1 h2
  ·
   exact absurd g1.2.1 h2
  ·
   exact ih _ _ _ g5
def MvOk (v : Nv) (lg : Int) (s : Mv) : Prop := Trn v (s.fp : Int) s.fa s.fw lg s.nb s.B
theorem mv_spot {v : Nv} {lg : Int} {s : Mv} (h : MvOk v lg s) : s.fp < v.n ∧ (s.fw = 1 ∨ s.fw = -1) ∧ 0 ≤ s.fa ∧ s.fa ≤ (v.P s.fp).ln := by
 obtain ⟨q, h1, h2, h3, h4⟩ := spot_nat h.spot
 have e : s.fp = q := by omega
 rw [e]
 exact ⟨h2, h3, h4⟩
theorem spot_mk {v : Nv} {q : Nat} {a w : Int} (h1 : q < v.n) (h2 : w = 1 ∨ w = -1) (h3 : 0 ≤ a ∧ a ≤ (v.P q).ln) : spotB v (q : Int) a w = true := by
 rw [spotB, Bool.and_eq_true, Bool.and_eq_true, Bool.or_eq_true, decide_eq_true_eq, decide_eq_true_eq]
 refine ⟨⟨?_, h2⟩, ?_⟩
 ·
  simp only [inB, Bool.and_eq_true, decide_eq_true_eq]
  omega
 ·
  simp only [inB, Bool.and_eq_true, decide_eq_true_eq, Int.toNat_natCast]
  exact h3
theorem step_mk {v : Nv} {q : Nat} {w : Int} (h1 : q < v.n) (h2 : w = 1 ∨ w = -1) : stepB v (q : Int) w = true := by
 rw [stepB, Bool.and_eq_true, Bool.or_eq_true, decide_eq_true_eq, decide_eq_true_eq]
 refine ⟨?_, h2⟩
 simp only [inB, Bool.and_eq_true, decide_eq_true_eq]
 omega
theorem mv_room {v : Nv} {lg : Int} {s : Mv} (h : MvOk v lg s) : 0 ≤ mvR v s ∧ mvR v s ≤ (v.P s.fp).ln ∧ mvR v s = (v.P s.fp).ln - mvAl v s ∧ 0 ≤ mvAl v s ∧ mvAl v s ≤ (v.P s.fp).ln := by
 obtain ⟨h1, h2, h3⟩ := mv_spot h
 unfold mvR mvAl farI
 rcases h2 with e | e <;> rw [e] <;> simp <;> omega
theorem mv_next {v : Nv} (ok : v.Ok) {L : Nat → Int} (hl : ∀ i, i < v.m → lieB v.J L i = true) {lg : Int} {s : Mv} (h : MvOk v lg s) (hc : mvC v L s = 0) : ∃ q : Nat, (nextAt v L s.fp s.fw).pc = (q : Int) ∧ q < v.n ∧ ((nextAt v L s.fp s.fw).sd = 0 ∨ (nextAt v L s.fp s.fw).sd = 1) := by
 obtain ⟨q, h1, h2⟩ := next_pc ok (mv_spot h).1 hl hc
 exact ⟨q, h1, h2, next_sd ok (mv_spot h).1 hl hc⟩
theorem mvE_hv {v : Nv} {L : Nat → Int} {lg : Int} {s : Mv} (h : MvOk v lg s) (hr : mvR v s = 0) : ∀ k, mvH v (mvE v L s) (k + 1) = mvH v s k
 | 0 => by
  have h1 := mv_room h
  show hvF v _ _ _ _ 0 + _ = hvF v _ _ _ _ 0
  have e0 : hvF v ((mvE v L s).fp : Int) (mvE v L s).fa (mvE v L s).fw (mvE v L s).B 0 = 0 := by
   rw [hvF, Int.toNat_natCast]
   show farI (v.P (nextAt v L s.fp s.fw).pc.toNat).ln (farI (v.P (nextAt v L s.fp s.fw).pc.toNat).ln 0 (wayOf (nextAt v L s.fp s.fw))) (wayOf (nextAt v L s.fp s.fw)) = 0
   unfold farI
   split <;> simp
  rw [e0, hvF, Int.toNat_natCast, show (mvE v L s).B 0 0 = (s.fp : Int) from rfl, Int.toNat_natCast]
  have := h1.2.2.1
  unfold mvAl at this
  omega
 | k + 1 => by
  show hvF v _ _ _ _ (k + 1) + (v.P ((mvE v L s).B (k + 1) 0).toNat).ln = hvF v _ _ _ _ k + (v.P (s.B k 0).toNat).ln
  rw [show hvF v ((mvE v L s).fp : Int) (mvE v L s).fa (mvE v L s).fw (mvE v L s).B (k + 1) = hvF v (s.fp : Int) s.fa s.fw s.B k from mvE_hv h hr k]
  rfl
theorem mvE_h0 {v : Nv} {L : Nat → Int} {s : Mv} : mvH v (mvE v L s) 0 = 0 := by
 show hvF v _ _ _ _ 0 = 0
 rw [hvF, Int.toNat_natCast]
 show farI (v.P (nextAt v L s.fp s.fw).pc.toNat).ln (farI (v.P (nextAt v L s.fp s.fw).pc.toNat).ln 0 (wayOf (nextAt v L s.fp s.fw))) (wayOf (nextAt v L s.fp s.fw)) = 0
 unfold farI
 split <;> simp
theorem mvE_ok {v : Nv} (ok : v.Ok) {L : Nat → Int} (hl : ∀ i, i < v.m → lieB v.J L i = true) {lg : Int} {s : Mv} (h : MvOk v lg s) (hr : mvR v s = 0) (hc : mvC v L s = 0) (hn : ¬ s.nb = 200) : MvOk v lg (mvE v L s) := by
 obtain ⟨q, h1, h2, h3⟩ := mv_next ok hl h hc
 have hln := ok.ln q h2
 have hsp := mv_spot h
 have hnb := h.nb1
 refine ⟨?_, h.lg0, h.lg1, by show s.nb + 1 ≤ 200; omega, ?_, ?_, ?_⟩
 ·
  have e : (mvE v L s).fp = q := by show (nextAt v L s.fp s.fw).pc.toNat = q; rw [h1, Int.toNat_natCast]
  rw [e]
  refine spot_mk h2 (wayOf_two _) ?_
  show 0 ≤ farI (v.P (nextAt v L s.fp s.fw).pc.toNat).ln 0 _ ∧ farI (v.P (nextAt v L s.fp s.fw).pc.toNat).ln 0 _ ≤ _
  rw [h1, Int.toNat_natCast]
  unfold farI
  split <;> omega
 ·
  intro i hi
  have hi : i < s.nb + 1 := hi
  cases i with
  | zero => exact step_mk hsp.1 hsp.2.1
  | succ j => exact h.step j (by omega)
 ·
  intro i hi
  have hi : i < s.nb + 1 := hi
  cases i with
  | zero =>
   have := h.lg0
   have e := mvE_h0 (v := v) (L := L) (s := s)
   show mvH v (mvE v L s) 0 < lg
   rw [e]
   omega
  | succ j =>
   show mvH v (mvE v L s) (j + 1) < lg
   rw [mvE_hv h hr]
   exact h.lt j (by omega)
 ·
  show lg ≤ mvH v (mvE v L s) (s.nb + 1)
  rw [mvE_hv h hr]
  exact h.le
theorem mv_by {v : Nv} {lg T : Int} {s : Mv} (h : MvOk v lg s) (hT : s.far < T) (hr : ¬ mvR v s = 0) : 0 < mvBy v T s ∧ mvBy v T s ≤ mvR v s ∧ mvBy v T s ≤ T - s.far := by
 have := (mv_room h).1
 unfold mvBy
 split <;> omega
theorem mvA_fa {v : Nv} {lg T : Int} {s : Mv} (h : MvOk v lg s) (hT : s.far < T) (hr : ¬ mvR v s = 0) : 0 ≤ (mvA v lg T s).fa ∧ (mvA v lg T s).fa ≤ (v.P s.fp).ln ∧ farI (v.P s.fp).ln (mvA v lg T s).fa s.fw = mvAl v s + mvBy v T s ∧ farI (v.P s.fp).ln (mvAl v s + mvBy v T s) s.fw = (mvA v lg T s).fa := by
 obtain ⟨h1, h2, h3⟩ := mv_by h hT hr
 have h4 := mv_room h
 have h5 := mv_spot h
 have e : (mvA v lg T s).fa = s.fa + mvBy v T s * s.fw := rfl
 rcases h5.2.1 with g | g
 ·
  have e1 : mvR v s = (v.P s.fp).ln - s.fa := by unfold mvR; rw [if_pos g]
  have e2 : mvAl v s = s.fa := by unfold mvAl farI; rw [if_pos g]
  have e3 : (mvA v lg T s).fa = s.fa + mvBy v T s := by rw [e, g]; omega
  unfold farI
  rw [if_pos g, if_pos g, e2, e3]
  omega
 ·
  have g2 : ¬ s.fw = 1 := by omega
  have e1 : mvR v s = s.fa := by unfold mvR; rw [if_neg g2]
  have e2 : mvAl v s = (v.P s.fp).ln - s.fa := by unfold mvAl farI; rw [if_neg g2]
  have e3 : (mvA v lg T s).fa = s.fa - mvBy v T s := by rw [e, g]; omega
  unfold farI
  rw [if_neg g2, if_neg g2, e2, e3]
  omega
theorem mvA_hv {v : Nv} {lg T : Int} {s : Mv} (h : MvOk v lg s) (hT : s.far < T) (hr : ¬ mvR v s = 0) : ∀ k, mvH v (mvA v lg T s) k = mvH v s k + mvBy v T s
 | 0 => by
  show hvF v (s.fp : Int) (mvA v lg T s).fa s.fw s.B 0 = hvF v (s.fp : Int) s.fa s.fw s.B 0 + _
  rw [hvF, hvF, Int.toNat_natCast, (mvA_fa h hT hr).2.2.1]
  rfl
 | k + 1 => by
  show mvH v (mvA v lg T s) k + (v.P (s.B k 0).toNat).ln = mvH v s k + (v.P (s.B k 0).toNat).ln + _
  rw [mvA_hv h hT hr k]
  omega
theorem mvA_nb {v : Nv} {lg T : Int} {s : Mv} (h : MvOk v lg s) (hT : s.far < T) (hr : ¬ mvR v s = 0) : (mvA v lg T s).nb ≤ s.nb ∧ (∀ q, q < (mvA v lg T s).nb → mvH v (mvA v lg T s) q < lg) ∧ lg ≤ mvH v (mvA v lg T s) (mvA v lg T s).nb := by
 have hb := (mv_by h hT hr).1
 have hle : lg ≤ mvH v s s.nb := h.le
 exact ndN_ok (h := mvH v (mvA v lg T s)) (by rw [mvA_hv h hT hr]; omega)
theorem mvA_ok {v : Nv} {lg T : Int} {s : Mv} (h : MvOk v lg s) (hT : s.far < T) (hr : ¬ mvR v s = 0) : MvOk v lg (mvA v lg T s) := by
 obtain ⟨h1, h2, h3⟩ := mvA_nb h hT hr
 have h4 := mv_spot h
 have h5 := mvA_fa h hT hr
 have h6 := h.nb1
 exact ⟨spot_mk h4.1 h4.2.1 ⟨h5.1, h5.2.1⟩, h.lg0, h.lg1, by omega, fun i hi => h.step i (by omega), h2, h3⟩
end Go.Proofs.YtjhmaofjmalglaaGreat
