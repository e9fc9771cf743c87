import Derived.Test.YtjhmaofjmalglaaGreatZbr
import Derived.Test.YtjhmaofjmalglaaGreatZaa
import Derived.Test.YtjhmaofjmalglaaGreatZan
import Derived.Test.YtjhmaofjmalglaaGreatZat
import Derived.Laws.Tables
import Derived.Test.YtjhmaofjmalglaaGreatZbq
import Derived.Test.YtjhmaofjmalglaaGreatZbd
import Derived.Test.YtjhmaofjmalglaaGreatZaz
import Derived.Test.YtjhmaofjmalglaaGreatZbg
namespace Go.Proofs.YtjhmaofjmalglaaGreat
open Go.RowKit Go.Lib
structure Kp where
 p : World → Prop
 m : ∀ {W W' : World}, p W → Below W.heap.size W W' → p W'
def Sts : List Kp → World → Prop
 | [], _ => True
 | k :: l, W => k.p W ∧ Sts l W
def kBn (N : Nat) (w : World) : Kp := ⟨fun W => Below N w W ∧ w.heap.size = N, fun h hb => ⟨h.1.trans (hb.mono (by rw [← h.2]; exact h.1.size)), h.2⟩⟩
def kBx (a : Nat) (T : TypeId) (vs : Array Value) : Kp := ⟨fun W => Box W a T vs, fun h hb => h.mono hb nr⟩
def kOw (B : Nat) (T : TypeId) (c : Nat) (v : Value) (n : Nat) (F : Nat → Nat → Value) : Kp := ⟨fun W => VOwn B T c W v n F, fun h hb => h.mono nr hb nr⟩
def kSz (n : Nat) : Kp := ⟨fun W => n ≤ W.heap.size, fun h hb => Nat.le_trans h hb.size⟩
def kPs (a : Option Addr) (n : Nat) (P : Nat → Pc) : Kp := ⟨fun W => PsAt 0 W a n P, fun h hb => h.mono nr hb nr⟩
def kJs (a : Option Addr) (n : Nat) (J : Nat → Jt) : Kp := ⟨fun W => JsAt 0 W a n J, fun h hb => h.mono nr hb nr⟩
def kIs (a : Option Addr) (n : Nat) (D : Nat → Int) : Kp := ⟨fun W => IsAt 0 W a n D, fun h hb => h.mono nr hb nr⟩
def kTk (bt sb : Nat) (v : Nv) (pa : Option Addr) (pc : Nat) (ja : Option Addr) (jc : Nat) : Kp := ⟨fun W => TkAt W bt sb v pa pc ja jc, fun h hb => h.mono hb nr⟩
theorem gT {bt sb : Nat} {v : Nv} {pa : Option Addr} {pc : Nat} {ja : Option Addr} {jc : Nat} {W : World} (h : (kTk bt sb v pa pc ja jc).p W) : TkAt W bt sb v pa pc ja jc := h
theorem bxf {a q : Nat} {T T' : TypeId} {xs ys : Array Value} {W W' : World} (h : Box W a T xs) (hq : Box W q T' ys) (hF : Fr (fun x => x = q) W W') (hT : T ≠ T' := by decide) : Box W' a T xs := h.fr hF (fun e => box_ne h hq hT e)
theorem owf {B q c n : Nat} {T T' : TypeId} {v : Value} {F : Nat → Nat → Value} {ys : Array Value} {W W' : World} (h : VOwn B T c W v n F) (hq : Box W q T' ys) (hF : Fr (fun x => x = q) W W') (hT : T' ≠ T := by decide) : VOwn B T c W' v n F := h.fr hF (fun _ hg e => h.off hq hT hg e)
theorem blf {N q : Nat} {w W W' : World} (h : (kBn N w).p W) (hN : N ≤ q) (hF : Fr (fun x => x = q) W W') : Below N w W' := h.1.trans (hF.below (by rw [← h.2]; exact h.1.size) (fun k hk (e : k = q) => by omega))
theorem step_row {P : Program} {ops : Array Oper} {o : Oper} {a : Act} {w : World} {K : Act → World → Prop} {Q : Exit → Act → World → Prop} {E : Prop} (hgd : o.guard = none) (ty : TypeId) (x y : Operand) (ho : o.op = .store ty x y) (g : Nat) (cells : Array Value) (hx : a.eval x = .pointer (some ⟨g, 0, none⟩)) (hy : a.eval y = .agg cells) (t : TypeId) (old : Array Value) (hb : Box w g t old) (hi : (P.info? ty).map (·.size) = some cells.size) (hold : old.size = cells.size) (h1 : cells.all (·.oneCell') = true)
  (h : ∀ w', Box w' g t cells → Fr (fun b => b = g) w w' → K (a.put o.dst undef) w') : if Region.wanted o (yielded ops a.tmps) = true then Oper.wp P o a w K Q else E := by
 have hw : Region.wanted o (yielded ops a.tmps) = true := by simp [Region.wanted, hgd]
 rw [if_pos hw]
 exact wp_store_row ty x y ho g cells hx hy t old hb hi hold h1 (h _ (setRow_heap w g old cells t (0, 0) hb) ⟨rfl, rfl, rfl, by simp, fun k _ hk => setRow_other w g k cells hk⟩)
theorem gL {N : Nat} {w W : World} (h : (kBn N w).p W) : Below N w W := h.1
theorem gB {a : Nat} {T : TypeId} {vs : Array Value} {W : World} (h : (kBx a T vs).p W) : Box W a T vs := h
theorem gO {B : Nat} {T : TypeId} {c : Nat} {v : Value} {n : Nat} {F : Nat → Nat → Value} {W : World} (h : (kOw B T c v n F).p W) : VOwn B T c W v n F := h
theorem gS {n : Nat} {W : World} (h : (kSz n).p W) : n ≤ W.heap.size := h
theorem gP {a : Option Addr} {n : Nat} {P : Nat → Pc} {W : World} (h : (kPs a n P).p W) : PsAt 0 W a n P := h
theorem gJ {a : Option Addr} {n : Nat} {J : Nat → Jt} {W : World} (h : (kJs a n J).p W) : JsAt 0 W a n J := h
theorem gI {a : Option Addr} {n : Nat} {D : Nat → Int} {W : World} (h : (kIs a n D).p W) : IsAt 0 W a n D := h
theorem Sts.mono {W W' : World} : ∀ {l : List Kp}, Sts l W → Below W.heap.size W W' → Sts l W'
 | [], _, _ => trivial
 | k :: _, h, hb => ⟨k.m h.1 hb, Sts.mono h.2 hb⟩
theorem stm {l : List Kp} {W W' : World} (h : Hid (Sts l W)) (hb : Below W.heap.size W W') : Hid (Sts l W') := Sts.mono h.out hb
theorem std {l : List Kp} {W : World} (h : Hid (Sts l W)) : Hid (Sts l W.drew) := Sts.mono h.out (Below.refl _ _).drew
theorem sta {l : List Kp} {W : World} (h : Hid (Sts l W)) (o : Obj) : Hid (Sts l (W.alloc o)) := Sts.mono h.out (bel1 _ _)
theorem stx {k : Kp} {l : List Kp} {W : World} (h : Hid (Sts l W)) (hk : k.p W) : Hid (Sts (k :: l) W) := ⟨hk, h.out⟩
end Go.Proofs.YtjhmaofjmalglaaGreat
namespace Go.Proofs.YtjhmaofjmalglaaGreat
open Go.RowKit Go.Lib
theorem mvTo_le {v : Nv} (ok : v.Ok) {L : Nat → Int} (hl : ∀ i, i < v.m → lieB v.J L i = true) {lg T : Int} {s r : Mv} {c j : Int} (h : MvTo v L lg T s r c j) : MvOk v lg s → (s.no : Int) ≤ s.far ∧ s.far ≤ T → r.nb ≤ 200 ∧ (r.no : Int) ≤ T := by
 refine h (fun s r _ _ => MvOk v lg s → (s.no : Int) ≤ s.far ∧ s.far ≤ T → r.nb ≤ 200 ∧ (r.no : Int) ≤ T) ⟨?_, ?_, ?_, ?_, ?_⟩
 ·
  exact fun s _ h2 h3 => ⟨h2.nb1, by omega⟩
 ·
  exact fun s _ _ _ h2 h3 => ⟨h2.nb1, by omega⟩
 ·
  exact fun s _ _ _ _ h2 h3 => ⟨h2.nb1, by omega⟩
 ·
  exact fun s _ _ _ _ h2 h3 h4 ih g1 g2 => ih (mvE_ok ok hl g1 h2 h3 h4) g2
 ·
  intro s r c j h1 h2 ih g1 g2
  have h5 := mv_by g1 h1 h2
  refine ih (mvA_ok g1 h1 h2) ?_
  have e1 : (mvA v lg T s).far = s.far + mvBy v T s := rfl
  have e2 : (((mvA v lg T s).no : Nat) : Int) = (s.no : Int) + 1 := rfl
  rw [e1, e2]
  omega
structure MvX where
 c : Int
 far : Int
 j : Int
 p : Int
 a : Int
 w : Int
 l : Int
 n : Nat
 no : Nat
 F : Nat → Nat → Int
 O : Nat → Nat → Int
def gdB (v : Nv) (nl : Nat) (L : Nat → Int) (fp fa fw lg : Int) (nb : Nat) (B : Nat → Nat → Int) (T : Int) : Bool := (liesF v.n v.P v.m v.J nl L && trnB v fp fa fw lg nb B) && inB T 0 10000
def mvX0 : MvX := ⟨5, 0, 0, 0, 0, 0, 0, 0, 0, fun _ _ => 0, fun _ _ => 0⟩
def mvXr (lg : Int) (r : Mv) (c j : Int) : MvX := ⟨c, r.far, j, (r.fp : Int), r.fa, r.fw, lg, r.nb, r.no, r.B, r.O⟩
def MvAns (v : Nv) (nl : Nat) (L : Nat → Int) (fp fa fw lg : Int) (nb : Nat) (B : Nat → Nat → Int) (T : Int) (x : MvX) : Prop :=
 (gdB v nl L fp fa fw lg nb B T = true → ∃ (r : Mv) (c j : Int), MvF v L lg T (mv0 fp.toNat fa fw nb B) r c j ∧ x = mvXr lg r c j) ∧ (gdB v nl L fp fa fw lg nb B T = false → x = mvX0)
theorem MvAns.det {v : Nv} {nl : Nat} {L : Nat → Int} {fp fa fw lg : Int} {nb : Nat} {B : Nat → Nat → Int} {T : Int} {x y : MvX} (h : MvAns v nl L fp fa fw lg nb B T x) (h' : MvAns v nl L fp fa fw lg nb B T y) : x = y := by
 cases hg : gdB v nl L fp fa fw lg nb B T with
 | false => rw [h.2 hg, h'.2 hg]
 | true =>
  obtain ⟨r, c, j, h1, h2⟩ := h.1 hg
  obtain ⟨r', c', j', h3, h4⟩ := h'.1 hg
  obtain ⟨e1, e2, e3⟩ := h1.det h3
  rw [h2, h4, e1, e2, e3]
theorem gd_parts {v : Nv} {nl : Nat} {L : Nat → Int} {fp fa fw lg : Int} {nb : Nat} {B : Nat → Nat → Int} {T : Int} (h : gdB v nl L fp fa fw lg nb B T = true) : v.Ok ∧ (nl = v.m ∧ ∀ i, i < v.m → lieB v.J L i = true) ∧ Trn v fp fa fw lg nb B ∧ 0 ≤ T ∧ T ≤ 10000 := by
 rw [gdB, Bool.and_eq_true, Bool.and_eq_true] at h
 refine ⟨nvOk (lies_ok h.1.1), lies_parts h.1.1, trn_of h.1.2, ?_⟩
 have h9 := h.2
 simp only [inB, Bool.and_eq_true, decide_eq_true_eq] at h9
 exact h9
theorem MvAns.le {v : Nv} {nl : Nat} {L : Nat → Int} {fp fa fw lg : Int} {nb : Nat} {B : Nat → Nat → Int} {T : Int} {x : MvX} (h : MvAns v nl L fp fa fw lg nb B T x) : x.n ≤ 200 ∧ x.no ≤ 10000 := by
 cases hg : gdB v nl L fp fa fw lg nb B T with
 | false =>
  rw [h.2 hg]
  exact ⟨Nat.zero_le _, Nat.zero_le _⟩
 | true =>
  obtain ⟨r, c, j, h1, rfl⟩ := h.1 hg
  obtain ⟨ok, hl, ht, hT⟩ := gd_parts hg
  obtain ⟨fq, rfl, _⟩ := spot_nat ht.spot
  rw [Int.toNat_natCast] at h1
  cases hb : railedB v L (fq : Int) fw nb B with
  | false =>
   obtain ⟨rfl, _, _⟩ := h1.2 hb
   exact ⟨ht.nb1, Nat.zero_le _⟩
  | true =>
   have h5 := mvTo_le ok hl.2 (h1.1 hb) ht ⟨by simp [mv0], hT.1⟩
   exact ⟨h5.1, by show r.no ≤ 10000; have := h5.2; omega⟩
def MoR (w : World) (v : Nv) (nl : Nat) (L : Nat → Int) (fp fa fw lg : Int) (nb : Nat) (B : Nat → Nat → Int) (T : Int) (e : Ending) (w' : World) : Prop := ∃ (x : MvX) (a1 : Option Addr) (c1 : Nat) (a2 : Option Addr) (c2 : Nat), MvAns v nl L fp fa fw lg nb B T x ∧ e = .returned (.agg #[.int .i64 x.c, .int .i64 x.far, .int .i64 x.j, .int .i64 x.p, .int .i64 x.a, .int .i64 x.w, .int .i64 x.l, .slice a1 x.n c1, .slice a2 x.no c2]) ∧ VOwn w.heap.size 74 2 w' (.slice a1 x.n c1) x.n (intF x.F) ∧ VOwn w.heap.size 112 3 w' (.slice a2 x.no c2) x.no (intF x.O) ∧ Below w.heap.size w w'
theorem mo_no {w : World} {v : Nv} {nl : Nat} {L : Nat → Int} {fp fa fw lg : Int} {nb : Nat} {B : Nat → Nat → Int} {T : Int} {w' : World} (h : gdB v nl L fp fa fw lg nb B T = false) (hb : Below w.heap.size w w') : MoR w v nl L fp fa fw lg nb B T (.returned (.agg #[.int .i64 5, .int .i64 0, .int .i64 0, .int .i64 0, .int .i64 0, .int .i64 0, .int .i64 0, .slice none 0 0, .slice none 0 0])) w' :=
 ⟨mvX0, none, 0, none, 0, ⟨fun h1 => absurd (h1.symm.trans h) (by decide), fun _ => rfl⟩, rfl, VOwn.nil _ _ _ _ _, VOwn.nil _ _ _ _ _, hb⟩
theorem mo_yes {w : World} {v : Nv} {L : Nat → Int} {fq : Nat} {fa fw lg : Int} {nb : Nat} {B : Nat → Nat → Int} {T : Int} {w' : World} {r : Mv} {c j : Int} {a1 : Option Addr} {c1 : Nat} {a2 : Option Addr} {c2 : Nat} (h : gdB v v.m L (fq : Int) fa fw lg nb B T = true) (hF : MvF v L lg T (mv0 fq fa fw nb B) r c j) (h1 : VOwn w.heap.size 74 2 w' (.slice a1 r.nb c1) r.nb (intF r.B)) (h2 : VOwn w.heap.size 112 3 w' (.slice a2 r.no c2) r.no (intF r.O)) (hb : Below w.heap.size w w') : MoR w v v.m L (fq : Int) fa fw lg nb B T (.returned (.agg #[.int .i64 c, .int .i64 r.far, .int .i64 j, .int .i64 (r.fp : Int), .int .i64 r.fa, .int .i64 r.fw, .int .i64 lg, .slice a1 r.nb c1, .slice a2 r.no c2])) w' :=
 ⟨mvXr lg r c j, a1, c1, a2, c2, ⟨fun _ => ⟨r, c, j, by rw [Int.toNat_natCast]; exact hF, rfl⟩, fun h0 => absurd (h0.symm.trans h) (by decide)⟩, rfl, h1, h2, hb⟩
end Go.Proofs.YtjhmaofjmalglaaGreat
