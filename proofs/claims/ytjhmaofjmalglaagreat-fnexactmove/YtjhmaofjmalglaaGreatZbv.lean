import Derived.Test.YtjhmaofjmalglaaGreatZbu
import Derived.Test.YtjhmaofjmalglaaGreatZbs
import Derived.Test.YtjhmaofjmalglaaGreatZbh
import Derived.Test.YtjhmaofjmalglaaGreatZbq
import Derived.Test.YtjhmaofjmalglaaGreatZbm
import Derived.Test.YtjhmaofjmalglaaGreatZbl
import Derived.Test.YtjhmaofjmalglaaGreatZba
import Derived.Test.YtjhmaofjmalglaaGreatZag
namespace Go.Proofs.YtjhmaofjmalglaaGreat
open Go.RowKit Go.Lib
def LstQ (M : Nat) (w : World) (bg bo nb bk : Nat) (B : Nat → Nat → Int) : Prop := Lst w bg bo nb B ∧ nb ≤ bk ∧ (bg < M ∨ ∃ xs, Box w bg 74 xs)
theorem LstQ.mono {M : Nat} {w w' : World} {bg bo nb bk N : Nat} {B : Nat → Nat → Int} (h : LstQ M w bg bo nb bk B) (hb : Below N w w') (hN : w.heap.size ≤ N) : LstQ M w' bg bo nb bk B :=
 ⟨h.1.mono hb hN, h.2.1, h.2.2.imp (fun h => h) fun ⟨xs, hx⟩ => ⟨xs, hx.mono hb hN⟩⟩
theorem LstQ.drew {M : Nat} {w : World} {bg bo nb bk : Nat} {B : Nat → Nat → Int} (h : LstQ M w bg bo nb bk B) : LstQ M w.drew bg bo nb bk B := h.mono (Below.refl _ _).drew nr
theorem LstQ.fr {M : Nat} {w w' : World} {bg bo nb bk : Nat} {B : Nat → Nat → Int} {X : Nat → Prop} (h : LstQ M w bg bo nb bk B) (hf : Fr X w w') (hx : ¬ X bg) : LstQ M w' bg bo nb bk B :=
 ⟨h.1.fr hf hx, h.2.1, h.2.2.imp (fun h => h) fun ⟨xs, h2⟩ => ⟨xs, h2.fr hf hx⟩⟩
theorem LstQ.ne {M : Nat} {w : World} {bg bo nb bk : Nat} {B : Nat → Nat → Int} (h : LstQ M w bg bo nb bk B) {q : Nat} {T : TypeId} {ys : Array Value} (hq : M ≤ q) (hb : Box w q T ys) (hT : T ≠ 74) : bg ≠ q := by
 rcases h.2.2 with h | ⟨xs, hx⟩
 ·
  omega
 ·
  exact box_ne hx hb (Ne.symm hT)
theorem LstQ.put {M : Nat} {w : World} {bg bo nb bk : Nat} {B : Nat → Nat → Int} (h : LstQ M w bg bo nb bk B) {q : Nat} (hne : bg ≠ q) (j : Nat) (u : Value) : LstQ M (w.setCell ⟨q, j, none⟩ u) bg bo nb bk B :=
 h.fr (X := fun x => x = q) ((Fr.refl _ _).put j u) hne
theorem LstQ.grown {M N : Nat} {w w2 : World} {bg bo nb bk n c : Nat} {B : Nat → Nat → Int} {e : TypeId} {vo : Value} {G : Nat → Nat → Value} (h : LstQ M w bg bo nb bk B) (ho : VOwn N e c w vo n G) (hM : M ≤ N) (he : e ≠ 74) (hg : w.grownBy w2 vo.ownBlock) : LstQ M w2 bg bo nb bk B := by
 have hne : vo.ownBlock ≠ some bg := fun hh => by
  rcases h.2.2 with h2 | ⟨xs, hx⟩
  ·
   have := (ho.lt hh).1; omega
  ·
   exact ho.off hx (Ne.symm he) hh rfl
 have hbk : w2.heap[bg]? = w.heap[bg]? := hg.block bg h.1.1 (fun e => hne e.symm)
 refine ⟨⟨Nat.lt_of_lt_of_le h.1.1 hg.size, fun i hi j hj => (World.cell?_of_block (a := ⟨bg, bo + i * 2 + j, none⟩) hbk).trans (h.1.2 i hi j hj)⟩, h.2.1, h.2.2.imp (fun h => h) fun ⟨xs, hx⟩ => ⟨xs, hx.keep hbk⟩⟩
theorem LstQ.own {M N : Nat} {w : World} {g n c : Nat} {B : Nat → Nat → Int} (h : VOwn N 74 2 w (.slice (some ⟨g, 0, none⟩) n c) n (intF B)) : LstQ M w g 0 n c B := by
 refine ⟨Lst.own h, ?_, .inr (h.box rfl)⟩
 rcases h with ⟨h1, _⟩ | ⟨g', cap, cur, h1, h2, h3, h4, h5, h6, h7⟩
 ·
  cases h1
 ·
  cases h1; exact h4
theorem LstQ.take {M : Nat} {w : World} {bg bo nb bk z : Nat} {B : Nat → Nat → Int} (h : LstQ M w bg bo nb bk B) (hz : z ≤ nb) : LstQ M w bg bo z bk B := ⟨h.1.take hz, by have := h.2.1; omega, h.2.2⟩
def kLq (M bg bo nb bk : Nat) (B : Nat → Nat → Int) : Kp := ⟨fun W => LstQ M W bg bo nb bk B, fun h hb => h.mono hb nr⟩
theorem gQ {M bg bo nb bk : Nat} {B : Nat → Nat → Int} {W : World} (h : (kLq M bg bo nb bk B).p W) : LstQ M W bg bo nb bk B := h
end Go.Proofs.YtjhmaofjmalglaaGreat
namespace Go.Proofs.YtjhmaofjmalglaaGreat
open Go.RowKit Go.Lib
set_option maxRecDepth 100000 in
set_option maxHeartbeats 4000000 in
theorem part49 {v : Nv} (ok : v.Ok) (pa : Option Addr) (pc : Nat) (ja : Option Addr) (jc : Nat) (sp : Nat) (wy a b : Int) (w : World) (hspn : sp < v.n) (hw : wy = 1 ∨ wy = -1) (ha : 0 ≤ a ∧ a ≤ 10000000) (hb0 : 0 ≤ b ∧ b ≤ 10000000) (hP : PsAt 0 w pa v.n v.P) :
  Calls Tryz.prog 99 #[.agg #[.slice pa v.n pc, .slice ja v.m jc], .int .i64 (sp : Int), .int .i64 wy, .int .i64 a, .int .i64 b] w fun e w' => e = .returned (.agg #[.int .i64 (sp : Int), .int .i64 (pfA (v.P sp).ln wy a b), .int .i64 (pfB (v.P sp).ln wy a b)]) ∧ Below w.heap.size w w' := by
 obtain ⟨pb, po, rfl, _, hb, hc⟩ := hP (by omega)
 have HC1 : Hid (pb < w.heap.size ∧ w.cell? ⟨pb, po + sp * 4 + 1, none⟩ = some (.int .i64 (v.P sp).ln)) := ⟨hb, (hc sp hspn).2.1⟩
 have hpi : (sp : Int) < (v.n : Int) := by omega
 have hp0 : (0 : Int) ≤ (sp : Int) := by omega
 have hl := ok.ln sp hspn
 have hn := ok.n1
 have hwa : IntKind.i64.wrap ((v.P sp).ln - a) = (v.P sp).ln - a := by rw [IntKind.wrap_i64]; omega
 have hwb : IntKind.i64.wrap ((v.P sp).ln - b) = (v.P sp).ln - b := by rw [IntKind.wrap_i64]; omega
 have S0 : Hid (Below w.heap.size w ((w.alloc (.cells #[.slice (some ⟨pb, po, none⟩) v.n pc, .slice ja v.m jc] 40)).alloc (.cells #[.int .i64 0, .int .i64 0, .int .i64 0] 112)) ∧ Box ((w.alloc (.cells #[.slice (some ⟨pb, po, none⟩) v.n pc, .slice ja v.m jc] 40)).alloc (.cells #[.int .i64 0, .int .i64 0, .int .i64 0] 112)) (w.heap.size) 40 #[.slice (some ⟨pb, po, none⟩) v.n pc, .slice ja v.m jc] ∧ Box ((w.alloc (.cells #[.slice (some ⟨pb, po, none⟩) v.n pc, .slice ja v.m jc] 40)).alloc (.cells #[.int .i64 0, .int .i64 0, .int .i64 0] 112)) (w.heap.size + 1) 112 #[.int .i64 0, .int .i64 0, .int .i64 0]) := ⟨bel2 _ _ _, (Box.new _ _ _).alloc _, by have := Box.new (w.alloc (.cells #[.slice (some ⟨pb, po, none⟩) v.n pc, .slice ja v.m jc] 40)) 112 #[.int .i64 0, .int .i64 0, .int .i64 0]; simpa using this⟩
 clear hc hP ok hb
 rcases hw with rfl | rfl
 ·
  go_enter Tryz.func99, Tryz.ntmps99
  go_upto_region 1 with fail
  generalize ((w.alloc (.cells #[.slice (some ⟨pb, po, none⟩) v.n pc, .slice ja v.m jc] 40)).alloc (.cells #[.int .i64 0, .int .i64 0, .int .i64 0] 112)) = V0 at S0 ⊢
  have z0 := S0.out.2.2.cel 0
  have z1 := S0.out.2.2.cel 1
  have z2 := S0.out.2.2.cel 2
  have q0 := S0.out.2.2.free 0
  have q1 := S0.out.2.2.free 1
  have q2 := S0.out.2.2.free 2
  have MF : Hid (Below w.heap.size w (((V0.setCell ⟨w.heap.size + 1, 0, none⟩ (.int .i64 (sp : Int))).setCell ⟨w.heap.size + 1, 1, none⟩ (.int .i64 a)).setCell ⟨w.heap.size + 1, 2, none⟩ (.int .i64 b)) ∧ Box (((V0.setCell ⟨w.heap.size + 1, 0, none⟩ (.int .i64 (sp : Int))).setCell ⟨w.heap.size + 1, 1, none⟩ (.int .i64 a)).setCell ⟨w.heap.size + 1, 2, none⟩ (.int .i64 b)) (w.heap.size + 1) 112 #[.int .i64 (sp : Int), .int .i64 a, .int .i64 b]) := ⟨(((S0.out.1.setCell (Nat.le_add_right _ 1) _).setCell (Nat.le_add_right _ 1) _).setCell (Nat.le_add_right _ 1) _), (((S0.out.2.2.set 0 (.int .i64 (sp : Int))).set 1 (.int .i64 a)).set 2 (.int .i64 b))⟩
  clear S0
  go_wp2_with fail
  clear z0 z1 z2 q0 q1 q2
  generalize (((V0.setCell ⟨w.heap.size + 1, 0, none⟩ (.int .i64 (sp : Int))).setCell ⟨w.heap.size + 1, 1, none⟩ (.int .i64 a)).setCell ⟨w.heap.size + 1, 2, none⟩ (.int .i64 b)) = W9 at MF ⊢
  have z0 := MF.out.2.cel 0
  have z1 := MF.out.2.cel 1
  have z2 := MF.out.2.cel 2
  exact bodyPost_ret (v := .agg #[.int .i64 (sp : Int), .int .i64 a, .int .i64 b]) (by simp [results, Tryz.results99, go_sem, z0, z1, z2]) rfl ⟨rfl, MF.out.1⟩
 ·
  go_enter Tryz.func99, Tryz.ntmps99
  go_upto_region 1 with fail
  generalize ((w.alloc (.cells #[.slice (some ⟨pb, po, none⟩) v.n pc, .slice ja v.m jc] 40)).alloc (.cells #[.int .i64 0, .int .i64 0, .int .i64 0] 112)) = V0 at S0 ⊢
  have n0 := S0.out.2.1.cel 0
  have c1 : V0.cell? ⟨pb, po + sp * 4 + 1, none⟩ = some (.int .i64 (v.P sp).ln) := cell_keep S0.out.1 HC1.out.1 HC1.out.2
  go_upto_region 5 with fail
  clear n0 c1
  have z0 := S0.out.2.2.cel 0
  have z1 := S0.out.2.2.cel 1
  have z2 := S0.out.2.2.cel 2
  have q0 := S0.out.2.2.free 0
  have q1 := S0.out.2.2.free 1
  have q2 := S0.out.2.2.free 2
  have MF : Hid (Below w.heap.size w (((V0.setCell ⟨w.heap.size + 1, 0, none⟩ (.int .i64 (sp : Int))).setCell ⟨w.heap.size + 1, 1, none⟩ (.int .i64 ((v.P sp).ln - b))).setCell ⟨w.heap.size + 1, 2, none⟩ (.int .i64 ((v.P sp).ln - a))) ∧ Box (((V0.setCell ⟨w.heap.size + 1, 0, none⟩ (.int .i64 (sp : Int))).setCell ⟨w.heap.size + 1, 1, none⟩ (.int .i64 ((v.P sp).ln - b))).setCell ⟨w.heap.size + 1, 2, none⟩ (.int .i64 ((v.P sp).ln - a))) (w.heap.size + 1) 112 #[.int .i64 (sp : Int), .int .i64 ((v.P sp).ln - b), .int .i64 ((v.P sp).ln - a)]) := ⟨(((S0.out.1.setCell (Nat.le_add_right _ 1) _).setCell (Nat.le_add_right _ 1) _).setCell (Nat.le_add_right _ 1) _), (((S0.out.2.2.set 0 (.int .i64 (sp : Int))).set 1 (.int .i64 ((v.P sp).ln - b))).set 2 (.int .i64 ((v.P sp).ln - a)))⟩
  clear S0
  go_wp2_with fail
  clear z0 z1 z2 q0 q1 q2
  generalize (((V0.setCell ⟨w.heap.size + 1, 0, none⟩ (.int .i64 (sp : Int))).setCell ⟨w.heap.size + 1, 1, none⟩ (.int .i64 ((v.P sp).ln - b))).setCell ⟨w.heap.size + 1, 2, none⟩ (.int .i64 ((v.P sp).ln - a))) = W9 at MF ⊢
  have z0 := MF.out.2.cel 0
  have z1 := MF.out.2.cel 1
  have z2 := MF.out.2.cel 2
  exact bodyPost_ret (v := .agg #[.int .i64 (sp : Int), .int .i64 ((v.P sp).ln - b), .int .i64 ((v.P sp).ln - a)]) (by simp [results, Tryz.results99, go_sem, z0, z1, z2]) rfl ⟨rfl, MF.out.1⟩
end Go.Proofs.YtjhmaofjmalglaaGreat
namespace Go.Proofs.YtjhmaofjmalglaaGreat
open Go.RowKit Go.Lib
theorem mvM_at {v : Nv} {T : Int} {c1 c3 c4 c5 : Option Value} (s : Mv) (h1 : c1 = some (.int .i64 s.far)) (h3 : c3 = some (.int .i64 (s.fp : Int))) (h4 : c4 = some (.int .i64 s.fa)) (h5 : c5 = some (.int .i64 s.fw)) : mvM v T c1 c3 c4 c5 = 2 * (T - s.far).toNat + (if mvR v s = 0 then 1 else 0) := by
 subst h1 h3 h4 h5
 have e : mvR v ⟨(intAt (some (.int .i64 (s.fp : Int)))).toNat, intAt (some (.int .i64 s.fa)), intAt (some (.int .i64 s.fw)), 0, fun _ _ => 0, 0, 0, fun _ _ => 0⟩ = mvR v s := by
  show (if s.fw = 1 then (v.P ((s.fp : Int)).toNat).ln - s.fa else s.fa) = _
  rw [Int.toNat_natCast]
  rfl
 unfold mvM
 rw [e]
 rfl
end Go.Proofs.YtjhmaofjmalglaaGreat
namespace Go.Proofs.YtjhmaofjmalglaaGreat
open Go.RowKit Go.Lib
theorem eqPart32 (a0 a1 a2 : Int) (w : World) :
  Calls Tryz.prog 117 #[.agg #[.int .i64 a0, .int .i64 a1, .int .i64 a2], .agg #[.int .i64 a0, .int .i64 a1, .int .i64 a2]] w fun e w' => e = .returned (.bool true) ∧ Below w.heap.size w w' := by
 go_enter Tryz.func117, Tryz.ntmps117
 go_wp2
 go_ret
 exact ⟨rfl, bel2 _ _ _⟩
set_option maxHeartbeats 1000000 in
theorem eqPartS11 (a a' : Option Addr) (n cap cap' : Nat) (F : Nat → Nat → Int) (w : World) (hn : n ≤ 1048576) (hE : VsAt 3 0 w a n (intF F)) (hE' : VsAt 3 0 w a' n (intF F)) :
  Calls Tryz.prog 70 #[.slice a n cap, .slice a' n cap'] w fun e w' => e = .returned (.bool true) ∧ Below w.heap.size w w' := by
 go_enter Tryz.func70, Tryz.ntmps70
 go_wp2_with fail
 go_loopw [5] (fun i wr => ∃ (k : Nat), k ≤ n ∧ i = .int .i64 k ∧ Below w.heap.size w wr) (fun i _ => n - (intOf i).toNat)
 case atStart => exact ⟨0, Nat.zero_le _, rfl, Below.refl _ _⟩
 case round =>
  obtain ⟨k, hk, rfl, hbel⟩ := hrel
  by_cases hlt : k < n
  ·
   obtain ⟨b, off, rfl, _, hb, hc⟩ := (hE.mono nr hbel nr) (by omega)
   obtain ⟨b', off', rfl, _, hb', hc'⟩ := (hE'.mono nr hbel nr) (by omega)
   have c0 : wr.cell? ⟨b, off + k * 3, none⟩ = some (.int .i64 (F k 0)) := hc k hlt 0 (by omega)
   have c1 : wr.cell? ⟨b, off + k * 3 + 1, none⟩ = some (.int .i64 (F k 1)) := hc k hlt 1 (by omega)
   have c2 : wr.cell? ⟨b, off + k * 3 + 2, none⟩ = some (.int .i64 (F k 2)) := hc k hlt 2 (by omega)
   have d0 : wr.cell? ⟨b', off' + k * 3, none⟩ = some (.int .i64 (F k 0)) := hc' k hlt 0 (by omega)
   have d1 : wr.cell? ⟨b', off' + k * 3 + 1, none⟩ = some (.int .i64 (F k 1)) := hc' k hlt 1 (by omega)
   have d2 : wr.cell? ⟨b', off' + k * 3 + 2, none⟩ = some (.int .i64 (F k 2)) := hc' k hlt 2 (by omega)
   have hlt' : (k : Int) < (n : Int) := by omega
   have hk0 : (0 : Int) ≤ (k : Int) := by omega
   clear hc hc'
   go_wp2_with fail
   go_region_with (go_at_call 117; refine (eqPart32 (F k 0) (F k 1) (F k 2) _).mono ?_; rintro e w1 ⟨rfl, hb1⟩)
   all_goals
    go_wp2_with fail
    go_roundw
    case rel => exact ⟨k + 1, by omega, by go_num, hbel.drew.trans (hb1.mono hbel.drew.size)⟩
    case measure => simp [intOf]; omega
  ·
   go_wp2
   go_ret
   exact ⟨rfl, hbel⟩
end Go.Proofs.YtjhmaofjmalglaaGreat
