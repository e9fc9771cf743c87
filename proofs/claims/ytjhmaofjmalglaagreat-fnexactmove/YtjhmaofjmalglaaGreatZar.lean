import Derived.Test.YtjhmaofjmalglaaGreatZaf
import Derived.Test.YtjhmaofjmalglaaGreatZao
import Derived.Test.YtjhmaofjmalglaaGreatZag
namespace Go.Proofs.YtjhmaofjmalglaaGreat
open Go.RowKit
def NsAt (c C : Nat) (w : World) (a : Option Addr) (n : Nat) (F : Nat → Nat → Int) : Prop :=
 0 < n → ∃ b off, a = some ⟨b, off, none⟩ ∧ C ≤ b ∧ b < w.heap.size ∧ ∀ i, i < n → ∀ j, j < c → w.cell? ⟨b, off + i * c + j, none⟩ = some (.int .i64 (F i j))
theorem NsAt.keep {c C C' : Nat} {w w' : World} {a : Option Addr} {n : Nat} {F : Nat → Nat → Int} (h : NsAt c C w a n F) (hC : C' ≤ C) (hs : w.heap.size ≤ w'.heap.size)
  (hk : ∀ b, C ≤ b → b < w.heap.size → w'.heap[b]? = w.heap[b]?) : NsAt c C' w' a n F := by
 intro h0
 obtain ⟨b, off, ha, hge, hlt, hc⟩ := h h0
 exact ⟨b, off, ha, by omega, by omega, fun i hi j hj => (World.cell?_of_block (w := w) (hk b hge hlt)).trans (hc i hi j hj)⟩
theorem NsAt.mono {c C C' : Nat} {w w' : World} {a : Option Addr} {n : Nat} {F : Nat → Nat → Int} {B : Nat} (h : NsAt c C w a n F) (hC : C' ≤ C) (hb : Below B w w') (hB : w.heap.size ≤ B) : NsAt c C' w' a n F :=
 h.keep hC hb.size fun b _ hlt => hb.block b (by omega)
theorem ns_new {w : World} {c : Array Value} {e : TypeId} {n : Nat} {F : Nat → Nat → Int} {q C : Nat} (hq : w.heap.size = q) (hC : C ≤ q) (h : ∀ i, i < n → c[i]? = some (.int .i64 (F i 0))) : NsAt 1 C (w.alloc (.cells c e)) (some ⟨q, 0, none⟩) n F := by
 subst hq
 intro _
 refine ⟨w.heap.size, 0, rfl, hC, by simp, fun i hi j hj => ?_⟩
 obtain rfl : j = 0 := by omega
 rw [World.cell?_alloc_at _ _ _ _ rfl]
 simpa using h i hi
theorem overPlain (q : Nat) (w : World) (hq : q < 2) :
  Calls Tryz.prog 174 #[.agg #[], .int .i64 (q : Int)] w fun e w' => ∃ a cap, e = .returned (.slice a (acrossF 2 q).length cap) ∧ NsAt 1 w.heap.size w' a (acrossF 2 q).length (fun i _ => (((acrossF 2 q).getD i 0 : Nat) : Int)) ∧ Below w.heap.size w w' := by
 rcases (show q = 0 ∨ q = 1 by omega) with rfl | rfl
 ·
  go_enter Tryz.func174, Tryz.ntmps174
  go_wp2_with fail
  go_ret
  exact ⟨some ⟨w.heap.size + 1, 0, none⟩, 1, rfl, ns_new (by simp) (by omega) (fun i hi => by
   have hi' : i < 1 := hi
   rcases (show i = 0 by omega) with rfl <;> rfl), bel2 _ _ _⟩
 ·
  go_enter Tryz.func174, Tryz.ntmps174
  go_wp2_with fail
  go_ret
  exact ⟨some ⟨w.heap.size + 1, 0, none⟩, 1, rfl, ns_new (by simp) (by omega) (fun i hi => by
   have hi' : i < 1 := hi
   rcases (show i = 0 by omega) with rfl <;> rfl), bel2 _ _ _⟩
theorem overSwitch (q : Nat) (w : World) (hq : q < 3) :
  Calls Tryz.prog 170 #[.agg #[], .int .i64 (q : Int)] w fun e w' => ∃ a cap, e = .returned (.slice a (acrossF 3 q).length cap) ∧ NsAt 1 w.heap.size w' a (acrossF 3 q).length (fun i _ => (((acrossF 3 q).getD i 0 : Nat) : Int)) ∧ Below w.heap.size w w' := by
 rcases (show q = 0 ∨ q = 1 ∨ q = 2 by omega) with rfl | rfl | rfl
 ·
  go_enter Tryz.func170, Tryz.ntmps170
  go_wp2_with fail
  go_ret
  exact ⟨some ⟨w.heap.size + 1, 0, none⟩, 2, rfl, ns_new (by simp) (by omega) (fun i hi => by
   have hi' : i < 2 := hi
   rcases (show i = 0 ∨ i = 1 by omega) with rfl | rfl <;> rfl), bel2 _ _ _⟩
 ·
  go_enter Tryz.func170, Tryz.ntmps170
  go_wp2_with fail
  go_ret
  exact ⟨some ⟨w.heap.size + 1, 0, none⟩, 1, rfl, ns_new (by simp) (by omega) (fun i hi => by
   have hi' : i < 1 := hi
   rcases (show i = 0 by omega) with rfl <;> rfl), bel2 _ _ _⟩
 ·
  go_enter Tryz.func170, Tryz.ntmps170
  go_wp2_with fail
  go_ret
  exact ⟨some ⟨w.heap.size + 1, 0, none⟩, 1, rfl, ns_new (by simp) (by omega) (fun i hi => by
   have hi' : i < 1 := hi
   rcases (show i = 0 by omega) with rfl <;> rfl), bel2 _ _ _⟩
theorem overCross (q : Nat) (w : World) (hq : q < 4) :
  Calls Tryz.prog 176 #[.agg #[], .int .i64 (q : Int)] w fun e w' => ∃ a cap, e = .returned (.slice a (acrossF 4 q).length cap) ∧ NsAt 1 w.heap.size w' a (acrossF 4 q).length (fun i _ => (((acrossF 4 q).getD i 0 : Nat) : Int)) ∧ Below w.heap.size w w' := by
 rcases (show q = 0 ∨ q = 1 ∨ q = 2 ∨ q = 3 by omega) with rfl | rfl | rfl | rfl
 ·
  have hx : bits .xor .i64 (0 : Int) 1 = 1 := by decide
  have hx2 : bits .xor .i64 ((0 : Nat) : Int) 1 = 1 := by decide
  go_enter Tryz.func176, Tryz.ntmps176
  go_wp2_with fail
  go_ret
  exact ⟨some ⟨w.heap.size + 1, 0, none⟩, 1, rfl, ns_new (by simp) (by omega) (fun i hi => by
   have hi' : i < 1 := hi
   rcases (show i = 0 by omega) with rfl <;> rfl), bel2 _ _ _⟩
 ·
  have hx : bits .xor .i64 (1 : Int) 1 = 0 := by decide
  have hx2 : bits .xor .i64 ((1 : Nat) : Int) 1 = 0 := by decide
  go_enter Tryz.func176, Tryz.ntmps176
  go_wp2_with fail
  go_ret
  exact ⟨some ⟨w.heap.size + 1, 0, none⟩, 1, rfl, ns_new (by simp) (by omega) (fun i hi => by
   have hi' : i < 1 := hi
   rcases (show i = 0 by omega) with rfl <;> rfl), bel2 _ _ _⟩
 ·
  have hx : bits .xor .i64 (2 : Int) 1 = 3 := by decide
  have hx2 : bits .xor .i64 ((2 : Nat) : Int) 1 = 3 := by decide
  go_enter Tryz.func176, Tryz.ntmps176
  go_wp2_with fail
  go_ret
  exact ⟨some ⟨w.heap.size + 1, 0, none⟩, 1, rfl, ns_new (by simp) (by omega) (fun i hi => by
   have hi' : i < 1 := hi
   rcases (show i = 0 by omega) with rfl <;> rfl), bel2 _ _ _⟩
 ·
  have hx : bits .xor .i64 (3 : Int) 1 = 2 := by decide
  have hx2 : bits .xor .i64 ((3 : Nat) : Int) 1 = 2 := by decide
  go_enter Tryz.func176, Tryz.ntmps176
  go_wp2_with fail
  go_ret
  exact ⟨some ⟨w.heap.size + 1, 0, none⟩, 1, rfl, ns_new (by simp) (by omega) (fun i hi => by
   have hi' : i < 1 := hi
   rcases (show i = 0 by omega) with rfl <;> rfl), bel2 _ _ _⟩
theorem overBuffer (q : Nat) (w : World) :
  Calls Tryz.prog 172 #[.agg #[], .int .i64 (q : Int)] w fun e w' => e = .returned (.slice none 0 0) ∧ Below w.heap.size w w' := by
 go_enter Tryz.func172, Tryz.ntmps172
 go_wp2_with fail
 go_ret
 exact ⟨rfl, bel1 _ _⟩
theorem away101 (pc : Int) (sd : Int) (w : World) (hs : sd = 0 ∨ sd = 1) :
  Calls Tryz.prog 128 #[.agg #[.int .i64 pc, .int .i64 sd]] w fun e w' => e = .returned (.agg #[.int .i64 pc, .int .i64 (wayOf ⟨pc, sd⟩)]) ∧ Below w.heap.size w w' := by
 rcases hs with rfl | rfl
 ·
  go_enter Tryz.func128, Tryz.ntmps128
  go_wp2
  exact bodyPost_ret (v := .agg #[.int .i64 pc, .int .i64 1]) (by simp [results, Tryz.results128, go_sem]) rfl ⟨rfl, bel2 _ _ _⟩
 ·
  go_enter Tryz.func128, Tryz.ntmps128
  go_wp2
  exact bodyPost_ret (v := .agg #[.int .i64 pc, .int .i64 (-1)]) (by simp [results, Tryz.results128, go_sem]) rfl ⟨rfl, bel2 _ _ _⟩
end Go.Proofs.YtjhmaofjmalglaaGreat
