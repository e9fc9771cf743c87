import Derived.Test.YtjhmaofjmalglaaGreatZbs
import Derived.Test.YtjhmaofjmalglaaGreatZbl
import Derived.Test.YtjhmaofjmalglaaGreatZbv
import Derived.Test.YtjhmaofjmalglaaGreatZan
import Derived.Test.YtjhmaofjmalglaaGreatZbm
namespace Go.Proofs.YtjhmaofjmalglaaGreat
open Go.RowKit Go.Lib
theorem own_mark2 {B n c m B2 n2 c2 m2 : Nat} {T T2 : TypeId} {w : World} {a a2 : Option Addr} {F F2 : Nat → Nat → Value} (h : VOwn B T m w (.slice a n c) n F) (h2 : VOwn B2 T2 m2 w (.slice a2 n2 c2) n2 F2) (hB : B ≤ w.heap.size) (hB2 : B2 ≤ w.heap.size) (hT : T ≠ T2) : ∃ g g2, ((0 < n → a = some ⟨g, 0, none⟩) ∧ (0 < n → g < w.heap.size) ∧ B ≤ g ∧ (∀ o, 0 ≤ o → o < 0 + n * m → (∃ v, w.cell? ⟨g, o, none⟩ = some v) ∧ w.frozen? ⟨g, o, none⟩ = false) ∧ ∀ q T' xs, T' ≠ T → Box w q T' xs → q ≠ g) ∧ ((0 < n2 → a2 = some ⟨g2, 0, none⟩) ∧ (0 < n2 → g2 < w.heap.size) ∧ B2 ≤ g2 ∧ (∀ o, 0 ≤ o → o < 0 + n2 * m2 → (∃ v, w.cell? ⟨g2, o, none⟩ = some v) ∧ w.frozen? ⟨g2, o, none⟩ = false) ∧ ∀ q T' xs, T' ≠ T2 → Box w q T' xs → q ≠ g2) ∧ g ≠ g2 ∧ g ≠ w.heap.size := by
 by_cases hn : 0 < n
 ·
  obtain ⟨g, h1⟩ := own_markG h hB
  have hg := h1.2.1 hn
  by_cases hn2 : 0 < n2
  ·
   obtain ⟨g2, h3⟩ := own_markG h2 hB2
   refine ⟨g, g2, h1, h3, fun e => ?_, Nat.ne_of_lt hg⟩
   have e1 := h1.1 hn
   have e2 := h3.1 hn2
   subst e1 e2
   exact h.apart h2 hT (g := g) rfl (by rw [e]; rfl)
  ·
   refine ⟨g, w.heap.size, h1, ⟨fun h => absurd h hn2, fun h => absurd h hn2, hB2, fun o _ ho => ?_, fun q T' xs _ hb => Nat.ne_of_lt hb.lt⟩, Nat.ne_of_lt hg, Nat.ne_of_lt hg⟩
   have : n2 = 0 := by omega
   subst this
   omega
 ·
  have h0 : n = 0 := by omega
  subst h0
  have hp : (0 < 0 → a = some ⟨w.heap.size + 1, 0, none⟩) ∧ (0 < 0 → w.heap.size + 1 < w.heap.size) ∧ B ≤ w.heap.size + 1 ∧ (∀ o, 0 ≤ o → o < 0 + 0 * m → (∃ v, w.cell? ⟨w.heap.size + 1, o, none⟩ = some v) ∧ w.frozen? ⟨w.heap.size + 1, o, none⟩ = false) ∧ ∀ q T' xs, T' ≠ T → Box w q T' xs → q ≠ w.heap.size + 1 := ⟨fun h => absurd h (Nat.lt_irrefl _), fun h => absurd h (Nat.lt_irrefl _), Nat.le_succ_of_le hB, fun o _ ho => absurd ho (by omega), fun q T' xs _ hb => by have := hb.lt; omega⟩
  by_cases hn2 : 0 < n2
  ·
   obtain ⟨g2, h3⟩ := own_markG h2 hB2
   have hg := h3.2.1 hn2
   exact ⟨w.heap.size + 1, g2, hp, h3, by omega, by omega⟩
  ·
   refine ⟨w.heap.size + 1, w.heap.size, hp, ⟨fun h => absurd h hn2, fun h => absurd h hn2, hB2, fun o _ ho => ?_, fun q T' xs _ hb => Nat.ne_of_lt hb.lt⟩, by omega, by omega⟩
   have : n2 = 0 := by omega
   subst this
   omega
set_option maxRecDepth 100000 in
set_option maxHeartbeats 16000000 in
theorem eqMoved26 (x : MvX) (a1 b1 a2 b2 : Option Addr) (c1 d1 c2 d2 : Nat) (w : World) (hn : x.n ≤ 1048576) (hm : x.no ≤ 1048576) (h1 : NsAt 2 0 w a1 x.n x.F) (h2 : NsAt 2 0 w b1 x.n x.F) (h3 : VsAt 3 0 w a2 x.no (intF x.O)) (h4 : VsAt 3 0 w b2 x.no (intF x.O)) :
  Calls Tryz.prog 26 #[.agg #[.int .i64 x.c, .int .i64 x.far, .int .i64 x.j, .int .i64 x.p, .int .i64 x.a, .int .i64 x.w, .int .i64 x.l, .slice a1 x.n c1, .slice a2 x.no c2], .agg #[.int .i64 x.c, .int .i64 x.far, .int .i64 x.j, .int .i64 x.p, .int .i64 x.a, .int .i64 x.w, .int .i64 x.l, .slice b1 x.n d1, .slice b2 x.no d2]] w fun e w' => e = .returned (.bool true) ∧ Below w.heap.size w w' := by
 have H : Hid (NsAt 2 0 w a1 x.n x.F ∧ NsAt 2 0 w b1 x.n x.F ∧ VsAt 3 0 w a2 x.no (intF x.O) ∧ VsAt 3 0 w b2 x.no (intF x.O)) := ⟨h1, h2, h3, h4⟩
 have S0 : Hid (Sts [kBx (w.heap.size + 1) 61 #[.int .i64 x.c, .int .i64 x.far, .int .i64 x.j, .int .i64 x.p, .int .i64 x.a, .int .i64 x.w, .int .i64 x.l, .slice b1 x.n d1, .slice b2 x.no d2], kBx (w.heap.size) 61 #[.int .i64 x.c, .int .i64 x.far, .int .i64 x.j, .int .i64 x.p, .int .i64 x.a, .int .i64 x.w, .int .i64 x.l, .slice a1 x.n c1, .slice a2 x.no c2], kBn w.heap.size w] ((w.alloc (.cells #[.int .i64 x.c, .int .i64 x.far, .int .i64 x.j, .int .i64 x.p, .int .i64 x.a, .int .i64 x.w, .int .i64 x.l, .slice a1 x.n c1, .slice a2 x.no c2] 61)).alloc (.cells #[.int .i64 x.c, .int .i64 x.far, .int .i64 x.j, .int .i64 x.p, .int .i64 x.a, .int .i64 x.w, .int .i64 x.l, .slice b1 x.n d1, .slice b2 x.no d2] 61))) := ⟨by show Box _ _ _ _; have := (Box.new (w.alloc (.cells #[.int .i64 x.c, .int .i64 x.far, .int .i64 x.j, .int .i64 x.p, .int .i64 x.a, .int .i64 x.w, .int .i64 x.l, .slice a1 x.n c1, .slice a2 x.no c2] 61)) 61 #[.int .i64 x.c, .int .i64 x.far, .int .i64 x.j, .int .i64 x.p, .int .i64 x.a, .int .i64 x.w, .int .i64 x.l, .slice b1 x.n d1, .slice b2 x.no d2]); simpa using this, ((Box.new w 61 #[.int .i64 x.c, .int .i64 x.far, .int .i64 x.j, .int .i64 x.p, .int .i64 x.a, .int .i64 x.w, .int .i64 x.l, .slice a1 x.n c1, .slice a2 x.no c2]).alloc (.cells #[.int .i64 x.c, .int .i64 x.far, .int .i64 x.j, .int .i64 x.p, .int .i64 x.a, .int .i64 x.w, .int .i64 x.l, .slice b1 x.n d1, .slice b2 x.no d2] 61)), ⟨bel2 _ _ _, rfl⟩, trivial⟩
 clear h1 h2 h3 h4
 go_enter Tryz.func26, Tryz.ntmps26
 go_upto_region 1 with fail
 generalize ((w.alloc (.cells #[.int .i64 x.c, .int .i64 x.far, .int .i64 x.j, .int .i64 x.p, .int .i64 x.a, .int .i64 x.w, .int .i64 x.l, .slice a1 x.n c1, .slice a2 x.no c2] 61)).alloc (.cells #[.int .i64 x.c, .int .i64 x.far, .int .i64 x.j, .int .i64 x.p, .int .i64 x.a, .int .i64 x.w, .int .i64 x.l, .slice b1 x.n d1, .slice b2 x.no d2] 61)) = V0 at S0 ⊢
 have x0 := (gB S0.out.2.1).cel 0
 have x1 := (gB S0.out.2.1).cel 1
 have x2 := (gB S0.out.2.1).cel 2
 have x3 := (gB S0.out.2.1).cel 3
 have x4 := (gB S0.out.2.1).cel 4
 have x5 := (gB S0.out.2.1).cel 5
 have x6 := (gB S0.out.2.1).cel 6
 have x7 := (gB S0.out.2.1).cel 7
 have x8 := (gB S0.out.2.1).cel 8
 have y0 := (gB S0.out.1).cel 0
 have y1 := (gB S0.out.1).cel 1
 have y2 := (gB S0.out.1).cel 2
 have y3 := (gB S0.out.1).cel 3
 have y4 := (gB S0.out.1).cel 4
 have y5 := (gB S0.out.1).cel 5
 have y6 := (gB S0.out.1).cel 6
 have y7 := (gB S0.out.1).cel 7
 have y8 := (gB S0.out.1).cel 8
 go_wp2_with fail
 clear x0 x1 x2 x3 x4 x5 x6 x7 x8 y0 y1 y2 y3 y4 y5 y6 y7 y8
 refine (eqTrain18 x.p x.a x.w x.l x.n x.F a1 b1 c1 d1 V0 hn (H.out.1.mono nr (gL S0.out.2.2.1) nr) (H.out.2.1.mono nr (gL S0.out.2.2.1) nr)).mono ?_
 rintro e w1 ⟨rfl, hb⟩
 have S1 := stm S0 hb
 clear hb S0
 have x0 := (gB S1.out.2.1).cel 0
 have x1 := (gB S1.out.2.1).cel 1
 have x2 := (gB S1.out.2.1).cel 2
 have x3 := (gB S1.out.2.1).cel 3
 have x4 := (gB S1.out.2.1).cel 4
 have x5 := (gB S1.out.2.1).cel 5
 have x6 := (gB S1.out.2.1).cel 6
 have x7 := (gB S1.out.2.1).cel 7
 have x8 := (gB S1.out.2.1).cel 8
 have y0 := (gB S1.out.1).cel 0
 have y1 := (gB S1.out.1).cel 1
 have y2 := (gB S1.out.1).cel 2
 have y3 := (gB S1.out.1).cel 3
 have y4 := (gB S1.out.1).cel 4
 have y5 := (gB S1.out.1).cel 5
 have y6 := (gB S1.out.1).cel 6
 have y7 := (gB S1.out.1).cel 7
 have y8 := (gB S1.out.1).cel 8
 go_wp2_with fail
 clear x0 x1 x2 x3 x4 x5 x6 x7 x8 y0 y1 y2 y3 y4 y5 y6 y7 y8
 refine (eqPartS11 a2 b2 x.no c2 d2 x.O w1 hm (H.out.2.2.1.mono nr (gL S1.out.2.2.1) nr) (H.out.2.2.2.mono nr (gL S1.out.2.2.1) nr)).mono ?_
 rintro e w2 ⟨rfl, hb⟩
 have S2 := stm S1 hb
 clear hb S1
 go_wp2_with fail
 go_ret
 exact ⟨rfl, (gL S2.out.2.2.1)⟩
end Go.Proofs.YtjhmaofjmalglaaGreat
