import Derived.Test.YtjhmaofjmalglaaGreatZbj
import Derived.Test.YtjhmaofjmalglaaGreatZbm
namespace Go.Proofs.YtjhmaofjmalglaaGreat
open Go.RowKit Go.Lib
def SoJ (w : World) (v : Nv) (L : Nat → Int) (p : Nat) (wa : Int) (e : Ending) (w' : World) : Prop := ∃ a b : Int, e = .returned (.tuple #[.agg #[.int .i64 a, .int .i64 b], .int .i64 (exitAt v L p wa).2, .int .i64 ((v.at (headE p wa)).1 : Int)]) ∧ ((exitAt v L p wa).2 = 0 → a = (nextAt v L p wa).pc ∧ b = (nextAt v L p wa).sd) ∧ Below w.heap.size w w'
set_option maxRecDepth 100000 in
set_option maxHeartbeats 16000000 in
theorem over36j {v : Nv} (ok : v.Ok) (pa : Option Addr) (pc : Nat) (ja : Option Addr) (jc : Nat) (p : Nat) (wa : Int) (la : Option Addr) (lc : Nat) (L : Nat → Int) (w : World) (hp : p < v.n) (hJ : JsAt 0 w ja v.m v.J) (hL : IsAt 0 w la v.m L) (hl : ∀ i, i < v.m → lieB v.J L i = true) :
  Calls Tryz.prog 36 #[.agg #[.slice pa v.n pc, .slice ja v.m jc], .slice la v.m lc, .agg #[.int .i64 (headE p wa).pc, .int .i64 (headE p wa).sd]] w fun e w' => SoJ w v L p wa e w' := by
 have hm1 := ok.m1
 have HNE : Hid (∀ i, i < v.m → (v.J i).ne ≤ 1048576) := fun i hi => by have := ok.kd i hi; omega
 obtain ⟨h0, h1, h2⟩ : 0 ≤ (headE p wa).pc ∧ (headE p wa).pc < v.n ∧ ((headE p wa).sd = 0 ∨ (headE p wa).sd = 1) := by
  refine ⟨by show (0 : Int) ≤ (p : Int); omega, by show (p : Int) < (v.n : Int); omega, ?_⟩
  show (if wa = 1 then (1 : Int) else 0) = 0 ∨ (if wa = 1 then (1 : Int) else 0) = 1
  split
  ·
   exact Or.inr rfl
  ·
   exact Or.inl rfl
 obtain ⟨j, k, hat, hja, hjm, hkn, hEk, hk1, hk2, hk3⟩ := ok.there h0 h1 h2
 have HAT : Hid (v.at (headE p wa) = (j, k) ∧ atV (jointAt v.J (headE p wa) v.m) = ((j : Int), (k : Int))) := ⟨hat, by rw [hja]; rfl⟩
 obtain ⟨X, HX⟩ : ∃ X, Hid (exitAt v L p wa = X) := ⟨_, rfl⟩
 have HX2 : Hid (exitF (v.J j).kd (L j) k = X) := by show _ = _; rw [← HX.out, exitAt, HAT.out.1]
 have HFIN : Hid (∀ (x : Nat) (y a b : Int) e w', X = (x, y) → e = .returned (.tuple #[.agg #[.int .i64 a, .int .i64 b], .int .i64 y, .int .i64 (j : Int)]) → (y = 0 → a = ((v.J j).E x).pc ∧ b = ((v.J j).E x).sd) → Below w.heap.size w w' → SoJ w v L p wa e w') := fun x y a b e w' hx he hab hb => ⟨a, b, by rw [HX.out, hx, HAT.out.1]; exact he, by rw [nextAt, HX.out, HAT.out.1, hx]; exact hab, hb⟩
 have hlie : 0 ≤ L j ∧ L j ≤ mostL (v.J j).kd := by
  have := hl j hjm
  unfold lieB inB at this
  simpa using this
 obtain ⟨jb, jo, hje, _, hjb, hjc⟩ := hJ (by omega)
 obtain ⟨ea, ec, c0, c1, c2, hEs⟩ := hjc j hjm
 have HES : Hid (EsAt 0 w ea (v.J j).ne (v.J j).E) := hEs
 have HC : Hid (jb < w.heap.size ∧ w.cell? ⟨jb, jo + j * 3, none⟩ = some (.int .i64 (v.J j).kd) ∧ w.cell? ⟨jb, jo + j * 3 + 1, none⟩ = some (.string (v.J j).nm) ∧ w.cell? ⟨jb, jo + j * 3 + 2, none⟩ = some (.slice ea (v.J j).ne ec) ∧ ja = some ⟨jb, jo, none⟩) := ⟨hjb, c0, c1, c2, hje⟩
 obtain ⟨lb, lo, rfl, _, hlb, hlc⟩ := hL (by omega)
 have HLC : Hid (lb < w.heap.size ∧ w.cell? ⟨lb, lo + j, none⟩ = some (.int .i64 (L j))) := ⟨hlb, hlc j hjm⟩
 have HJ : Hid (JsAt 0 w ja v.m v.J) := hJ
 have hmm : v.m ≤ 1048576 := by omega
 have hji : (j : Int) < (v.m : Int) := by omega
 have hj0 : (0 : Int) ≤ (j : Int) := by omega
 have HKD : Hid (1 ≤ (v.J j).kd ∧ (v.J j).kd ≤ 4 ∧ ((v.J j).ne : Int) = (v.J j).kd) := ⟨hk1, hk2, hk3⟩
 have S0 : Hid (Below w.heap.size w (((w.alloc (.cells #[.slice pa v.n pc, .slice ja v.m jc] 40)).alloc (.cells #[.int .i64 (headE p wa).pc, .int .i64 (headE p wa).sd] 76)).alloc (.cells #[.int .i64 0, .int .i64 0] 76)) ∧ Box (((w.alloc (.cells #[.slice pa v.n pc, .slice ja v.m jc] 40)).alloc (.cells #[.int .i64 (headE p wa).pc, .int .i64 (headE p wa).sd] 76)).alloc (.cells #[.int .i64 0, .int .i64 0] 76)) (w.heap.size) 40 #[.slice pa v.n pc, .slice ja v.m jc] ∧ Box (((w.alloc (.cells #[.slice pa v.n pc, .slice ja v.m jc] 40)).alloc (.cells #[.int .i64 (headE p wa).pc, .int .i64 (headE p wa).sd] 76)).alloc (.cells #[.int .i64 0, .int .i64 0] 76)) (w.heap.size + 1) 76 #[.int .i64 (headE p wa).pc, .int .i64 (headE p wa).sd] ∧ Box (((w.alloc (.cells #[.slice pa v.n pc, .slice ja v.m jc] 40)).alloc (.cells #[.int .i64 (headE p wa).pc, .int .i64 (headE p wa).sd] 76)).alloc (.cells #[.int .i64 0, .int .i64 0] 76)) (w.heap.size + 1 + 1) 76 #[.int .i64 0, .int .i64 0]) := ⟨((Below.refl _ _).alloc nr _ |>.alloc (by simp) _ |>.alloc (by simp; omega) _), ((Box.new _ _ _).alloc _).alloc _, by have := (Box.new (w.alloc (.cells #[.slice pa v.n pc, .slice ja v.m jc] 40)) 76 #[.int .i64 (headE p wa).pc, .int .i64 (headE p wa).sd]).alloc (.cells #[.int .i64 0, .int .i64 0] 76); simpa using this, by have := Box.new ((w.alloc (.cells #[.slice pa v.n pc, .slice ja v.m jc] 40)).alloc (.cells #[.int .i64 (headE p wa).pc, .int .i64 (headE p wa).sd] 76)) 76 #[.int .i64 0, .int .i64 0]; simpa using this⟩
 clear ok hJ hl hL hlc hlb hjc hEs c0 c1 c2 hje hjb h0 h1 h2 hat hja hEk hk1 hk2 hk3
 go_enter Tryz.func36, Tryz.ntmps36
 go_upto_region 1 with fail
 generalize (((w.alloc (.cells #[.slice pa v.n pc, .slice ja v.m jc] 40)).alloc (.cells #[.int .i64 (headE p wa).pc, .int .i64 (headE p wa).sd] 76)).alloc (.cells #[.int .i64 0, .int .i64 0] 76)) = V0 at S0 ⊢
 have a0 : V0.cell? ⟨w.heap.size, 0, none⟩ = some (.slice pa v.n pc) := S0.out.2.1.cell 0
 have a1 : V0.cell? ⟨w.heap.size, 1, none⟩ = some (.slice ja v.m jc) := S0.out.2.1.cell 1
 have b0 : V0.cell? ⟨w.heap.size + 1, 0, none⟩ = some (.int .i64 (headE p wa).pc) := S0.out.2.2.1.cell 0
 have b1 : V0.cell? ⟨w.heap.size + 1, 1, none⟩ = some (.int .i64 (headE p wa).sd) := S0.out.2.2.1.cell 1
 have c0 : V0.cell? ⟨w.heap.size + 1 + 1, 0, none⟩ = some (.int .i64 0) := S0.out.2.2.2.cell 0
 have c1 : V0.cell? ⟨w.heap.size + 1 + 1, 1, none⟩ = some (.int .i64 0) := S0.out.2.2.2.cell 1
 go_wp2_with fail
 clear a0 a1 b0 b1 c0 c1
 refine (l11at78 pa v.n pc ja v.m jc v.J (headE p wa) V0 hmm (HJ.out.mono nr S0.out.1 nr) HNE.out).mono ?_
 rintro e w1 ⟨he, hb1⟩
 rw [HAT.out.2] at he
 subst he
 have M1 : Hid (Below w.heap.size w w1 ∧ Box w1 (w.heap.size) 40 #[.slice pa v.n pc, .slice ja v.m jc] ∧ Box w1 (w.heap.size + 1) 76 #[.int .i64 (headE p wa).pc, .int .i64 (headE p wa).sd] ∧ Box w1 (w.heap.size + 1 + 1) 76 #[.int .i64 0, .int .i64 0]) := ⟨S0.out.1.trans (hb1.mono S0.out.1.size), S0.out.2.1.mono hb1 nr, S0.out.2.2.1.mono hb1 nr, S0.out.2.2.2.mono hb1 nr⟩
 clear hb1 S0
 have M3 : Hid (Below w.heap.size w (w1.alloc (.cells #[.int .i64 (v.J j).kd, .string (v.J j).nm, .slice ea (v.J j).ne ec] 132)) ∧ Box (w1.alloc (.cells #[.int .i64 (v.J j).kd, .string (v.J j).nm, .slice ea (v.J j).ne ec] 132)) (w.heap.size) 40 #[.slice pa v.n pc, .slice ja v.m jc] ∧ Box (w1.alloc (.cells #[.int .i64 (v.J j).kd, .string (v.J j).nm, .slice ea (v.J j).ne ec] 132)) (w.heap.size + 1) 76 #[.int .i64 (headE p wa).pc, .int .i64 (headE p wa).sd] ∧ Box (w1.alloc (.cells #[.int .i64 (v.J j).kd, .string (v.J j).nm, .slice ea (v.J j).ne ec] 132)) (w.heap.size + 1 + 1) 76 #[.int .i64 0, .int .i64 0] ∧ Box (w1.alloc (.cells #[.int .i64 (v.J j).kd, .string (v.J j).nm, .slice ea (v.J j).ne ec] 132)) w1.heap.size 132 #[.int .i64 (v.J j).kd, .string (v.J j).nm, .slice ea (v.J j).ne ec]) := ⟨M1.out.1.alloc M1.out.1.size _, M1.out.2.1.alloc _, M1.out.2.2.1.alloc _, M1.out.2.2.2.alloc _, Box.new _ _ _⟩
 have n1 : w1.cell? ⟨w.heap.size, 1, none⟩ = some (.slice (some ⟨jb, jo, none⟩) v.m jc) := by rw [← HC.out.2.2.2.2]; exact M1.out.2.1.cell 1
 have x0 : w1.cell? ⟨jb, jo + j * 3, none⟩ = some (.int .i64 (v.J j).kd) := cell_keep M1.out.1 HC.out.1 HC.out.2.1
 have x1 : w1.cell? ⟨jb, jo + j * 3 + 1, none⟩ = some (.string (v.J j).nm) := cell_keep M1.out.1 HC.out.1 HC.out.2.2.1
 have x2 : w1.cell? ⟨jb, jo + j * 3 + 2, none⟩ = some (.slice ea (v.J j).ne ec) := cell_keep M1.out.1 HC.out.1 HC.out.2.2.2.1
 clear M1
 go_upto_region 3 with fail
 clear n1 x0 x1 x2
 generalize w1.alloc (.cells #[.int .i64 (v.J j).kd, .string (v.J j).nm, .slice ea (v.J j).ne ec] 132) = V2 at M3 ⊢
 generalize w1.heap.size = jq at M3 ⊢
 have M2 : Hid (Below w.heap.size w V2 ∧ Box V2 (w.heap.size) 40 #[.slice pa v.n pc, .slice ja v.m jc] ∧ Box V2 (w.heap.size + 1) 76 #[.int .i64 (headE p wa).pc, .int .i64 (headE p wa).sd] ∧ Box V2 (w.heap.size + 1 + 1) 76 #[.int .i64 0, .int .i64 0] ∧ Box V2 (jq) 132 #[.int .i64 (v.J j).kd, .string (v.J j).nm, .slice ea (v.J j).ne ec]) := M3
 clear M3
 have l0 : V2.cell? ⟨lb, lo + j, none⟩ = some (.int .i64 (L j)) := cell_keep M2.out.1 HLC.out.1 HLC.out.2
 have a0 : V2.cell? ⟨w.heap.size, 0, none⟩ = some (.slice pa v.n pc) := M2.out.2.1.cell 0
 have a1 : V2.cell? ⟨w.heap.size, 1, none⟩ = some (.slice ja v.m jc) := M2.out.2.1.cell 1
 have b0 : V2.cell? ⟨w.heap.size + 1, 0, none⟩ = some (.int .i64 (headE p wa).pc) := M2.out.2.2.1.cell 0
 have b1 : V2.cell? ⟨w.heap.size + 1, 1, none⟩ = some (.int .i64 (headE p wa).sd) := M2.out.2.2.1.cell 1
 have c0 : V2.cell? ⟨w.heap.size + 1 + 1, 0, none⟩ = some (.int .i64 0) := M2.out.2.2.2.1.cell 0
 have c1 : V2.cell? ⟨w.heap.size + 1 + 1, 1, none⟩ = some (.int .i64 0) := M2.out.2.2.2.1.cell 1
 have d0 : V2.cell? ⟨jq, 0, none⟩ = some (.int .i64 (v.J j).kd) := M2.out.2.2.2.2.cell 0
 have d1 : V2.cell? ⟨jq, 1, none⟩ = some (.string (v.J j).nm) := M2.out.2.2.2.2.cell 1
 have d2 : V2.cell? ⟨jq, 2, none⟩ = some (.slice ea (v.J j).ne ec) := M2.out.2.2.2.2.cell 2
 rcases (show (v.J j).kd = 1 ∨ (v.J j).kd = 2 ∨ (v.J j).kd = 3 ∨ (v.J j).kd = 4 by have := HKD.out; omega) with hc | hc | hc | hc
 ·
  rw [hc] at d0 HX2
  have HT : Hid (X = (0, 1)) := HX2.out.symm.trans rfl
  have z0 : V2.cell? ⟨w.heap.size + 1 + 1, 0, none⟩ = some (.int .i64 0) := M2.out.2.2.2.1.cell 0
  have z1 : V2.cell? ⟨w.heap.size + 1 + 1, 1, none⟩ = some (.int .i64 0) := M2.out.2.2.2.1.cell 1
  have q0 := M2.out.2.2.2.1.free 0
  have q1 := M2.out.2.2.2.1.free 1
  have MF : Hid (Below w.heap.size w ((V2.setCell ⟨w.heap.size + 1 + 1, 0, none⟩ (.int .i64 (headE p wa).pc)).setCell ⟨w.heap.size + 1 + 1, 1, none⟩ (.int .i64 (headE p wa).sd)) ∧ Box ((V2.setCell ⟨w.heap.size + 1 + 1, 0, none⟩ (.int .i64 (headE p wa).pc)).setCell ⟨w.heap.size + 1 + 1, 1, none⟩ (.int .i64 (headE p wa).sd)) (w.heap.size + 1 + 1) 76 #[.int .i64 (headE p wa).pc, .int .i64 (headE p wa).sd]) := ⟨(M2.out.1.setCell (Nat.le_add_right _ 2) _).setCell (Nat.le_add_right _ 2) _, by
   have h9 := (M2.out.2.2.2.1.set 0 (.int .i64 (headE p wa).pc)).set 1 (.int .i64 (headE p wa).sd)
   exact h9⟩
  go_wp2_with fail
  generalize ((V2.setCell ⟨w.heap.size + 1 + 1, 0, none⟩ (.int .i64 (headE p wa).pc)).setCell ⟨w.heap.size + 1 + 1, 1, none⟩ (.int .i64 (headE p wa).sd)) = W9 at MF ⊢
  clear z0 z1 q0 q1
  have z0 : W9.cell? ⟨w.heap.size + 1 + 1, 0, none⟩ = some (.int .i64 (headE p wa).pc) := MF.out.2.cell 0
  have z1 : W9.cell? ⟨w.heap.size + 1 + 1, 1, none⟩ = some (.int .i64 (headE p wa).sd) := MF.out.2.cell 1
  exact bodyPost_ret (v := .tuple #[.agg #[.int .i64 (headE p wa).pc, .int .i64 (headE p wa).sd], .int .i64 1, .int .i64 (j : Int)]) (by simp [results, Tryz.results36, go_sem, z0, z1]) rfl (HFIN.out _ 1 _ _ _ _ HT.out rfl (fun h => absurd h (by decide)) MF.out.1)
 ·
  rw [hc] at d0 HX2
  have HT : Hid (X = ((acrossF 2 k).getD 0 0, 0)) := HX2.out.symm.trans rfl
  have HL : Hid (0 < (acrossF 2 k).length) := by
   have hkn2 : k < 2 := by have := HKD.out; omega
   show 0 < _
   clear HX2
   rcases (show k = 0 ∨ k = 1 by omega) with rfl | rfl <;> decide
  go_wp2_with fail
  refine (across92 (v.J j).nm ea (v.J j).ne ec (v.J j).E 2 k V2 (by omega) (by have := HKD.out; omega) hkn (HES.out.mono nr M2.out.1 nr)).mono ?_
  rintro e w5 ⟨xa, xc, he2, hx, hb5⟩
  have he2 : e = .returned (.slice xa (acrossF 2 k).length xc) := he2
  have hx : EsAt V2.heap.size w5 xa (acrossF 2 k).length (fun i => (v.J j).E ((acrossF 2 k).getD i 0)) := hx
  have M5 : Hid (Below w.heap.size w w5 ∧ Box w5 (w.heap.size) 40 #[.slice pa v.n pc, .slice ja v.m jc] ∧ Box w5 (w.heap.size + 1) 76 #[.int .i64 (headE p wa).pc, .int .i64 (headE p wa).sd] ∧ Box w5 (w.heap.size + 1 + 1) 76 #[.int .i64 0, .int .i64 0] ∧ Box w5 (jq) 132 #[.int .i64 (v.J j).kd, .string (v.J j).nm, .slice ea (v.J j).ne ec]) := ⟨M2.out.1.trans (hb5.mono M2.out.1.size), M2.out.2.1.mono hb5 nr, M2.out.2.2.1.mono hb5 nr, M2.out.2.2.2.1.mono hb5 nr, M2.out.2.2.2.2.mono hb5 nr⟩
  obtain ⟨xb, xo, rfl, _, hxb, hxc⟩ := hx HL.out
  have y0 : w5.cell? ⟨xb, xo, none⟩ = some (.int .i64 ((v.J j).E ((acrossF 2 k).getD 0 0)).pc) := (hxc 0 HL.out).1
  have y1 : w5.cell? ⟨xb, xo + 1, none⟩ = some (.int .i64 ((v.J j).E ((acrossF 2 k).getD 0 0)).sd) := (hxc 0 HL.out).2
  obtain ⟨ln, HLN⟩ : ∃ ln, Hid ((acrossF 2 k).length = ln) := ⟨_, rfl⟩
  have hl0 : (0 : Int) < (ln : Int) := by have := HL.out; rw [HLN.out] at this; omega
  rw [HLN.out] at he2
  subst he2
  obtain ⟨g0, g1, HG⟩ : ∃ g0 g1, Hid (((v.J j).E ((acrossF 2 k).getD 0 0)).pc = g0 ∧ ((v.J j).E ((acrossF 2 k).getD 0 0)).sd = g1) := ⟨_, _, rfl, rfl⟩
  rw [HG.out.1] at y0
  rw [HG.out.2] at y1
  clear hxc hb5 hx c0 c1 b0 b1 a0 a1 d0 d1 d2
  have z0 : w5.cell? ⟨w.heap.size + 1 + 1, 0, none⟩ = some (.int .i64 0) := M5.out.2.2.2.1.cell 0
  have z1 : w5.cell? ⟨w.heap.size + 1 + 1, 1, none⟩ = some (.int .i64 0) := M5.out.2.2.2.1.cell 1
  have q0 := M5.out.2.2.2.1.free 0
  have q1 := M5.out.2.2.2.1.free 1
  have MF : Hid (Below w.heap.size w ((w5.setCell ⟨w.heap.size + 1 + 1, 0, none⟩ (.int .i64 g0)).setCell ⟨w.heap.size + 1 + 1, 1, none⟩ (.int .i64 g1)) ∧ Box ((w5.setCell ⟨w.heap.size + 1 + 1, 0, none⟩ (.int .i64 g0)).setCell ⟨w.heap.size + 1 + 1, 1, none⟩ (.int .i64 g1)) (w.heap.size + 1 + 1) 76 #[.int .i64 g0, .int .i64 g1]) := ⟨(M5.out.1.setCell (Nat.le_add_right _ 2) _).setCell (Nat.le_add_right _ 2) _, by
   have h9 := (M5.out.2.2.2.1.set 0 (.int .i64 g0)).set 1 (.int .i64 g1)
   exact h9⟩
  go_wp2_with fail
  generalize ((w5.setCell ⟨w.heap.size + 1 + 1, 0, none⟩ (.int .i64 g0)).setCell ⟨w.heap.size + 1 + 1, 1, none⟩ (.int .i64 g1)) = W9 at MF ⊢
  clear z0 z1 q0 q1
  have z0 : W9.cell? ⟨w.heap.size + 1 + 1, 0, none⟩ = some (.int .i64 g0) := MF.out.2.cell 0
  have z1 : W9.cell? ⟨w.heap.size + 1 + 1, 1, none⟩ = some (.int .i64 g1) := MF.out.2.cell 1
  exact bodyPost_ret (v := .tuple #[.agg #[.int .i64 g0, .int .i64 g1], .int .i64 0, .int .i64 (j : Int)]) (by simp [results, Tryz.results36, go_sem, z0, z1]) rfl (HFIN.out _ 0 _ _ _ _ HT.out rfl (fun _ => ⟨HG.out.1.symm, HG.out.2.symm⟩) MF.out.1)
 ·
  rw [hc] at d0 HX2 hlie
  have hl2 : L j ≤ 2 := hlie.2
  have hl1 : 0 ≤ L j := hlie.1
  clear hlie
  by_cases h0 : L j = 0
  ·
   rw [h0] at l0 HX2
   have HT : Hid (X = (0, 2)) := HX2.out.symm.trans rfl
   clear h0
   have z0 : V2.cell? ⟨w.heap.size + 1 + 1, 0, none⟩ = some (.int .i64 0) := M2.out.2.2.2.1.cell 0
   have z1 : V2.cell? ⟨w.heap.size + 1 + 1, 1, none⟩ = some (.int .i64 0) := M2.out.2.2.2.1.cell 1
   have q0 := M2.out.2.2.2.1.free 0
   have q1 := M2.out.2.2.2.1.free 1
   have MF : Hid (Below w.heap.size w ((V2.setCell ⟨w.heap.size + 1 + 1, 0, none⟩ (.int .i64 (headE p wa).pc)).setCell ⟨w.heap.size + 1 + 1, 1, none⟩ (.int .i64 (headE p wa).sd)) ∧ Box ((V2.setCell ⟨w.heap.size + 1 + 1, 0, none⟩ (.int .i64 (headE p wa).pc)).setCell ⟨w.heap.size + 1 + 1, 1, none⟩ (.int .i64 (headE p wa).sd)) (w.heap.size + 1 + 1) 76 #[.int .i64 (headE p wa).pc, .int .i64 (headE p wa).sd]) := ⟨(M2.out.1.setCell (Nat.le_add_right _ 2) _).setCell (Nat.le_add_right _ 2) _, by
    have h9 := (M2.out.2.2.2.1.set 0 (.int .i64 (headE p wa).pc)).set 1 (.int .i64 (headE p wa).sd)
    exact h9⟩
   go_wp2_with fail
   generalize ((V2.setCell ⟨w.heap.size + 1 + 1, 0, none⟩ (.int .i64 (headE p wa).pc)).setCell ⟨w.heap.size + 1 + 1, 1, none⟩ (.int .i64 (headE p wa).sd)) = W9 at MF ⊢
   clear z0 z1 q0 q1
   have z0 : W9.cell? ⟨w.heap.size + 1 + 1, 0, none⟩ = some (.int .i64 (headE p wa).pc) := MF.out.2.cell 0
   have z1 : W9.cell? ⟨w.heap.size + 1 + 1, 1, none⟩ = some (.int .i64 (headE p wa).sd) := MF.out.2.cell 1
   exact bodyPost_ret (v := .tuple #[.agg #[.int .i64 (headE p wa).pc, .int .i64 (headE p wa).sd], .int .i64 2, .int .i64 (j : Int)]) (by simp [results, Tryz.results36, go_sem, z0, z1]) rfl (HFIN.out _ 2 _ _ _ _ HT.out rfl (fun h => absurd h (by decide)) MF.out.1)
  ·
   have h0' : (L j == 0) = false := by simpa using h0
   by_cases hk0 : k = 0
   ·
    subst hk0
    have HT : Hid (X = ((L j).toNat, 0)) := HX2.out.symm.trans (by unfold exitF; simp [h0])
    obtain ⟨lx, HLX, hlx⟩ : ∃ n : Nat, Hid (L j = (n : Int) ∧ (L j).toNat = n) ∧ n < (v.J j).ne := ⟨(L j).toNat, ⟨by omega, rfl⟩, by have := HKD.out; omega⟩
    rw [HLX.out.1] at l0 h0'
    have HT2 : Hid (X = (lx, 0)) := by show _ = _; rw [HT.out, HLX.out.2]
    obtain ⟨eb, eo, hee, _, heb, hec⟩ := HES.out (by omega)
    obtain ⟨g0, g1, HG⟩ : ∃ g0 g1, Hid (((v.J j).E lx).pc = g0 ∧ ((v.J j).E lx).sd = g1) := ⟨_, _, rfl, rfl⟩
    have u0 : V2.cell? ⟨eb, eo + lx * 2, none⟩ = some (.int .i64 g0) := cell_keep M2.out.1 heb (by rw [← HG.out.1]; exact (hec lx hlx).1)
    have u1 : V2.cell? ⟨eb, eo + lx * 2 + 1, none⟩ = some (.int .i64 g1) := cell_keep M2.out.1 heb (by rw [← HG.out.2]; exact (hec lx hlx).2)
    have HQ : Hid (jq ≠ w.heap.size + 1 + 1 ∧ lb ≠ w.heap.size + 1 + 1 ∧ eb ≠ w.heap.size + 1 + 1) := ⟨box_ne M2.out.2.2.2.2 M2.out.2.2.2.1 (by decide), by have := HLC.out.1; omega, by omega⟩
    rw [hee] at d2
    have hl0 : (0 : Int) ≤ (lx : Int) := by omega
    have hli : (lx : Int) < ((v.J j).ne : Int) := by omega
    clear hec heb hee h0 c0 c1 a0 a1 b0 b1 d1
    go_wp2_with fail
    refine wp_region_held_drew (S := (fun wx : World => wx.cell? ⟨jq, 2, none⟩ = some (.slice (some ⟨eb, eo, none⟩) (v.J j).ne ec) ∧ wx.cell? ⟨lb, lo + j, none⟩ = some (.int .i64 (lx : Int)) ∧ wx.cell? ⟨eb, eo + lx * 2, none⟩ = some (.int .i64 g0) ∧ wx.cell? ⟨eb, eo + lx * 2 + 1, none⟩ = some (.int .i64 g1))) (by kernel_rfl) ?_ (fun hHeld => ?_)
    ·
     exact ⟨d2, l0, u0, u1⟩
    refine tk 0 ?_
    refine tk 1 ?_
    refine tk 2 ?_
    refine tk 3 ?_
    refine tk 4 ?_
    refine tk 5 ?_
    refine tk 6 ?_
    refine tk 7 ?_
    refine tk 8 ?_
    refine rl 9 fun K hK => ?_
    have z0 : V2.cell? ⟨w.heap.size + 1 + 1, 0, none⟩ = some (.int .i64 0) := M2.out.2.2.2.1.cell 0
    have z1 : V2.cell? ⟨w.heap.size + 1 + 1, 1, none⟩ = some (.int .i64 0) := M2.out.2.2.2.1.cell 1
    have q0 := M2.out.2.2.2.1.free 0
    have q1 := M2.out.2.2.2.1.free 1
    have MF : Hid ((Below w.heap.size w ((V2.setCell ⟨w.heap.size + 1 + 1, 0, none⟩ (.int .i64 g0)).setCell ⟨w.heap.size + 1 + 1, 1, none⟩ (.int .i64 g1)).drew ∧ Box ((V2.setCell ⟨w.heap.size + 1 + 1, 0, none⟩ (.int .i64 g0)).setCell ⟨w.heap.size + 1 + 1, 1, none⟩ (.int .i64 g1)).drew (w.heap.size + 1 + 1) 76 #[.int .i64 g0, .int .i64 g1]) ∧ (∀ b o, b ≠ w.heap.size + 1 + 1 → ((V2.setCell ⟨w.heap.size + 1 + 1, 0, none⟩ (.int .i64 g0)).setCell ⟨w.heap.size + 1 + 1, 1, none⟩ (.int .i64 g1)).drew.cell? ⟨b, o, none⟩ = V2.cell? ⟨b, o, none⟩)) := ⟨⟨((M2.out.1.setCell (Nat.le_add_right _ 2) _).setCell (Nat.le_add_right _ 2) _).drew, by
     have h9 := ((M2.out.2.2.2.1.set 0 (.int .i64 g0)).set 1 (.int .i64 g1)).drew
     exact h9⟩, fun b o hb => by
     have hk : ((V2.setCell ⟨w.heap.size + 1 + 1, 0, none⟩ (.int .i64 g0)).setCell ⟨w.heap.size + 1 + 1, 1, none⟩ (.int .i64 g1)).drew.heap[b]? = V2.heap[b]? := (Below.heap_setCell _ ⟨w.heap.size + 1 + 1, 1, none⟩ _ b hb).trans (Below.heap_setCell _ ⟨w.heap.size + 1 + 1, 0, none⟩ _ b hb)
     simp only [World.cell?, hk]⟩
    go_simp
    refine hK.out _ _ ?_ (fun hHeld9 => ?_)
    ·
     exact ⟨(MF.out.2 _ _ HQ.out.1).trans d2, (MF.out.2 _ _ HQ.out.2.1).trans l0, (MF.out.2 _ _ HQ.out.2.2).trans u0, (MF.out.2 _ _ HQ.out.2.2).trans u1⟩
    clear hK K
    refine tk 10 ?_
    refine tk 11 ?_
    refine wpAnyH_done (by kernel_rfl) ?_ _
    generalize ((V2.setCell ⟨w.heap.size + 1 + 1, 0, none⟩ (.int .i64 g0)).setCell ⟨w.heap.size + 1 + 1, 1, none⟩ (.int .i64 g1)).drew = W9 at MF ⊢
    clear z0 z1 q0 q1
    have z0 : W9.cell? ⟨w.heap.size + 1 + 1, 0, none⟩ = some (.int .i64 g0) := MF.out.1.2.cell 0
    have z1 : W9.cell? ⟨w.heap.size + 1 + 1, 1, none⟩ = some (.int .i64 g1) := MF.out.1.2.cell 1
    go_wp2_with fail
    exact bodyPost_ret (v := .tuple #[.agg #[.int .i64 g0, .int .i64 g1], .int .i64 0, .int .i64 (j : Int)]) (by simp [results, Tryz.results36, go_sem, z0, z1]) rfl (HFIN.out _ 0 _ _ _ _ HT2.out rfl (fun _ => ⟨HG.out.1.symm, HG.out.2.symm⟩) MF.out.1.1)
   ·
    have hk0' : ((k : Int) == 0) = false := by simp; omega
    by_cases hkl : (k : Int) = L j
    ·
     have HT : Hid (X = ((acrossF 3 k).getD 0 0, 0)) := HX2.out.symm.trans (by
      have hkn3 : k < 3 := by have := HKD.out; omega
      unfold exitF
      rcases (show k = 1 ∨ k = 2 by omega) with rfl | rfl <;> simp [h0, hkl] <;> decide)
     have hkl' : ((k : Int) != L j) = false := by simpa using hkl
     clear hkl h0
     have HL : Hid (0 < (acrossF 3 k).length) := by
      have hkn2 : k < 3 := by have := HKD.out; omega
      show 0 < _
      clear HX2
      rcases (show k = 0 ∨ k = 1 ∨ k = 2 by omega) with rfl | rfl | rfl <;> decide
     go_wp2_with fail
     refine (across92 (v.J j).nm ea (v.J j).ne ec (v.J j).E 3 k V2 (by omega) (by have := HKD.out; omega) hkn (HES.out.mono nr M2.out.1 nr)).mono ?_
     rintro e w5 ⟨xa, xc, he2, hx, hb5⟩
     have he2 : e = .returned (.slice xa (acrossF 3 k).length xc) := he2
     have hx : EsAt V2.heap.size w5 xa (acrossF 3 k).length (fun i => (v.J j).E ((acrossF 3 k).getD i 0)) := hx
     have M5 : Hid (Below w.heap.size w w5 ∧ Box w5 (w.heap.size) 40 #[.slice pa v.n pc, .slice ja v.m jc] ∧ Box w5 (w.heap.size + 1) 76 #[.int .i64 (headE p wa).pc, .int .i64 (headE p wa).sd] ∧ Box w5 (w.heap.size + 1 + 1) 76 #[.int .i64 0, .int .i64 0] ∧ Box w5 (jq) 132 #[.int .i64 (v.J j).kd, .string (v.J j).nm, .slice ea (v.J j).ne ec]) := ⟨M2.out.1.trans (hb5.mono M2.out.1.size), M2.out.2.1.mono hb5 nr, M2.out.2.2.1.mono hb5 nr, M2.out.2.2.2.1.mono hb5 nr, M2.out.2.2.2.2.mono hb5 nr⟩
     obtain ⟨xb, xo, rfl, _, hxb, hxc⟩ := hx HL.out
     have y0 : w5.cell? ⟨xb, xo, none⟩ = some (.int .i64 ((v.J j).E ((acrossF 3 k).getD 0 0)).pc) := (hxc 0 HL.out).1
     have y1 : w5.cell? ⟨xb, xo + 1, none⟩ = some (.int .i64 ((v.J j).E ((acrossF 3 k).getD 0 0)).sd) := (hxc 0 HL.out).2
     obtain ⟨ln, HLN⟩ : ∃ ln, Hid ((acrossF 3 k).length = ln) := ⟨_, rfl⟩
     have hl0 : (0 : Int) < (ln : Int) := by have := HL.out; rw [HLN.out] at this; omega
     rw [HLN.out] at he2
     subst he2
     obtain ⟨g0, g1, HG⟩ : ∃ g0 g1, Hid (((v.J j).E ((acrossF 3 k).getD 0 0)).pc = g0 ∧ ((v.J j).E ((acrossF 3 k).getD 0 0)).sd = g1) := ⟨_, _, rfl, rfl⟩
     rw [HG.out.1] at y0
     rw [HG.out.2] at y1
     clear hxc hb5 hx c0 c1 b0 b1 a0 a1 d0 d1 d2
     have z0 : w5.cell? ⟨w.heap.size + 1 + 1, 0, none⟩ = some (.int .i64 0) := M5.out.2.2.2.1.cell 0
     have z1 : w5.cell? ⟨w.heap.size + 1 + 1, 1, none⟩ = some (.int .i64 0) := M5.out.2.2.2.1.cell 1
     have q0 := M5.out.2.2.2.1.free 0
     have q1 := M5.out.2.2.2.1.free 1
     have MF : Hid (Below w.heap.size w ((w5.setCell ⟨w.heap.size + 1 + 1, 0, none⟩ (.int .i64 g0)).setCell ⟨w.heap.size + 1 + 1, 1, none⟩ (.int .i64 g1)) ∧ Box ((w5.setCell ⟨w.heap.size + 1 + 1, 0, none⟩ (.int .i64 g0)).setCell ⟨w.heap.size + 1 + 1, 1, none⟩ (.int .i64 g1)) (w.heap.size + 1 + 1) 76 #[.int .i64 g0, .int .i64 g1]) := ⟨(M5.out.1.setCell (Nat.le_add_right _ 2) _).setCell (Nat.le_add_right _ 2) _, by
      have h9 := (M5.out.2.2.2.1.set 0 (.int .i64 g0)).set 1 (.int .i64 g1)
      exact h9⟩
     go_wp2_with fail
     generalize ((w5.setCell ⟨w.heap.size + 1 + 1, 0, none⟩ (.int .i64 g0)).setCell ⟨w.heap.size + 1 + 1, 1, none⟩ (.int .i64 g1)) = W9 at MF ⊢
     clear z0 z1 q0 q1
     have z0 : W9.cell? ⟨w.heap.size + 1 + 1, 0, none⟩ = some (.int .i64 g0) := MF.out.2.cell 0
     have z1 : W9.cell? ⟨w.heap.size + 1 + 1, 1, none⟩ = some (.int .i64 g1) := MF.out.2.cell 1
     exact bodyPost_ret (v := .tuple #[.agg #[.int .i64 g0, .int .i64 g1], .int .i64 0, .int .i64 (j : Int)]) (by simp [results, Tryz.results36, go_sem, z0, z1]) rfl (HFIN.out _ 0 _ _ _ _ HT.out rfl (fun _ => ⟨HG.out.1.symm, HG.out.2.symm⟩) MF.out.1)
    ·
     have HT : Hid (X = (0, 3)) := HX2.out.symm.trans (by unfold exitF; simp [h0, hk0, hkl])
     have hkl' : ((k : Int) != L j) = true := by simpa using hkl
     clear hkl h0
     have z0 : V2.cell? ⟨w.heap.size + 1 + 1, 0, none⟩ = some (.int .i64 0) := M2.out.2.2.2.1.cell 0
     have z1 : V2.cell? ⟨w.heap.size + 1 + 1, 1, none⟩ = some (.int .i64 0) := M2.out.2.2.2.1.cell 1
     have q0 := M2.out.2.2.2.1.free 0
     have q1 := M2.out.2.2.2.1.free 1
     have MF : Hid (Below w.heap.size w ((V2.setCell ⟨w.heap.size + 1 + 1, 0, none⟩ (.int .i64 (headE p wa).pc)).setCell ⟨w.heap.size + 1 + 1, 1, none⟩ (.int .i64 (headE p wa).sd)) ∧ Box ((V2.setCell ⟨w.heap.size + 1 + 1, 0, none⟩ (.int .i64 (headE p wa).pc)).setCell ⟨w.heap.size + 1 + 1, 1, none⟩ (.int .i64 (headE p wa).sd)) (w.heap.size + 1 + 1) 76 #[.int .i64 (headE p wa).pc, .int .i64 (headE p wa).sd]) := ⟨(M2.out.1.setCell (Nat.le_add_right _ 2) _).setCell (Nat.le_add_right _ 2) _, by
      have h9 := (M2.out.2.2.2.1.set 0 (.int .i64 (headE p wa).pc)).set 1 (.int .i64 (headE p wa).sd)
      exact h9⟩
     go_wp2_with fail
     generalize ((V2.setCell ⟨w.heap.size + 1 + 1, 0, none⟩ (.int .i64 (headE p wa).pc)).setCell ⟨w.heap.size + 1 + 1, 1, none⟩ (.int .i64 (headE p wa).sd)) = W9 at MF ⊢
     clear z0 z1 q0 q1
     have z0 : W9.cell? ⟨w.heap.size + 1 + 1, 0, none⟩ = some (.int .i64 (headE p wa).pc) := MF.out.2.cell 0
     have z1 : W9.cell? ⟨w.heap.size + 1 + 1, 1, none⟩ = some (.int .i64 (headE p wa).sd) := MF.out.2.cell 1
     exact bodyPost_ret (v := .tuple #[.agg #[.int .i64 (headE p wa).pc, .int .i64 (headE p wa).sd], .int .i64 3, .int .i64 (j : Int)]) (by simp [results, Tryz.results36, go_sem, z0, z1]) rfl (HFIN.out _ 3 _ _ _ _ HT.out rfl (fun h => absurd h (by decide)) MF.out.1)
 ·
  rw [hc] at d0 HX2
  have HT : Hid (X = ((acrossF 4 k).getD 0 0, 0)) := HX2.out.symm.trans rfl
  have HL : Hid (0 < (acrossF 4 k).length) := by
   have hkn2 : k < 4 := by have := HKD.out; omega
   show 0 < _
   clear HX2
   rcases (show k = 0 ∨ k = 1 ∨ k = 2 ∨ k = 3 by omega) with rfl | rfl | rfl | rfl <;> decide
  go_wp2_with fail
  refine (across92 (v.J j).nm ea (v.J j).ne ec (v.J j).E 4 k V2 (by omega) (by have := HKD.out; omega) hkn (HES.out.mono nr M2.out.1 nr)).mono ?_
  rintro e w5 ⟨xa, xc, he2, hx, hb5⟩
  have he2 : e = .returned (.slice xa (acrossF 4 k).length xc) := he2
  have hx : EsAt V2.heap.size w5 xa (acrossF 4 k).length (fun i => (v.J j).E ((acrossF 4 k).getD i 0)) := hx
  have M5 : Hid (Below w.heap.size w w5 ∧ Box w5 (w.heap.size) 40 #[.slice pa v.n pc, .slice ja v.m jc] ∧ Box w5 (w.heap.size + 1) 76 #[.int .i64 (headE p wa).pc, .int .i64 (headE p wa).sd] ∧ Box w5 (w.heap.size + 1 + 1) 76 #[.int .i64 0, .int .i64 0] ∧ Box w5 (jq) 132 #[.int .i64 (v.J j).kd, .string (v.J j).nm, .slice ea (v.J j).ne ec]) := ⟨M2.out.1.trans (hb5.mono M2.out.1.size), M2.out.2.1.mono hb5 nr, M2.out.2.2.1.mono hb5 nr, M2.out.2.2.2.1.mono hb5 nr, M2.out.2.2.2.2.mono hb5 nr⟩
  obtain ⟨xb, xo, rfl, _, hxb, hxc⟩ := hx HL.out
  have y0 : w5.cell? ⟨xb, xo, none⟩ = some (.int .i64 ((v.J j).E ((acrossF 4 k).getD 0 0)).pc) := (hxc 0 HL.out).1
  have y1 : w5.cell? ⟨xb, xo + 1, none⟩ = some (.int .i64 ((v.J j).E ((acrossF 4 k).getD 0 0)).sd) := (hxc 0 HL.out).2
  obtain ⟨ln, HLN⟩ : ∃ ln, Hid ((acrossF 4 k).length = ln) := ⟨_, rfl⟩
  have hl0 : (0 : Int) < (ln : Int) := by have := HL.out; rw [HLN.out] at this; omega
  rw [HLN.out] at he2
  subst he2
  obtain ⟨g0, g1, HG⟩ : ∃ g0 g1, Hid (((v.J j).E ((acrossF 4 k).getD 0 0)).pc = g0 ∧ ((v.J j).E ((acrossF 4 k).getD 0 0)).sd = g1) := ⟨_, _, rfl, rfl⟩
  rw [HG.out.1] at y0
  rw [HG.out.2] at y1
  clear hxc hb5 hx c0 c1 b0 b1 a0 a1 d0 d1 d2
  have z0 : w5.cell? ⟨w.heap.size + 1 + 1, 0, none⟩ = some (.int .i64 0) := M5.out.2.2.2.1.cell 0
  have z1 : w5.cell? ⟨w.heap.size + 1 + 1, 1, none⟩ = some (.int .i64 0) := M5.out.2.2.2.1.cell 1
  have q0 := M5.out.2.2.2.1.free 0
  have q1 := M5.out.2.2.2.1.free 1
  have MF : Hid (Below w.heap.size w ((w5.setCell ⟨w.heap.size + 1 + 1, 0, none⟩ (.int .i64 g0)).setCell ⟨w.heap.size + 1 + 1, 1, none⟩ (.int .i64 g1)) ∧ Box ((w5.setCell ⟨w.heap.size + 1 + 1, 0, none⟩ (.int .i64 g0)).setCell ⟨w.heap.size + 1 + 1, 1, none⟩ (.int .i64 g1)) (w.heap.size + 1 + 1) 76 #[.int .i64 g0, .int .i64 g1]) := ⟨(M5.out.1.setCell (Nat.le_add_right _ 2) _).setCell (Nat.le_add_right _ 2) _, by
   have h9 := (M5.out.2.2.2.1.set 0 (.int .i64 g0)).set 1 (.int .i64 g1)
   exact h9⟩
  go_wp2_with fail
  generalize ((w5.setCell ⟨w.heap.size + 1 + 1, 0, none⟩ (.int .i64 g0)).setCell ⟨w.heap.size + 1 + 1, 1, none⟩ (.int .i64 g1)) = W9 at MF ⊢
  clear z0 z1 q0 q1
  have z0 : W9.cell? ⟨w.heap.size + 1 + 1, 0, none⟩ = some (.int .i64 g0) := MF.out.2.cell 0
  have z1 : W9.cell? ⟨w.heap.size + 1 + 1, 1, none⟩ = some (.int .i64 g1) := MF.out.2.cell 1
  exact bodyPost_ret (v := .tuple #[.agg #[.int .i64 g0, .int .i64 g1], .int .i64 0, .int .i64 (j : Int)]) (by simp [results, Tryz.results36, go_sem, z0, z1]) rfl (HFIN.out _ 0 _ _ _ _ HT.out rfl (fun _ => ⟨HG.out.1.symm, HG.out.2.symm⟩) MF.out.1)
end Go.Proofs.YtjhmaofjmalglaaGreat
