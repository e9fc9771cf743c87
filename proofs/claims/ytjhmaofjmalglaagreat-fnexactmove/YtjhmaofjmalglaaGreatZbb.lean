import Derived.Test.YtjhmaofjmalglaaGreatZba
namespace Go.Proofs.YtjhmaofjmalglaaGreat
open Go.RowKit Go.Lib
theorem ta105_106 (w : World) : (Instr.typeAssert (.iface 182 (.agg #[])) 141 183 true).run Tryz.prog w = .ok (.tuple #[.agg #[], .bool false]) w := by kernel_rfl
theorem ta105_105 (w : World) : (Instr.typeAssert (.iface 182 (.agg #[])) 141 182 true).run Tryz.prog w = .ok (.tuple #[.agg #[], .bool true]) w := by kernel_rfl
theorem ta106_106 (w : World) : (Instr.typeAssert (.iface 183 (.agg #[])) 141 183 true).run Tryz.prog w = .ok (.tuple #[.agg #[], .bool true]) w := by kernel_rfl
theorem ta107_106 (w : World) : (Instr.typeAssert (.iface 184 (.agg #[])) 141 183 true).run Tryz.prog w = .ok (.tuple #[.agg #[], .bool false]) w := by kernel_rfl
theorem ta107_105 (w : World) : (Instr.typeAssert (.iface 184 (.agg #[])) 141 182 true).run Tryz.prog w = .ok (.tuple #[.agg #[], .bool false]) w := by kernel_rfl
theorem ta108_106 (w : World) : (Instr.typeAssert (.iface 185 (.agg #[])) 141 183 true).run Tryz.prog w = .ok (.tuple #[.agg #[], .bool false]) w := by kernel_rfl
theorem ta108_105 (w : World) : (Instr.typeAssert (.iface 185 (.agg #[])) 141 182 true).run Tryz.prog w = .ok (.tuple #[.agg #[], .bool false]) w := by kernel_rfl
def exitF (kd lie : Int) (k : Nat) : Nat × Int :=
 if kd = 1 then (0, 1) else if kd = 3 then (if lie = 0 then (0, 2) else if k = 0 then (lie.toNat, 0) else if (k : Int) = lie then (0, 0) else (0, 3)) else ((acrossF kd.toNat k).getD 0 0, 0)
set_option maxRecDepth 100000 in
set_option maxHeartbeats 4000000 in
theorem exit102 {v : Nv} (ok : v.Ok) {bt sb : Nat} {pa : Option Addr} {pc : Nat} {ja : Option Addr} {jc : Nat} (j k : Nat) (la : Option Addr) (lc : Nat) (L : Nat → Int) (w : World) (h : TkAt w bt sb v pa pc ja jc) (hj : j < v.m) (hk : k < (v.J j).ne) (hL : IsAt 0 w la v.m L) (hl : lieB v.J L j = true) :
  Calls Tryz.prog 127 #[.agg #[.pointer (some ⟨bt, 0, none⟩), .slice la v.m lc], .agg #[.int .i64 (j : Int), .int .i64 (k : Int)]] w fun e w' => e = .returned (.tuple #[.int .i64 (((exitF (v.J j).kd (L j) k).1 : Nat) : Int), .int .i64 (exitF (v.J j).kd (L j) k).2]) ∧ Below w.heap.size w w' := by
 have H : Hid (v.Ok ∧ TkAt w bt sb v pa pc ja jc) := ⟨ok, h⟩
 have hm1 := ok.m1
 have hkd := ok.kd j hj
 have HKD : Hid (((v.J j).ne : Int) = (v.J j).kd ∧ k < (v.J j).ne) := ⟨hkd.2.2, hk⟩
 obtain ⟨X, HX⟩ : ∃ X, Hid (exitF (v.J j).kd (L j) k = X) := ⟨_, rfl⟩
 rw [HX.out]
 obtain ⟨lb, lo, rfl, _, hlb, hlc⟩ := hL (by omega)
 have HLC : Hid (lb < w.heap.size ∧ w.cell? ⟨lb, lo + j, none⟩ = some (.int .i64 (L j))) := ⟨hlb, hlc j hj⟩
 have hji : (j : Int) < (v.m : Int) := by omega
 have hj0 : (0 : Int) ≤ (j : Int) := by omega
 have S0 : Hid (Below w.heap.size w ((w.alloc (.cells #[.pointer (some ⟨bt, 0, none⟩), .slice (some ⟨lb, lo, none⟩) v.m lc] 87)).alloc (.cells #[.int .i64 (j : Int), .int .i64 (k : Int)] 172)) ∧ Box ((w.alloc (.cells #[.pointer (some ⟨bt, 0, none⟩), .slice (some ⟨lb, lo, none⟩) v.m lc] 87)).alloc (.cells #[.int .i64 (j : Int), .int .i64 (k : Int)] 172)) (w.heap.size) 87 #[.pointer (some ⟨bt, 0, none⟩), .slice (some ⟨lb, lo, none⟩) v.m lc] ∧ Box ((w.alloc (.cells #[.pointer (some ⟨bt, 0, none⟩), .slice (some ⟨lb, lo, none⟩) v.m lc] 87)).alloc (.cells #[.int .i64 (j : Int), .int .i64 (k : Int)] 172)) (w.heap.size + 1) 172 #[.int .i64 (j : Int), .int .i64 (k : Int)]) := ⟨bel2 _ _ _, (Box.new _ _ _).alloc _, by have := Box.new (w.alloc (.cells #[.pointer (some ⟨bt, 0, none⟩), .slice (some ⟨lb, lo, none⟩) v.m lc] 87)) 172 #[.int .i64 (j : Int), .int .i64 (k : Int)]; simpa using this⟩
 clear h ok hL hlc hlb
 go_enter Tryz.func127, Tryz.ntmps127
 go_upto_region 1 with fail
 generalize ((w.alloc (.cells #[.pointer (some ⟨bt, 0, none⟩), .slice (some ⟨lb, lo, none⟩) v.m lc] 87)).alloc (.cells #[.int .i64 (j : Int), .int .i64 (k : Int)] 172)) = V0 at S0 ⊢
 have a0 := S0.out.2.1.cel 0
 have a1 := S0.out.2.1.cel 1
 have b0 := S0.out.2.2.cel 0
 have b1 := S0.out.2.2.cel 1
 have l0 : V0.cell? ⟨lb, lo + j, none⟩ = some (.int .i64 (L j)) := cell_keep S0.out.1 HLC.out.1 HLC.out.2
 go_wp2_with fail
 refine (kind96 H.out.1 j V0 (H.out.2.mono S0.out.1 nr) hj).mono ?_
 rintro e w1 ⟨he, hw1⟩
 have hw1 := hw1.symm
 subst hw1
 rcases (show (v.J j).kd = 1 ∨ (v.J j).kd = 2 ∨ (v.J j).kd = 3 ∨ (v.J j).kd = 4 by omega) with hc | hc | hc | hc
 ·
  rw [hc] at he HX
  have he : e = .returned (.iface 183 (.agg #[])) := he
  have y0 := ta106_106
  subst he
  have HT : Hid (X = (0, 1)) := HX.out.symm.trans (by rfl)
  go_wp2_with fail
  exact bodyPost_ret (v := .tuple #[.int .i64 ((X.1 : Nat) : Int), .int .i64 X.2]) (by rw [HT.out]; simp [results, Tryz.results127, go_sem]) rfl ⟨rfl, S0.out.1⟩
 ·
  rw [hc] at he HX
  have he : e = .returned (.iface 184 (.agg #[])) := he
  have y0 := ta107_106
  have y1 := ta107_105
  subst he
  have HT : Hid (X = ((acrossF 2 k).getD 0 0, 0)) := HX.out.symm.trans rfl
  have m2 := mo2
  go_wp2_with fail
  refine (overPlain k V0 (by have := HKD.out; omega)).mono ?_
  rintro e w2 ⟨xa, xc, he2, hns, hb2⟩
  have HE : Hid (Below w.heap.size w w2) := S0.out.1.trans (hb2.mono S0.out.1.size)
  have HL : Hid (0 < (acrossF 2 k).length) := by
   have hkn : k < 2 := by have := HKD.out; omega
   show 0 < _
   clear hns HX
   rcases (show k = 0 ∨ k = 1 by omega) with rfl | rfl <;> decide
  obtain ⟨xb, xo, rfl, _, hxb, hxc⟩ := hns HL.out
  have x0 : w2.cell? ⟨xb, xo, none⟩ = some (.int .i64 (((acrossF 2 k).getD 0 0 : Nat) : Int)) := hxc 0 HL.out 0 (by omega)
  obtain ⟨ln, HLN⟩ : ∃ ln, Hid ((acrossF 2 k).length = ln) := ⟨_, rfl⟩
  have hl0 : (0 : Int) < (ln : Int) := by have := HL.out; rw [HLN.out] at this; omega
  rw [HLN.out] at he2
  subst he2
  clear hxc hb2 hns
  go_wp2_with fail
  exact bodyPost_ret (v := .tuple #[.int .i64 ((X.1 : Nat) : Int), .int .i64 X.2]) (by rw [HT.out]; simp [results, Tryz.results127, go_sem]) rfl ⟨rfl, HE.out⟩
 ·
  rw [hc] at he HX
  have he : e = .returned (.iface 182 (.agg #[])) := he
  have y0 := ta105_106
  have y1 := ta105_105
  subst he
  have hlie : 0 ≤ L j ∧ L j ≤ 2 := by
   unfold lieB mostL inB at hl
   rw [hc] at hl
   simpa using hl
  by_cases h0 : L j = 0
  ·
   rw [h0] at l0 HX
   have HT : Hid (X = (0, 2)) := HX.out.symm.trans (by rfl)
   go_wp2_with fail
   exact bodyPost_ret (v := .tuple #[.int .i64 ((X.1 : Nat) : Int), .int .i64 X.2]) (by rw [HT.out]; simp [results, Tryz.results127, go_sem]) rfl ⟨rfl, S0.out.1⟩
  ·
   have h0' : (L j == 0) = false := by simpa using h0
   by_cases hk0 : k = 0
   ·
    subst hk0
    have HT : Hid (X = ((L j).toNat, 0)) := HX.out.symm.trans (by unfold exitF; simp [h0])
    have hln : (((L j).toNat : Nat) : Int) = L j := by omega
    go_wp2_with fail
    exact bodyPost_ret (v := .tuple #[.int .i64 ((X.1 : Nat) : Int), .int .i64 X.2]) (by rw [HT.out, show ((((L j).toNat, (0 : Int)) : Nat × Int).1 : Int) = L j from hln]; simp [results, Tryz.results127, go_sem]) rfl ⟨rfl, S0.out.1⟩
   ·
    have hk0' : ((k : Int) == 0) = false := by simp; omega
    by_cases hkl : (k : Int) = L j
    ·
     have HT : Hid (X = ((acrossF 3 k).getD 0 0, 0)) := HX.out.symm.trans (by
      have hkn : k < 3 := by have := HKD.out; omega
      unfold exitF
      rcases (show k = 1 ∨ k = 2 by omega) with rfl | rfl <;> simp [h0, hkl] <;> decide)
     have hkl' : ((k : Int) != L j) = false := by simpa using hkl
     clear hkl
     have m3 := mo3
     go_wp2_with fail
     refine (overSwitch k V0 (by have := HKD.out; omega)).mono ?_
     rintro e w2 ⟨xa, xc, he2, hns, hb2⟩
     have HE : Hid (Below w.heap.size w w2) := S0.out.1.trans (hb2.mono S0.out.1.size)
     have HL : Hid (0 < (acrossF 3 k).length) := by
      have hkn : k < 3 := by have := HKD.out; omega
      show 0 < _
      clear hns HX
      rcases (show k = 0 ∨ k = 1 ∨ k = 2 by omega) with rfl | rfl | rfl <;> decide
     obtain ⟨xb, xo, rfl, _, hxb, hxc⟩ := hns HL.out
     have x0 : w2.cell? ⟨xb, xo, none⟩ = some (.int .i64 (((acrossF 3 k).getD 0 0 : Nat) : Int)) := hxc 0 HL.out 0 (by omega)
     obtain ⟨ln, HLN⟩ : ∃ ln, Hid ((acrossF 3 k).length = ln) := ⟨_, rfl⟩
     have hl0 : (0 : Int) < (ln : Int) := by have := HL.out; rw [HLN.out] at this; omega
     rw [HLN.out] at he2
     subst he2
     clear hxc hb2 hns
     go_wp2_with fail
     exact bodyPost_ret (v := .tuple #[.int .i64 ((X.1 : Nat) : Int), .int .i64 X.2]) (by rw [HT.out]; simp [results, Tryz.results127, go_sem]) rfl ⟨rfl, HE.out⟩
    ·
     have HT : Hid (X = (0, 3)) := HX.out.symm.trans (by unfold exitF; simp [h0, hk0, hkl])
     have hkl' : ((k : Int) != L j) = true := by simpa using hkl
     clear hkl
     go_wp2_with fail
     exact bodyPost_ret (v := .tuple #[.int .i64 ((X.1 : Nat) : Int), .int .i64 X.2]) (by rw [HT.out]; simp [results, Tryz.results127, go_sem]) rfl ⟨rfl, S0.out.1⟩
 ·
  rw [hc] at he HX
  have he : e = .returned (.iface 185 (.agg #[])) := he
  have y0 := ta108_106
  have y1 := ta108_105
  subst he
  have HT : Hid (X = ((acrossF 4 k).getD 0 0, 0)) := HX.out.symm.trans rfl
  have m4 := mo4
  go_wp2_with fail
  refine (overCross k V0 (by have := HKD.out; omega)).mono ?_
  rintro e w2 ⟨xa, xc, he2, hns, hb2⟩
  have HE : Hid (Below w.heap.size w w2) := S0.out.1.trans (hb2.mono S0.out.1.size)
  have HL : Hid (0 < (acrossF 4 k).length) := by
   have hkn : k < 4 := by have := HKD.out; omega
   show 0 < _
   clear hns HX
   rcases (show k = 0 ∨ k = 1 ∨ k = 2 ∨ k = 3 by omega) with rfl | rfl | rfl | rfl <;> decide
  obtain ⟨xb, xo, rfl, _, hxb, hxc⟩ := hns HL.out
  have x0 : w2.cell? ⟨xb, xo, none⟩ = some (.int .i64 (((acrossF 4 k).getD 0 0 : Nat) : Int)) := hxc 0 HL.out 0 (by omega)
  obtain ⟨ln, HLN⟩ : ∃ ln, Hid ((acrossF 4 k).length = ln) := ⟨_, rfl⟩
  have hl0 : (0 : Int) < (ln : Int) := by have := HL.out; rw [HLN.out] at this; omega
  rw [HLN.out] at he2
  subst he2
  clear hxc hb2 hns
  go_wp2_with fail
  exact bodyPost_ret (v := .tuple #[.int .i64 ((X.1 : Nat) : Int), .int .i64 X.2]) (by rw [HT.out]; simp [results, Tryz.results127, go_sem]) rfl ⟨rfl, HE.out⟩
theorem exit_lt {v : Nv} (ok : v.Ok) {L : Nat → Int} {j k : Nat} (hj : j < v.m) (hk : k < (v.J j).ne) (hl : lieB v.J L j = true) (h0 : (exitF (v.J j).kd (L j) k).2 = 0) : (exitF (v.J j).kd (L j) k).1 < (v.J j).ne := by
 obtain ⟨h1, h2, h3⟩ := ok.kd j hj
 have hlie : 0 ≤ L j ∧ L j ≤ 2 := by
  unfold lieB mostL inB at hl
  simp only [Bool.and_eq_true, decide_eq_true_eq] at hl
  split at hl <;> omega
 unfold exitF at h0 ⊢
 by_cases c1 : (v.J j).kd = 1
 ·
  rw [if_pos c1] at h0
  exact absurd h0 (by decide)
 rw [if_neg c1] at h0 ⊢
 by_cases c3 : (v.J j).kd = 3
 ·
  rw [if_pos c3] at h0 ⊢
  by_cases d0 : L j = 0
  ·
   rw [if_pos d0] at h0
   exact absurd h0 (by decide)
  rw [if_neg d0] at h0 ⊢
  split
  ·
   show (L j).toNat < _
   omega
  ·
   split <;> (show 0 < _; omega)
 rw [if_neg c3]
 refine exits_lt h1 h2 h3 hk ?_
 rcases (show (v.J j).kd = 2 ∨ (v.J j).kd = 4 by omega) with e | e
 ·
  rw [e] at h3 ⊢
  rcases (show k = 0 ∨ k = 1 by omega) with rfl | rfl <;> decide
 ·
  rw [e] at h3 ⊢
  rcases (show k = 0 ∨ k = 1 ∨ k = 2 ∨ k = 3 by omega) with rfl | rfl | rfl | rfl <;> decide
def exitAt (v : Nv) (L : Nat → Int) (p : Nat) (wa : Int) : Nat × Int := exitF (v.J (v.at (headE p wa)).1).kd (L (v.at (headE p wa)).1) (v.at (headE p wa)).2
def nextAt (v : Nv) (L : Nat → Int) (p : Nat) (wa : Int) : En := (v.J (v.at (headE p wa)).1).E (exitAt v L p wa).1
def OvR (w : World) (v : Nv) (L : Nat → Int) (p : Nat) (wa : Int) (e : Ending) (w' : World) : Prop := ∃ a b : Int, e = .returned (.tuple #[.agg #[.int .i64 a, .int .i64 b], .int .i64 (exitAt v L p wa).2]) ∧ ((exitAt v L p wa).2 = 0 → a = (nextAt v L p wa).pc ∧ b = wayOf (nextAt v L p wa)) ∧ Below w.heap.size w w'
set_option maxRecDepth 100000 in
set_option maxHeartbeats 8000000 in
theorem over80 {v : Nv} (ok : v.Ok) {bt sb : Nat} {pa : Option Addr} {pc : Nat} {ja : Option Addr} {jc : Nat} (p : Nat) (wa : Int) (la : Option Addr) (lc : Nat) (L : Nat → Int) (w : World) (h : TkAt w bt sb v pa pc ja jc) (hp : p < v.n) (hwa : wa = 1 ∨ wa = -1) (hL : IsAt 0 w la v.m L) (hl : ∀ i, i < v.m → lieB v.J L i = true) :
  Calls Tryz.prog 91 #[.agg #[.pointer (some ⟨bt, 0, none⟩), .slice la v.m lc], .agg #[.int .i64 (p : Int), .int .i64 wa]] w fun e w' => OvR w v L p wa e w' := by
 have H : Hid (v.Ok ∧ TkAt w bt sb v pa pc ja jc ∧ IsAt 0 w la v.m L ∧ (∀ i, i < v.m → lieB v.J L i = true)) := ⟨ok, h, hL, hl⟩
 have hm1 := ok.m1
 obtain ⟨h0, h1, h2⟩ : 0 ≤ (headE p wa).pc ∧ (headE p wa).pc < v.n ∧ ((headE p wa).sd = 0 ∨ (headE p wa).sd = 1) := by
  refine ⟨by show (0 : Int) ≤ (p : Int); omega, by show (p : Int) < (v.n : Int); omega, ?_⟩
  show (if wa = 1 then (1 : Int) else 0) = 0 ∨ (if wa = 1 then (1 : Int) else 0) = 1
  split
  ·
   exact Or.inr rfl
  ·
   exact Or.inl rfl
 obtain ⟨j, k, hat, hja, hjm, hkn, hEk, hk1, hk2, hk3⟩ := ok.there h0 h1 h2
 have HAT : Hid (v.at (headE p wa) = (j, k)) := hat
 obtain ⟨x, y, HX⟩ : ∃ x y, Hid (exitAt v L p wa = (x, y)) := ⟨_, _, rfl⟩
 have HX2 : Hid (exitF (v.J j).kd (L j) k = (x, y)) := by show _ = _; rw [← HX.out, exitAt, HAT.out]
 have HNX : Hid (nextAt v L p wa = (v.J j).E x) := by show _ = _; rw [nextAt, HX.out, HAT.out]
 have HXL : Hid (y = 0 → x < (v.J j).ne) := fun hy => by
  have := exit_lt ok hjm hkn (hl j hjm) (by rw [HX2.out]; exact hy)
  rwa [HX2.out] at this
 have HFIN : Hid (∀ a b e w', e = .returned (.tuple #[.agg #[.int .i64 a, .int .i64 b], .int .i64 y]) → (y = 0 → a = ((v.J j).E x).pc ∧ b = wayOf ((v.J j).E x)) → Below w.heap.size w w' → OvR w v L p wa e w') := fun a b e w' he hab hb => ⟨a, b, by rw [HX.out]; exact he, by rw [HX.out, HNX.out]; exact hab, hb⟩
 have S0 : Hid (Below w.heap.size w (((w.alloc (.cells #[.pointer (some ⟨bt, 0, none⟩), .slice la v.m lc] 87)).alloc (.cells #[.int .i64 (p : Int), .int .i64 wa] 74)).alloc (.cells #[.int .i64 0, .int .i64 0] 74)) ∧ Box (((w.alloc (.cells #[.pointer (some ⟨bt, 0, none⟩), .slice la v.m lc] 87)).alloc (.cells #[.int .i64 (p : Int), .int .i64 wa] 74)).alloc (.cells #[.int .i64 0, .int .i64 0] 74)) (w.heap.size) 87 #[.pointer (some ⟨bt, 0, none⟩), .slice la v.m lc] ∧ Box (((w.alloc (.cells #[.pointer (some ⟨bt, 0, none⟩), .slice la v.m lc] 87)).alloc (.cells #[.int .i64 (p : Int), .int .i64 wa] 74)).alloc (.cells #[.int .i64 0, .int .i64 0] 74)) (w.heap.size + 1) 74 #[.int .i64 (p : Int), .int .i64 wa] ∧ Box (((w.alloc (.cells #[.pointer (some ⟨bt, 0, none⟩), .slice la v.m lc] 87)).alloc (.cells #[.int .i64 (p : Int), .int .i64 wa] 74)).alloc (.cells #[.int .i64 0, .int .i64 0] 74)) (w.heap.size + 1 + 1) 74 #[.int .i64 0, .int .i64 0]) := ⟨((Below.refl _ _).alloc nr _ |>.alloc (by simp) _ |>.alloc (by simp; omega) _), ((Box.new _ _ _).alloc _).alloc _, by have := (Box.new (w.alloc (.cells #[.pointer (some ⟨bt, 0, none⟩), .slice la v.m lc] 87)) 74 #[.int .i64 (p : Int), .int .i64 wa]).alloc (.cells #[.int .i64 0, .int .i64 0] 74); simpa using this, by have := Box.new ((w.alloc (.cells #[.pointer (some ⟨bt, 0, none⟩), .slice la v.m lc] 87)).alloc (.cells #[.int .i64 (p : Int), .int .i64 wa] 74)) 74 #[.int .i64 0, .int .i64 0]; simpa using this⟩
 clear ok h hL hl h0 h1 h2 hat hja hEk hk1 hk2 hk3
 go_enter Tryz.func91, Tryz.ntmps91
 go_upto_region 1 with fail
 generalize (((w.alloc (.cells #[.pointer (some ⟨bt, 0, none⟩), .slice la v.m lc] 87)).alloc (.cells #[.int .i64 (p : Int), .int .i64 wa] 74)).alloc (.cells #[.int .i64 0, .int .i64 0] 74)) = V0 at S0 ⊢
 have a0 := S0.out.2.1.cel 0
 have a1 := S0.out.2.1.cel 1
 have b0 := S0.out.2.2.1.cel 0
 have b1 := S0.out.2.2.1.cel 1
 have c0 := S0.out.2.2.2.cel 0
 have c1 := S0.out.2.2.2.cel 1
 go_wp2_with fail
 clear a0 a1 b0 b1 c0 c1
 refine (ahead95 H.out.1 p wa V0 (H.out.2.1.mono S0.out.1 nr) hp hwa).mono ?_
 rw [HAT.out]
 rintro e w1 ⟨rfl, hb1⟩
 have M1 : Hid (Below w.heap.size w w1 ∧ Box w1 (w.heap.size) 87 #[.pointer (some ⟨bt, 0, none⟩), .slice la v.m lc] ∧ Box w1 (w.heap.size + 1) 74 #[.int .i64 (p : Int), .int .i64 wa] ∧ Box w1 (w.heap.size + 1 + 1) 74 #[.int .i64 0, .int .i64 0]) := ⟨S0.out.1.trans (hb1.mono S0.out.1.size), S0.out.2.1.mono hb1 nr, S0.out.2.2.1.mono hb1 nr, S0.out.2.2.2.mono hb1 nr⟩
 clear hb1 S0
 have M2 : Hid ((Below w.heap.size w (w1.alloc (.cells #[.int .i64 (j : Int), .int .i64 (k : Int)] 172)) ∧ Box (w1.alloc (.cells #[.int .i64 (j : Int), .int .i64 (k : Int)] 172)) (w.heap.size) 87 #[.pointer (some ⟨bt, 0, none⟩), .slice la v.m lc] ∧ Box (w1.alloc (.cells #[.int .i64 (j : Int), .int .i64 (k : Int)] 172)) (w.heap.size + 1) 74 #[.int .i64 (p : Int), .int .i64 wa] ∧ Box (w1.alloc (.cells #[.int .i64 (j : Int), .int .i64 (k : Int)] 172)) (w.heap.size + 1 + 1) 74 #[.int .i64 0, .int .i64 0] ∧ Box (w1.alloc (.cells #[.int .i64 (j : Int), .int .i64 (k : Int)] 172)) w1.heap.size 172 #[.int .i64 (j : Int), .int .i64 (k : Int)]) ∧ w.heap.size + 1 + 1 < w1.heap.size) := ⟨⟨M1.out.1.alloc M1.out.1.size _, M1.out.2.1.alloc _, M1.out.2.2.1.alloc _, M1.out.2.2.2.alloc _, Box.new _ _ _⟩, M1.out.2.2.2.lt⟩
 clear M1
 go_upto_region 2 with fail
 generalize w1.alloc (.cells #[.int .i64 (j : Int), .int .i64 (k : Int)] 172) = V1 at M2 ⊢
 generalize w1.heap.size = aq at M2 ⊢
 have HAQ : Hid (aq ≠ w.heap.size + 1 + 1) := by have := M2.out.2; show aq ≠ _; omega
 have M3 : Hid (Below w.heap.size w V1 ∧ Box V1 (w.heap.size) 87 #[.pointer (some ⟨bt, 0, none⟩), .slice la v.m lc] ∧ Box V1 (w.heap.size + 1) 74 #[.int .i64 (p : Int), .int .i64 wa] ∧ Box V1 (w.heap.size + 1 + 1) 74 #[.int .i64 0, .int .i64 0] ∧ Box V1 (aq) 172 #[.int .i64 (j : Int), .int .i64 (k : Int)]) := M2.out.1
 clear M2
 have a0 := M3.out.2.1.cel 0
 have a1 := M3.out.2.1.cel 1
 have b0 := M3.out.2.2.1.cel 0
 have b1 := M3.out.2.2.1.cel 1
 have c0 := M3.out.2.2.2.1.cel 0
 have c1 := M3.out.2.2.2.1.cel 1
 have d0 := M3.out.2.2.2.2.cel 0
 have d1 := M3.out.2.2.2.2.cel 1
 go_wp2_with fail
 clear a0 a1 b0 b1 c0 c1 d0 d1
 refine (exit102 H.out.1 j k la lc L V1 (H.out.2.1.mono M3.out.1 nr) hjm hkn (H.out.2.2.1.mono nr M3.out.1 nr) (H.out.2.2.2 j hjm)).mono ?_
 rw [HX2.out]
 rintro e V2 ⟨rfl, hb2⟩
 have M4 : Hid (Below w.heap.size w V2 ∧ Box V2 (w.heap.size) 87 #[.pointer (some ⟨bt, 0, none⟩), .slice la v.m lc] ∧ Box V2 (w.heap.size + 1) 74 #[.int .i64 (p : Int), .int .i64 wa] ∧ Box V2 (w.heap.size + 1 + 1) 74 #[.int .i64 0, .int .i64 0] ∧ Box V2 (aq) 172 #[.int .i64 (j : Int), .int .i64 (k : Int)]) := ⟨M3.out.1.trans (hb2.mono M3.out.1.size), M3.out.2.1.mono hb2 nr, M3.out.2.2.1.mono hb2 nr, M3.out.2.2.2.1.mono hb2 nr, M3.out.2.2.2.2.mono hb2 nr⟩
 clear hb2 M3
 by_cases hy : y = 0
 ·
  subst hy
  have hxn : x < (v.J j).ne := HXL.out rfl
  have MD : Hid (Below w.heap.size w V2.drew ∧ Box V2.drew (w.heap.size) 87 #[.pointer (some ⟨bt, 0, none⟩), .slice la v.m lc] ∧ Box V2.drew (w.heap.size + 1) 74 #[.int .i64 (p : Int), .int .i64 wa] ∧ Box V2.drew (w.heap.size + 1 + 1) 74 #[.int .i64 0, .int .i64 0] ∧ Box V2.drew (aq) 172 #[.int .i64 (j : Int), .int .i64 (k : Int)]) := ⟨M4.out.1.drew, M4.out.2.1.drew, M4.out.2.2.1.drew, M4.out.2.2.2.1.drew, M4.out.2.2.2.2.drew⟩
  have DR : Hid (Below V2.heap.size V2 V2.drew) := (Below.refl _ _).drew
  obtain ⟨jb, jo, hje, _, hjb, hjc⟩ := H.out.2.1.j (by omega)
  obtain ⟨ea, ec, c0, c1, c2, hEs⟩ := hjc j hjm
  obtain ⟨eb, eo, hee, _, heb, hec⟩ := hEs (by omega)
  obtain ⟨d0, d1⟩ := hec x hxn
  have HSD : Hid (((v.J j).E x).sd = 0 ∨ ((v.J j).E x).sd = 1) := (H.out.1.en j hjm x hxn).2.2
  obtain ⟨ep, HEP⟩ : ∃ z, Hid (((v.J j).E x).pc = z) := ⟨_, rfl⟩
  obtain ⟨es, HES⟩ : ∃ z, Hid (((v.J j).E x).sd = z) := ⟨_, rfl⟩
  rw [HEP.out] at d0
  rw [HES.out] at d1
  rw [hee] at c2
  have hbt := H.out.2.1.box.lt
  have f1 : V2.cell? ⟨bt, 1, none⟩ = some (.slice (some ⟨jb, jo, none⟩) v.m jc) := cell_keep M4.out.1 hbt (by rw [← hje]; exact H.out.2.1.box.cell 1)
  have c2 : V2.cell? ⟨jb, jo + j * 3 + 2, none⟩ = some (.slice (some ⟨eb, eo, none⟩) (v.J j).ne ec) := cell_keep M4.out.1 hjb c2
  have d0 : V2.cell? ⟨eb, eo + x * 2, none⟩ = some (.int .i64 ep) := cell_keep M4.out.1 heb d0
  have d1 : V2.cell? ⟨eb, eo + x * 2 + 1, none⟩ = some (.int .i64 es) := cell_keep M4.out.1 heb d1
  have HCL : Hid (jb < V2.heap.size ∧ eb < V2.heap.size ∧ bt < V2.heap.size) := by have := M4.out.1.size; exact ⟨by omega, by omega, by omega⟩
  have HNE3 : Hid (bt ≠ w.heap.size + 1 + 1 ∧ jb ≠ w.heap.size + 1 + 1 ∧ eb ≠ w.heap.size + 1 + 1) := ⟨by omega, by omega, by omega⟩
  have hes : es = 0 ∨ es = 1 := by rw [← HES.out]; exact HSD.out
  obtain ⟨wy, HWY⟩ : ∃ z, Hid (wayOf ⟨ep, es⟩ = z) := ⟨_, rfl⟩
  have HRS : Hid (ep = ((v.J j).E x).pc ∧ wy = wayOf ((v.J j).E x)) := ⟨HEP.out.symm, by rw [← HWY.out, ← HEP.out, ← HES.out]⟩
  have HAH : Hid (w.heap.size ≠ w.heap.size + 1 + 1) := by show w.heap.size ≠ _; omega
  have hji : (j : Int) < (v.m : Int) := by omega
  have hj0 : (0 : Int) ≤ (j : Int) := by omega
  have hx0 : (0 : Int) ≤ (x : Int) := by omega
  have hxi : (x : Int) < ((v.J j).ne : Int) := by omega
  have r0 := M4.out.2.1.cel 0
  have a0 := M4.out.2.2.2.2.cel 0
  clear hjc hEs hec c0 c1 hje hee hjb heb hbt
  go_wp2_with fail
  refine wp_region_held_drew (S := (fun wx : World => wx.cell? ⟨bt, 1, none⟩ = some (.slice (some ⟨jb, jo, none⟩) v.m jc) ∧ wx.cell? ⟨w.heap.size, 0, none⟩ = some (.pointer (some ⟨bt, 0, none⟩)) ∧ wx.cell? ⟨aq, 0, none⟩ = some (.int .i64 (j : Int)) ∧ wx.cell? ⟨jb, jo + j * 3 + 2, none⟩ = some (.slice (some ⟨eb, eo, none⟩) (v.J j).ne ec) ∧ wx.cell? ⟨eb, eo + x * 2, none⟩ = some (.int .i64 ep) ∧ wx.cell? ⟨eb, eo + x * 2 + 1, none⟩ = some (.int .i64 es))) (by kernel_rfl) ?_ (fun hHeld => ?_)
  ·
   exact ⟨f1, r0, a0, c2, d0, d1⟩
  refine tk 0 ?_
  refine tk 1 ?_
  refine tk 2 ?_
  refine tk 3 ?_
  refine tk 4 ?_
  refine tk 5 ?_
  refine tk 6 ?_
  refine tk 7 ?_
  refine tk 8 ?_
  refine tk 9 ?_
  refine tk 10 ?_
  refine tk 11 ?_
  refine tk 12 ?_
  refine tk 13 ?_
  refine rl 14 fun K hK => ?_
  go_simp
  refine (away101 ep es _ hes).mono ?_
  rw [HWY.out]
  rintro e w6 ⟨rfl, hb6⟩
  have M6 : Hid (Below w.heap.size w w6 ∧ Box w6 (w.heap.size) 87 #[.pointer (some ⟨bt, 0, none⟩), .slice la v.m lc] ∧ Box w6 (w.heap.size + 1) 74 #[.int .i64 (p : Int), .int .i64 wa] ∧ Box w6 (w.heap.size + 1 + 1) 74 #[.int .i64 0, .int .i64 0] ∧ Box w6 (aq) 172 #[.int .i64 (j : Int), .int .i64 (k : Int)]) := ⟨MD.out.1.trans (hb6.mono MD.out.1.size), MD.out.2.1.mono hb6 nr, MD.out.2.2.1.mono hb6 nr, MD.out.2.2.2.1.mono hb6 nr, MD.out.2.2.2.2.mono hb6 nr⟩
  have HB6 : Hid (Below V2.heap.size V2 w6) := DR.out.trans (hb6.mono DR.out.size)
  clear hb6
  go_wp2_with fail
  refine hK.out _ _ ?_ (fun hHeld14 => ?_)
  ·
   exact ⟨cell_keep HB6.out HCL.out.2.2 f1, M6.out.2.1.cell 0, M6.out.2.2.2.2.cell 0, cell_keep HB6.out HCL.out.1 c2, cell_keep HB6.out HCL.out.2.1 d0, cell_keep HB6.out HCL.out.2.1 d1⟩
  clear hK K
  refine rl 15 fun K hK => ?_
  have z0 := M6.out.2.2.2.1.cel 0
  have z1 := M6.out.2.2.2.1.cel 1
  have q0 := M6.out.2.2.2.1.free 0
  have q1 := M6.out.2.2.2.1.free 1
  have MF : Hid ((Below w.heap.size w ((w6.setCell ⟨w.heap.size + 1 + 1, 0, none⟩ (.int .i64 ep)).setCell ⟨w.heap.size + 1 + 1, 1, none⟩ (.int .i64 wy)) ∧ Box ((w6.setCell ⟨w.heap.size + 1 + 1, 0, none⟩ (.int .i64 ep)).setCell ⟨w.heap.size + 1 + 1, 1, none⟩ (.int .i64 wy)) (w.heap.size + 1 + 1) 74 #[.int .i64 ep, .int .i64 wy]) ∧ (Box ((w6.setCell ⟨w.heap.size + 1 + 1, 0, none⟩ (.int .i64 ep)).setCell ⟨w.heap.size + 1 + 1, 1, none⟩ (.int .i64 wy)) (w.heap.size) 87 #[.pointer (some ⟨bt, 0, none⟩), .slice la v.m lc] ∧ Box ((w6.setCell ⟨w.heap.size + 1 + 1, 0, none⟩ (.int .i64 ep)).setCell ⟨w.heap.size + 1 + 1, 1, none⟩ (.int .i64 wy)) aq 172 #[.int .i64 (j : Int), .int .i64 (k : Int)]) ∧ (∀ b o, b ≠ w.heap.size + 1 + 1 → ((w6.setCell ⟨w.heap.size + 1 + 1, 0, none⟩ (.int .i64 ep)).setCell ⟨w.heap.size + 1 + 1, 1, none⟩ (.int .i64 wy)).cell? ⟨b, o, none⟩ = w6.cell? ⟨b, o, none⟩)) := ⟨⟨(M6.out.1.setCell (Nat.le_add_right _ 2) _).setCell (Nat.le_add_right _ 2) _, by
   have h9 := (M6.out.2.2.2.1.set 0 (.int .i64 ep)).set 1 (.int .i64 wy)
   exact h9⟩, ⟨(M6.out.2.1.other HAH.out _).other HAH.out _, (M6.out.2.2.2.2.other HAQ.out _).other HAQ.out _⟩, fun b o hb => by
   have hk : ((w6.setCell ⟨w.heap.size + 1 + 1, 0, none⟩ (.int .i64 ep)).setCell ⟨w.heap.size + 1 + 1, 1, none⟩ (.int .i64 wy)).heap[b]? = w6.heap[b]? := (Below.heap_setCell _ ⟨w.heap.size + 1 + 1, 1, none⟩ _ b hb).trans (Below.heap_setCell _ ⟨w.heap.size + 1 + 1, 0, none⟩ _ b hb)
   simp only [World.cell?, hk]⟩
  go_simp
  refine hK.out _ _ ?_ (fun hHeld15 => ?_)
  ·
   exact ⟨(MF.out.2.2 _ _ HNE3.out.1).trans (cell_keep HB6.out HCL.out.2.2 f1), MF.out.2.1.1.cell 0, MF.out.2.1.2.cell 0, (MF.out.2.2 _ _ HNE3.out.2.1).trans (cell_keep HB6.out HCL.out.1 c2), (MF.out.2.2 _ _ HNE3.out.2.2).trans (cell_keep HB6.out HCL.out.2.1 d0), (MF.out.2.2 _ _ HNE3.out.2.2).trans (cell_keep HB6.out HCL.out.2.1 d1)⟩
  clear hK K
  refine tk 16 ?_
  refine wpAnyH_done (by kernel_rfl) ?_ _
  generalize ((w6.setCell ⟨w.heap.size + 1 + 1, 0, none⟩ (.int .i64 ep)).setCell ⟨w.heap.size + 1 + 1, 1, none⟩ (.int .i64 wy)) = W9 at MF ⊢
  clear z0 z1 q0 q1
  have z0 := MF.out.1.2.cel 0
  have z1 := MF.out.1.2.cel 1
  go_wp2_with fail
  exact bodyPost_ret (v := .tuple #[.agg #[.int .i64 ep, .int .i64 wy], .int .i64 0]) (by simp [results, Tryz.results91, go_sem, z0, z1]) rfl (HFIN.out ep wy _ _ rfl (fun _ => HRS.out) MF.out.1.1)
 ·
  have hy' : (y != 0) = true := by simpa using hy
  have z0 := M4.out.2.2.2.1.cel 0
  have z1 := M4.out.2.2.2.1.cel 1
  have q0 := M4.out.2.2.2.1.free 0
  have q1 := M4.out.2.2.2.1.free 1
  have MF : Hid (Below w.heap.size w ((V2.setCell ⟨w.heap.size + 1 + 1, 0, none⟩ (.int .i64 0)).setCell ⟨w.heap.size + 1 + 1, 1, none⟩ (.int .i64 0)) ∧ Box ((V2.setCell ⟨w.heap.size + 1 + 1, 0, none⟩ (.int .i64 0)).setCell ⟨w.heap.size + 1 + 1, 1, none⟩ (.int .i64 0)) (w.heap.size + 1 + 1) 74 #[.int .i64 0, .int .i64 0]) := ⟨(M4.out.1.setCell (Nat.le_add_right _ 2) _).setCell (Nat.le_add_right _ 2) _, by
   have h9 := (M4.out.2.2.2.1.set 0 (.int .i64 0)).set 1 (.int .i64 0)
   exact h9⟩
  go_wp2_with fail
  generalize ((V2.setCell ⟨w.heap.size + 1 + 1, 0, none⟩ (.int .i64 0)).setCell ⟨w.heap.size + 1 + 1, 1, none⟩ (.int .i64 0)) = W9 at MF ⊢
  clear z0 z1 q0 q1
  have z0 := MF.out.2.cel 0
  have z1 := MF.out.2.cel 1
  exact bodyPost_ret (v := .tuple #[.agg #[.int .i64 0, .int .i64 0], .int .i64 y]) (by simp [results, Tryz.results91, go_sem, z0, z1]) rfl (HFIN.out 0 0 _ _ rfl (fun h => absurd h hy) MF.out.1)
def railB (v : Nv) (L : Nat → Int) (p : Nat) (wa : Int) (q : Nat) (wb : Int) : Bool := decide ((exitAt v L p wa).2 = 0) && eqB (nextAt v L p wa) (headE q (-wb))
end Go.Proofs.YtjhmaofjmalglaaGreat
