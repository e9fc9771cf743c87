import Derived.Test.YtjhmaofjmalglaaGreatZas
import Derived.Test.YtjhmaofjmalglaaGreatZar
namespace Go.Proofs.YtjhmaofjmalglaaGreat
open Go.RowKit Go.Lib
structure TkAt (w : World) (bt sb : Nat) (v : Nv) (pa : Option Addr) (pc : Nat) (ja : Option Addr) (jc : Nat) : Prop where
 box : Box w bt 189 #[.slice pa v.n pc, .slice ja v.m jc, .slice none 0 0, .slice (some ⟨sb, 0, none⟩) v.n v.n]
 lt : sb < w.heap.size
 st : ∀ q s : Nat, q < v.n → s < 2 → w.cell? ⟨sb, q * 4 + s * 2, none⟩ = some (.int .i64 (v.at ⟨q, s⟩).1) ∧ w.cell? ⟨sb, q * 4 + s * 2 + 1, none⟩ = some (.int .i64 (v.at ⟨q, s⟩).2)
 p : PsAt 0 w pa v.n v.P
 j : JsAt 0 w ja v.m v.J
theorem TkAt.mono {w w' : World} {bt sb : Nat} {v : Nv} {pa : Option Addr} {pc : Nat} {ja : Option Addr} {jc : Nat} {N : Nat} (h : TkAt w bt sb v pa pc ja jc) (hb : Below N w w') (hN : w.heap.size ≤ N) : TkAt w' bt sb v pa pc ja jc :=
 have k : ∀ o, w'.cell? ⟨sb, o, none⟩ = w.cell? ⟨sb, o, none⟩ := fun o => hb.cell (p := ⟨sb, o, none⟩) (by have := h.lt; show sb < N; omega)
 ⟨h.box.mono hb hN, by have := h.lt; have := hb.size; omega, fun q s hq hs => ⟨(k _).trans (h.st q s hq hs).1, (k _).trans (h.st q s hq hs).2⟩, h.p.mono nr hb hN, h.j.mono nr hb hN⟩
theorem step79 (p a way : Int) (w : World) :
  Calls Tryz.prog 87 #[.agg #[.int .i64 p, .int .i64 a, .int .i64 way]] w fun e w' => e = .returned (.agg #[.int .i64 p, .int .i64 way]) ∧ Below w.heap.size w w' := by
 go_enter Tryz.func87, Tryz.ntmps87
 go_wp2
 exact bodyPost_ret (v := .agg #[.int .i64 p, .int .i64 way]) (by simp [results, Tryz.results87, go_sem]) rfl ⟨rfl, bel2 _ _ _⟩
set_option maxHeartbeats 1000000 in
theorem long99 {v : Nv} (ok : v.Ok) {bt sb : Nat} {pa : Option Addr} {pc : Nat} {ja : Option Addr} {jc : Nat} (p : Nat) (way : Int) (w : World) (h : TkAt w bt sb v pa pc ja jc) (hp : p < v.n) :
  Calls Tryz.prog 90 #[.pointer (some ⟨bt, 0, none⟩), .agg #[.int .i64 (p : Int), .int .i64 way]] w fun e w' => e = .returned (.int .i64 (v.P p).ln) ∧ Below w.heap.size w w' := by
 obtain ⟨b, off, rfl, _, hb, hc⟩ := h.p (by omega)
 have S0 : Hid (Below w.heap.size w (w.alloc (.cells #[.int .i64 (p : Int), .int .i64 way] 74)) ∧ Box (w.alloc (.cells #[.int .i64 (p : Int), .int .i64 way] 74)) w.heap.size 74 #[.int .i64 (p : Int), .int .i64 way] ∧ Box (w.alloc (.cells #[.int .i64 (p : Int), .int .i64 way] 74)) bt 189 #[.slice (some ⟨b, off, none⟩) v.n pc, .slice ja v.m jc, .slice none 0 0, .slice (some ⟨sb, 0, none⟩) v.n v.n]) := ⟨bel1 _ _, Box.new _ _ _, h.box.alloc _⟩
 have c1 : (w.alloc (.cells #[.int .i64 (p : Int), .int .i64 way] 74)).cell? ⟨b, off + p * 4 + 1, none⟩ = some (.int .i64 (v.P p).ln) := cell_keep S0.out.1 hb (hc p hp).2.1
 have hpi : (p : Int) < (v.n : Int) := by omega
 have hp0 : (0 : Int) ≤ (p : Int) := by omega
 have hn := ok.n1
 clear hc h ok hb
 go_enter Tryz.func90, Tryz.ntmps90
 go_upto_region 1 with fail
 generalize (w.alloc (.cells #[.int .i64 (p : Int), .int .i64 way] 74)) = V0 at S0 c1 ⊢
 have f0 := S0.out.2.2.cel 0
 have s0 := S0.out.2.1.cel 0
 go_wp2_with fail
 go_quiet (fail)
 go_wp2_with fail
 go_ret
 exact ⟨rfl, below_drewN S0.out.1 _⟩
set_option maxHeartbeats 1000000 in
theorem along98 {v : Nv} (ok : v.Ok) {bt sb : Nat} {pa : Option Addr} {pc : Nat} {ja : Option Addr} {jc : Nat} (p : Nat) (way at' : Int) (w : World) (h : TkAt w bt sb v pa pc ja jc) (hp : p < v.n) (ha : 0 ≤ at' ∧ at' ≤ 10000000) :
  Calls Tryz.prog 89 #[.pointer (some ⟨bt, 0, none⟩), .agg #[.int .i64 (p : Int), .int .i64 way], .int .i64 at'] w fun e w' => e = .returned (.int .i64 (farI (v.P p).ln at' way)) ∧ Below w.heap.size w w' := by
 have HT : Hid (TkAt w bt sb v pa pc ja jc ∧ v.Ok) := ⟨h, ok⟩
 have S0 : Hid (Below w.heap.size w (w.alloc (.cells #[.int .i64 (p : Int), .int .i64 way] 74)) ∧ Box (w.alloc (.cells #[.int .i64 (p : Int), .int .i64 way] 74)) w.heap.size 74 #[.int .i64 (p : Int), .int .i64 way]) := ⟨bel1 _ _, Box.new _ _ _⟩
 have hl := ok.ln p hp
 clear h ok
 by_cases hw : way = 1
 ·
  have HR : Hid (farI (v.P p).ln at' way = at') := if_pos hw
  rw [HR.out]
  subst hw
  go_enter Tryz.func89, Tryz.ntmps89
  go_upto_region 1 with fail
  generalize (w.alloc (.cells #[.int .i64 (p : Int), .int .i64 1] 74)) = V0 at S0 ⊢
  have s1 := S0.out.2.cel 1
  go_wp2_with fail
  go_ret
  exact ⟨rfl, S0.out.1⟩
 ·
  have HR : Hid (farI (v.P p).ln at' way = (v.P p).ln - at') := if_neg hw
  have hw' : (way == 1) = false := by simpa using hw
  rw [HR.out]
  clear hw
  have hwr : IntKind.i64.wrap ((v.P p).ln - at') = (v.P p).ln - at' := by rw [IntKind.wrap_i64]; omega
  go_enter Tryz.func89, Tryz.ntmps89
  go_upto_region 1 with fail
  generalize (w.alloc (.cells #[.int .i64 (p : Int), .int .i64 way] 74)) = V0 at S0 ⊢
  have s0 := S0.out.2.cel 0
  have s1 := S0.out.2.cel 1
  go_wp2_with fail
  refine (long99 HT.out.2 p way V0 (HT.out.1.mono S0.out.1 nr) hp).mono ?_
  rintro e w1 ⟨rfl, hb1⟩
  have HE : Hid (Below w.heap.size w w1) := S0.out.1.trans (hb1.mono S0.out.1.size)
  clear hb1
  go_wp2_with fail
  go_ret
  exact ⟨by first | rfl | (rw [← hwr]; rfl), HE.out⟩
set_option maxHeartbeats 2000000 in
theorem ahead95 {v : Nv} (ok : v.Ok) {bt sb : Nat} {pa : Option Addr} {pc : Nat} {ja : Option Addr} {jc : Nat} (p : Nat) (way : Int) (w : World) (h : TkAt w bt sb v pa pc ja jc) (hp : p < v.n) (hw : way = 1 ∨ way = -1) :
  Calls Tryz.prog 115 #[.pointer (some ⟨bt, 0, none⟩), .agg #[.int .i64 (p : Int), .int .i64 way]] w fun e w' => e = .returned (.agg #[.int .i64 (((v.at (headE p way)).1 : Nat) : Int), .int .i64 (((v.at (headE p way)).2 : Nat) : Int)]) ∧ Below w.heap.size w w' := by
 have hn := ok.n1
 have hpi : (p : Int) < (v.n : Int) := by omega
 have hp0 : (0 : Int) ≤ (p : Int) := by omega
 have hbl := h.box.lt
 have hsl := h.lt
 have f3 := h.box.cel 3
 rcases hw with rfl | rfl
 ·
  obtain ⟨c0, c1⟩ := h.st p 1 hp (by omega)
  have HE : Hid (headE p 1 = ⟨(p : Int), ((1 : Nat) : Int)⟩) := rfl
  have d0 : w.cell? ⟨sb, p * 4 + 2, none⟩ = some (.int .i64 (((v.at ⟨(p : Int), ((1 : Nat) : Int)⟩).1 : Nat) : Int)) := c0
  have d1 : w.cell? ⟨sb, p * 4 + 2 + 1, none⟩ = some (.int .i64 (((v.at ⟨(p : Int), ((1 : Nat) : Int)⟩).2 : Nat) : Int)) := c1
  rw [HE.out]
  generalize v.at ⟨(p : Int), ((1 : Nat) : Int)⟩ = z at *
  clear c0 c1 h ok
  go_enter Tryz.func115, Tryz.ntmps115
  go_wp2_with fail
  go_region
  all_goals
   go_wp2_with fail
   exact bodyPost_ret (v := .agg #[.int .i64 ((z.1 : Nat) : Int), .int .i64 ((z.2 : Nat) : Int)]) (by simp [results, Tryz.results115, go_sem]) rfl ⟨rfl, (bel2 _ _ _).drew⟩
 ·
  obtain ⟨c0, c1⟩ := h.st p 0 hp (by omega)
  have HE : Hid (headE p (-1) = ⟨(p : Int), ((0 : Nat) : Int)⟩) := rfl
  have d0 : w.cell? ⟨sb, p * 4, none⟩ = some (.int .i64 (((v.at ⟨(p : Int), ((0 : Nat) : Int)⟩).1 : Nat) : Int)) := c0
  have d1 : w.cell? ⟨sb, p * 4 + 1, none⟩ = some (.int .i64 (((v.at ⟨(p : Int), ((0 : Nat) : Int)⟩).2 : Nat) : Int)) := c1
  rw [HE.out]
  generalize v.at ⟨(p : Int), ((0 : Nat) : Int)⟩ = z at *
  clear c0 c1 h ok
  go_enter Tryz.func115, Tryz.ntmps115
  go_wp2_with fail
  go_region
  all_goals
   go_wp2_with fail
   exact bodyPost_ret (v := .agg #[.int .i64 ((z.1 : Nat) : Int), .int .i64 ((z.2 : Nat) : Int)]) (by simp [results, Tryz.results115, go_sem]) rfl ⟨rfl, (bel2 _ _ _).drew⟩
set_option maxHeartbeats 2000000 in
theorem kind96 {v : Nv} (ok : v.Ok) {bt sb : Nat} {pa : Option Addr} {pc : Nat} {ja : Option Addr} {jc : Nat} (j : Nat) (w : World) (h : TkAt w bt sb v pa pc ja jc) (hj : j < v.m) :
  Calls Tryz.prog 145 #[.pointer (some ⟨bt, 0, none⟩), .int .i64 (j : Int)] w fun e w' => e = .returned (kindV (v.J j).kd) ∧ w' = w := by
 obtain ⟨b, off, rfl, _, hb, hc⟩ := h.j (by omega)
 obtain ⟨ea, ec, c0, c1, c2, _⟩ := hc j hj
 have f1 := h.box.cel 1
 have hji : (j : Int) < (v.m : Int) := by omega
 have hm := ok.m1
 clear hc h ok
 go_enter Tryz.func145, Tryz.ntmps145
 go_wp2_with fail
 refine (kindOf44 (v.J j).kd _).mono ?_
 rintro e w1 ⟨rfl, rfl⟩
 go_wp2_with fail
 go_ret
 exact ⟨rfl, rfl⟩
end Go.Proofs.YtjhmaofjmalglaaGreat
