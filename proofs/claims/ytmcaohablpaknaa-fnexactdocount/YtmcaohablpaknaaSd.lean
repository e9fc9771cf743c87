import Derived.Test.YtmcaohablpaknaaSb
import Derived.Test.YtmcaohablpaknaaSa
import Derived.Test.YtmcaohablpaknaaSc
import Derived.Test.YtmcaohablpaknaaWz
import Derived.Deep.RegionHeld3
import Derived.Deep.CutBlock
import Derived.Deep.DeepCutAuto
namespace Go.Proofs.Ytmcaohablpaknaa
open Go.RowKit Go.ChangeShapes Go.WideShapes

theorem evB_dir {sec : Int} {n : Nat} {op of dir : Int} (h : evB sec n op of dir = true) (ho : op = 1 ∨ op = 2) : dir = 1 ∨ dir = -1 := by
  unfold evB at h
  rw [if_pos ho] at h
  simp only [Bool.and_eq_true, decide_eq_true_eq] at h
  omega
theorem secOk_last {d : Bool} {x : Sec} (h : secOk d x = true) : x.last = 1 ∨ x.last ≤ 0 := by
  simp only [secOk, Bool.and_eq_true, decide_eq_true_eq] at h
  have := h.1.1.2
  omega
/-- what the two sections of a counter that died have become, after k of them -/
def losN (S : Nat → Sec) (x y : Int) : Nat → Nat → Sec
  | 0 => S
  | 1 => loseF S x
  | _ => loseF (loseF S x) y

set_option maxRecDepth 100000 in
set_option maxHeartbeats 16000000 in
theorem doS_ok (sec : Int) (a : Option Addr) (n cap : Nat) (K : Nat → Nat → Int) (ok : Bool) (sa da : Option Addr) (ns nd sc dc : Nat) (S : Nat → Sec) (D : Nat → Bool) (op of dir : Int) (w : World) (hn : n ≤ 1048576) (hns : ns ≤ 1048576) (hnd : nd ≤ 1048576) (hE : VsAt 2 0 w a n (intF K)) (hS : VsAt 5 0 w sa ns (secF S)) (hD : VsAt 1 0 w da nd (boolF D)) (hv : dV sec n K ok ns nd S D op of dir = true) :
    Calls Try.prog 29 #[.agg #[.int .i64 sec, .slice a n cap], .agg #[.bool ok, .slice sa ns sc, .slice da nd dc], .agg #[.int .i64 op, .int .i64 of, .int .i64 dir]] w fun e w' => ∃ sa' sc' da' dc', e = .returned (.agg #[.int .i64 (doStep K n S D op dir of.toNat).1, .bool true, .slice sa' ns sc', .slice da' n dc']) ∧ StOwn w.heap.size w' sa' sc' da' dc' ns n (tellN K n (doStep K n S D op dir of.toNat).2.2 (doStep K n S D op dir of.toNat).2.1 ns) (doStep K n S D op dir of.toNat).2.2 ∧ Below w.heap.size w w' := by
  have hv2 : coB sec n K ok ns nd S D = true ∧ evB sec n op of dir = true := by unfold dV at hv; simpa using hv
  obtain ⟨hco, hev⟩ := hv2
  have hC := coB_iff hco
  obtain ⟨k1, k2, k3, k4, k5⟩ := hC
  have hG := layGood k1
  have n120 := hG.m
  have n60 : ns ≤ 60 := by have := hG.s2; omega
  have HVf : Hid ((decide (layOk sec n K = 0) && evB sec n op of dir) = true) := by
    show (_ && _) = true
    rw [hev, k1]
    rfl
  have HG : Hid (LayGood sec n K ∧ layOk sec n K = 0) := ⟨hG, k1⟩
  have HC : Hid (∀ i, i < ns → -1000000 ≤ (S i).count ∧ (S i).count ≤ 1000000) := fun i hi => secOk_range (k5 i hi)
  have HLast : Hid (∀ i, i < ns → (S i).last = 1 ∨ (S i).last ≤ 0) := fun i hi => secOk_last (k5 i hi)
  have HSec : Hid ((ns : Int) = sec) := k3
  have HCo : Hid (coB sec n K ok ns nd S D = true) := hco
  obtain rfl : n = nd := k4.symm
  subst k2
  clear k1 k3 k5 hG hv hco
  obtain ⟨o, hof⟩ : ∃ o : Nat, of = o := ⟨of.toNat, by rcases evB_cases hev with h | h | h | h | h <;> omega⟩
  subst hof
  rw [Int.toNat_natCast]
  have HEV := evB_cases hev
  have HEv : Hid ((op = 1 ∧ 0 ≤ (o : Int) ∧ (o : Int) < n) ∨ (op = 2 ∧ 0 ≤ (o : Int) ∧ (o : Int) < n) ∨ (op = 3 ∧ 0 ≤ (o : Int) ∧ (o : Int) < n ∧ dir = 0) ∨ (op = 4 ∧ 0 ≤ (o : Int) ∧ (o : Int) < n) ∨ (op = 5 ∧ 0 ≤ (o : Int) ∧ (o : Int) < sec)) := HEV
  have HDir : Hid (op = 1 ∨ op = 2 → dir = 1 ∨ dir = -1) := evB_dir hev
  clear HEV hev
  have HE0 : Hid (VsAt 2 0 w a n (intF K) ∧ VsAt 5 0 w sa ns (secF S) ∧ VsAt 1 0 w da n (boolF D)) := ⟨hE, hS, hD⟩
  clear hE hS hD
  go_enter Try.func29, Try.ntmps29
  go_wp2_with fail
  have HB0 : Hid (Below w.heap.size w ((((w.alloc (.cells #[.int .i64 sec, .slice a n cap] 29)).alloc (.cells #[.bool true, .slice sa ns sc, .slice da n dc] 42)).alloc (.cells #[.int .i64 op, .int .i64 (o : Int), .int .i64 dir] 49)).alloc (.cells #[.int .i64 0, .bool false, .slice none 0 0, .slice none 0 0] 57)) ∧ Box ((((w.alloc (.cells #[.int .i64 sec, .slice a n cap] 29)).alloc (.cells #[.bool true, .slice sa ns sc, .slice da n dc] 42)).alloc (.cells #[.int .i64 op, .int .i64 (o : Int), .int .i64 dir] 49)).alloc (.cells #[.int .i64 0, .bool false, .slice none 0 0, .slice none 0 0] 57)) w.heap.size 29 #[.int .i64 sec, .slice a n cap] ∧ Box ((((w.alloc (.cells #[.int .i64 sec, .slice a n cap] 29)).alloc (.cells #[.bool true, .slice sa ns sc, .slice da n dc] 42)).alloc (.cells #[.int .i64 op, .int .i64 (o : Int), .int .i64 dir] 49)).alloc (.cells #[.int .i64 0, .bool false, .slice none 0 0, .slice none 0 0] 57)) (w.heap.size + 1) 42 #[.bool true, .slice sa ns sc, .slice da n dc] ∧ Box ((((w.alloc (.cells #[.int .i64 sec, .slice a n cap] 29)).alloc (.cells #[.bool true, .slice sa ns sc, .slice da n dc] 42)).alloc (.cells #[.int .i64 op, .int .i64 (o : Int), .int .i64 dir] 49)).alloc (.cells #[.int .i64 0, .bool false, .slice none 0 0, .slice none 0 0] 57)) (w.heap.size + 1 + 1) 49 #[.int .i64 op, .int .i64 (o : Int), .int .i64 dir] ∧ Box ((((w.alloc (.cells #[.int .i64 sec, .slice a n cap] 29)).alloc (.cells #[.bool true, .slice sa ns sc, .slice da n dc] 42)).alloc (.cells #[.int .i64 op, .int .i64 (o : Int), .int .i64 dir] 49)).alloc (.cells #[.int .i64 0, .bool false, .slice none 0 0, .slice none 0 0] 57)) (w.heap.size + 1 + 1 + 1) 57 #[.int .i64 0, .bool false, .slice none 0 0, .slice none 0 0]) := ⟨bel4 w (.cells #[.int .i64 sec, .slice a n cap] 29) (.cells #[.bool true, .slice sa ns sc, .slice da n dc] 42) (.cells #[.int .i64 op, .int .i64 (o : Int), .int .i64 dir] 49) (.cells #[.int .i64 0, .bool false, .slice none 0 0, .slice none 0 0] 57), (((Box.newq w 29 #[.int .i64 sec, .slice a n cap] rfl).alloc (.cells #[.bool true, .slice sa ns sc, .slice da n dc] 42)).alloc (.cells #[.int .i64 op, .int .i64 (o : Int), .int .i64 dir] 49)).alloc (.cells #[.int .i64 0, .bool false, .slice none 0 0, .slice none 0 0] 57), ((Box.newq (w.alloc (.cells #[.int .i64 sec, .slice a n cap] 29)) 42 #[.bool true, .slice sa ns sc, .slice da n dc] (q := w.heap.size + 1) (by simp)).alloc (.cells #[.int .i64 op, .int .i64 (o : Int), .int .i64 dir] 49)).alloc (.cells #[.int .i64 0, .bool false, .slice none 0 0, .slice none 0 0] 57), (Box.newq ((w.alloc (.cells #[.int .i64 sec, .slice a n cap] 29)).alloc (.cells #[.bool true, .slice sa ns sc, .slice da n dc] 42)) 49 #[.int .i64 op, .int .i64 (o : Int), .int .i64 dir] (q := w.heap.size + 1 + 1) (by simp)).alloc (.cells #[.int .i64 0, .bool false, .slice none 0 0, .slice none 0 0] 57), Box.newq (((w.alloc (.cells #[.int .i64 sec, .slice a n cap] 29)).alloc (.cells #[.bool true, .slice sa ns sc, .slice da n dc] 42)).alloc (.cells #[.int .i64 op, .int .i64 (o : Int), .int .i64 dir] 49)) 57 #[.int .i64 0, .bool false, .slice none 0 0, .slice none 0 0] (q := w.heap.size + 1 + 1 + 1) (by simp)⟩
  generalize ((((w.alloc (.cells #[.int .i64 sec, .slice a n cap] 29)).alloc (.cells #[.bool true, .slice sa ns sc, .slice da n dc] 42)).alloc (.cells #[.int .i64 op, .int .i64 (o : Int), .int .i64 dir] 49)).alloc (.cells #[.int .i64 0, .bool false, .slice none 0 0, .slice none 0 0] 57)) = w0 at HB0 ⊢
  have HE : Hid (VsAt 2 0 w0 a n (intF K) ∧ VsAt 5 0 w0 sa ns (secF S) ∧ VsAt 1 0 w0 da n (boolF D)) := ⟨HE0.out.1.mono (Nat.le_refl _) HB0.out.1 (Nat.le_refl _), HE0.out.2.1.mono (Nat.le_refl _) HB0.out.1 (Nat.le_refl _), HE0.out.2.2.mono (Nat.le_refl _) HB0.out.1 (Nat.le_refl _)⟩
  clear HE0
  refine (coS sec a n cap K true sa da ns n sc dc S D _ hn hns hnd HE.out.1 HE.out.2.1 HE.out.2.2).mono ?_
  rintro e w1 ⟨rfl, hb1⟩
  rw [HCo.out]
  have l0 : w1.cell? ⟨w.heap.size, 0, none⟩ = some (.int .i64 sec) := (HB0.out.2.1.mono hb1 (Nat.le_refl _)).cell 0
  have l1 : w1.cell? ⟨w.heap.size, 1, none⟩ = some (.slice a n cap) := (HB0.out.2.1.mono hb1 (Nat.le_refl _)).cell 1
  have t0 : w1.cell? ⟨w.heap.size + 1, 0, none⟩ = some (.bool true) := (HB0.out.2.2.1.mono hb1 (Nat.le_refl _)).cell 0
  have t1 : w1.cell? ⟨w.heap.size + 1, 1, none⟩ = some (.slice sa ns sc) := (HB0.out.2.2.1.mono hb1 (Nat.le_refl _)).cell 1
  have t2 : w1.cell? ⟨w.heap.size + 1, 2, none⟩ = some (.slice da n dc) := (HB0.out.2.2.1.mono hb1 (Nat.le_refl _)).cell 2
  have e0 : w1.cell? ⟨w.heap.size + 1 + 1, 0, none⟩ = some (.int .i64 op) := (HB0.out.2.2.2.1.mono hb1 (Nat.le_refl _)).cell 0
  have e1 : w1.cell? ⟨w.heap.size + 1 + 1, 1, none⟩ = some (.int .i64 (o : Int)) := (HB0.out.2.2.2.1.mono hb1 (Nat.le_refl _)).cell 1
  have e2 : w1.cell? ⟨w.heap.size + 1 + 1, 2, none⟩ = some (.int .i64 dir) := (HB0.out.2.2.2.1.mono hb1 (Nat.le_refl _)).cell 2
  have r0 : w1.cell? ⟨w.heap.size + 1 + 1 + 1, 0, none⟩ = some (.int .i64 0) := (HB0.out.2.2.2.2.mono hb1 (Nat.le_refl _)).cell 0
  have r1 : w1.cell? ⟨w.heap.size + 1 + 1 + 1, 1, none⟩ = some (.bool false) := (HB0.out.2.2.2.2.mono hb1 (Nat.le_refl _)).cell 1
  have r2 : w1.cell? ⟨w.heap.size + 1 + 1 + 1, 2, none⟩ = some (.slice none 0 0) := (HB0.out.2.2.2.2.mono hb1 (Nat.le_refl _)).cell 2
  have r3 : w1.cell? ⟨w.heap.size + 1 + 1 + 1, 3, none⟩ = some (.slice none 0 0) := (HB0.out.2.2.2.2.mono hb1 (Nat.le_refl _)).cell 3
  have g0 := (HB0.out.2.2.2.2.mono hb1 (Nat.le_refl _)).free 0
  have g1 := (HB0.out.2.2.2.2.mono hb1 (Nat.le_refl _)).free 1
  have g2 := (HB0.out.2.2.2.2.mono hb1 (Nat.le_refl _)).free 2
  have g3 := (HB0.out.2.2.2.2.mono hb1 (Nat.le_refl _)).free 3
  go_wp2_with fail
  clear l0 l1 t0 t1 t2 e0 e1 e2 r0 r1 r2 r3 g0 g1 g2 g3
  refine (evS sec a n cap K op o dir _ hn (HE.out.1.mono (Nat.le_refl _) hb1 (Nat.le_refl _))).mono ?_
  rintro e w2 ⟨rfl, hb2⟩
  rw [HVf.out]
  have B2 := hb1.trans (hb2.mono hb1.size)
  clear hb1 hb2
  have l0 : w2.cell? ⟨w.heap.size, 0, none⟩ = some (.int .i64 sec) := (HB0.out.2.1.mono B2 (Nat.le_refl _)).cell 0
  have l1 : w2.cell? ⟨w.heap.size, 1, none⟩ = some (.slice a n cap) := (HB0.out.2.1.mono B2 (Nat.le_refl _)).cell 1
  have t0 : w2.cell? ⟨w.heap.size + 1, 0, none⟩ = some (.bool true) := (HB0.out.2.2.1.mono B2 (Nat.le_refl _)).cell 0
  have t1 : w2.cell? ⟨w.heap.size + 1, 1, none⟩ = some (.slice sa ns sc) := (HB0.out.2.2.1.mono B2 (Nat.le_refl _)).cell 1
  have t2 : w2.cell? ⟨w.heap.size + 1, 2, none⟩ = some (.slice da n dc) := (HB0.out.2.2.1.mono B2 (Nat.le_refl _)).cell 2
  have e0 : w2.cell? ⟨w.heap.size + 1 + 1, 0, none⟩ = some (.int .i64 op) := (HB0.out.2.2.2.1.mono B2 (Nat.le_refl _)).cell 0
  have e1 : w2.cell? ⟨w.heap.size + 1 + 1, 1, none⟩ = some (.int .i64 (o : Int)) := (HB0.out.2.2.2.1.mono B2 (Nat.le_refl _)).cell 1
  have e2 : w2.cell? ⟨w.heap.size + 1 + 1, 2, none⟩ = some (.int .i64 dir) := (HB0.out.2.2.2.1.mono B2 (Nat.le_refl _)).cell 2
  have r0 : w2.cell? ⟨w.heap.size + 1 + 1 + 1, 0, none⟩ = some (.int .i64 0) := (HB0.out.2.2.2.2.mono B2 (Nat.le_refl _)).cell 0
  have r1 : w2.cell? ⟨w.heap.size + 1 + 1 + 1, 1, none⟩ = some (.bool false) := (HB0.out.2.2.2.2.mono B2 (Nat.le_refl _)).cell 1
  have r2 : w2.cell? ⟨w.heap.size + 1 + 1 + 1, 2, none⟩ = some (.slice none 0 0) := (HB0.out.2.2.2.2.mono B2 (Nat.le_refl _)).cell 2
  have r3 : w2.cell? ⟨w.heap.size + 1 + 1 + 1, 3, none⟩ = some (.slice none 0 0) := (HB0.out.2.2.2.2.mono B2 (Nat.le_refl _)).cell 3
  have g0 := (HB0.out.2.2.2.2.mono B2 (Nat.le_refl _)).free 0
  have g1 := (HB0.out.2.2.2.2.mono B2 (Nat.le_refl _)).free 1
  have g2 := (HB0.out.2.2.2.2.mono B2 (Nat.le_refl _)).free 2
  have g3 := (HB0.out.2.2.2.2.mono B2 (Nat.le_refl _)).free 3
  go_wp2_with fail
  clear l0 l1 t0 t1 t2 e0 e1 e2 r0 r1 r2 r3 g0 g1 g2 g3
  refine (copyS true sa da ns n sc dc S D _ hns hnd (HE.out.2.1.mono (Nat.le_refl _) B2 (Nat.le_refl _)) (HE.out.2.2.mono (Nat.le_refl _) B2 (Nat.le_refl _))).mono ?_
  rintro e w3 ⟨sa', sc', da', dc', rfl, st3, hb3⟩
  have B3 := B2.trans (hb3.mono B2.size)
  have HWs : Hid (Ws w0 (w3.alloc (.cells #[.bool true, .slice sa' ns sc', .slice da' n dc'] 42)) w3.heap.size true sa' sc' da' dc' ns n S D) := ⟨B3.trans ((bel1 w3 (.cells #[.bool true, .slice sa' ns sc', .slice da' n dc'] 42)).mono B3.size), Box.new w3 42 _, B3.size, (st3.mono B2.size (bel1 w3 (.cells #[.bool true, .slice sa' ns sc', .slice da' n dc'] 42)) (Nat.le_refl _))⟩
  clear hb3 st3 B2
  go_upto_region 4 with fail
  have B4 := HWs.out.bel
  have zq : w3.heap.size < (w3.alloc (.cells #[.bool true, .slice sa' ns sc', .slice da' n dc'] 42)).heap.size := HWs.out.box.lt
  generalize (w3.alloc (.cells #[.bool true, .slice sa' ns sc', .slice da' n dc'] 42)) = w4 at HWs B4 zq ⊢
  generalize w3.heap.size = q at HWs zq ⊢
  clear B3
  clear w1 w2 w3
  have l0 : w4.cell? ⟨w.heap.size, 0, none⟩ = some (.int .i64 sec) := (HB0.out.2.1.mono B4 (Nat.le_refl _)).cell 0
  have l1 : w4.cell? ⟨w.heap.size, 1, none⟩ = some (.slice a n cap) := (HB0.out.2.1.mono B4 (Nat.le_refl _)).cell 1
  have t0 : w4.cell? ⟨w.heap.size + 1, 0, none⟩ = some (.bool true) := (HB0.out.2.2.1.mono B4 (Nat.le_refl _)).cell 0
  have t1 : w4.cell? ⟨w.heap.size + 1, 1, none⟩ = some (.slice sa ns sc) := (HB0.out.2.2.1.mono B4 (Nat.le_refl _)).cell 1
  have t2 : w4.cell? ⟨w.heap.size + 1, 2, none⟩ = some (.slice da n dc) := (HB0.out.2.2.1.mono B4 (Nat.le_refl _)).cell 2
  have e0 : w4.cell? ⟨w.heap.size + 1 + 1, 0, none⟩ = some (.int .i64 op) := (HB0.out.2.2.2.1.mono B4 (Nat.le_refl _)).cell 0
  have e1 : w4.cell? ⟨w.heap.size + 1 + 1, 1, none⟩ = some (.int .i64 (o : Int)) := (HB0.out.2.2.2.1.mono B4 (Nat.le_refl _)).cell 1
  have e2 : w4.cell? ⟨w.heap.size + 1 + 1, 2, none⟩ = some (.int .i64 dir) := (HB0.out.2.2.2.1.mono B4 (Nat.le_refl _)).cell 2
  have r0 : w4.cell? ⟨w.heap.size + 1 + 1 + 1, 0, none⟩ = some (.int .i64 0) := (HB0.out.2.2.2.2.mono B4 (Nat.le_refl _)).cell 0
  have r1 : w4.cell? ⟨w.heap.size + 1 + 1 + 1, 1, none⟩ = some (.bool false) := (HB0.out.2.2.2.2.mono B4 (Nat.le_refl _)).cell 1
  have r2 : w4.cell? ⟨w.heap.size + 1 + 1 + 1, 2, none⟩ = some (.slice none 0 0) := (HB0.out.2.2.2.2.mono B4 (Nat.le_refl _)).cell 2
  have r3 : w4.cell? ⟨w.heap.size + 1 + 1 + 1, 3, none⟩ = some (.slice none 0 0) := (HB0.out.2.2.2.2.mono B4 (Nat.le_refl _)).cell 3
  have g0 := (HB0.out.2.2.2.2.mono B4 (Nat.le_refl _)).free 0
  have g1 := (HB0.out.2.2.2.2.mono B4 (Nat.le_refl _)).free 1
  have g2 := (HB0.out.2.2.2.2.mono B4 (Nat.le_refl _)).free 2
  have g3 := (HB0.out.2.2.2.2.mono B4 (Nat.le_refl _)).free 3
  go_upto_block 0 with fail
  go_cut [8] from 15 (fun s8 wx => ∃ cd S2 D2, s8 = .int .i64 cd ∧ Hid (doStep K n S D op dir o = (cd, S2, D2)) ∧ Hid (Ws w0 wx q true sa' sc' da' dc' ns n S2 D2))
  case first =>
    have hcs := HEv.out
    clear HEv HVf HCo
    rcases hcs with ⟨rfl, h1, h2⟩ | ⟨rfl, h1, h2⟩ | ⟨rfl, h1, h2, hdir⟩ | ⟨rfl, h1, h2⟩ | ⟨rfl, h1, h2⟩
    · have ho : o < n := by omega
      have ho0 : (0 : Int) ≤ (o : Int) := by omega
      have ho1 : (o : Int) < (n : Int) := by omega
      have hK0 : -1 ≤ K o 0 ∧ K o 0 < (ns : Int) := by have h1 := HG.out.1.f1 o ho; have h2 := HG.out.1.f2 o ho; have h3 := HSec.out; omega
      have hK1 : -1 ≤ K o 1 ∧ K o 1 < (ns : Int) := by have h1 := HG.out.1.t1 o ho; have h2 := HG.out.1.t2 o ho; have h3 := HSec.out; omega
      have z1 : w.heap.size + 1 < w4.heap.size := (HB0.out.2.2.1.mono B4 (Nat.le_refl _)).lt
      have z2 : w.heap.size + 1 + 1 < w4.heap.size := (HB0.out.2.2.2.1.mono B4 (Nat.le_refl _)).lt
      have z0 : w.heap.size < w4.heap.size := (HB0.out.2.1.mono B4 (Nat.le_refl _)).lt
      obtain ⟨b, off, rfl, _, hb, hc⟩ := (HE.out.1.mono (Nat.le_refl _) B4 (Nat.le_refl _)) (by omega)
      have c0 : w4.cell? ⟨b, off + o * 2, none⟩ = some (.int .i64 (K o 0)) := hc o ho 0 (by omega)
      have c1 : w4.cell? ⟨b, off + o * 2 + 1, none⟩ = some (.int .i64 (K o 1)) := hc o ho 1 (by omega)
      clear hc
      obtain ⟨bd, offd, rfl, _, hbd, hcd⟩ := (HE.out.2.2.mono (Nat.le_refl _) B4 (Nat.le_refl _)) (by omega)
      have d0 : w4.cell? ⟨bd, offd + o, none⟩ = some (.bool (D o)) := by have := hcd o ho 0 (by omega); rwa [Nat.mul_one] at this
      clear hcd
      have hdr := HDir.out (by omega)
      clear HDir
      obtain ⟨dd, hD⟩ : ∃ dd, Hid (D o = dd) := ⟨_, rfl⟩
      rw [hD.out] at d0
      cases dd
      · rcases hdr with rfl | rfl
        · have HA : Hid (Ws w0 (w4.alloc (.cells #[.int .i64 (K o 0), .int .i64 (K o 1)] 68)) q true sa' sc' da' dc' ns n (S) (D)) := HWs.out.mono (bel1 w4 (.cells #[.int .i64 (K o 0), .int .i64 (K o 1)] 68)) (Nat.le_refl _)
          go_wp2_with fail
          refine (addSM w0 q true sa' sc' da' dc' ns n S D (K o 0) _ hK0.1 hK0.2 n60 HC.out HA.out).mono ?_
          rintro e w5 ⟨rfl, h5⟩
          have H5 : Hid (Ws w0 w5 q true sa' sc' da' dc' ns n (addF S (K o 0) (-1)) (D)) := h5
          clear h5
          go_wp2_with fail
          refine (addSP w0 q true sa' sc' da' dc' ns n (addF S (K o 0) (-1)) D (K o 1) _ hK1.1 hK1.2 n60 (addF_range (K o 0) (-1) HC.out) H5.out).mono ?_
          rintro e w6 ⟨rfl, h6⟩
          have H6 : Hid (Ws w0 w6 q true sa' sc' da' dc' ns n (addF (addF S (K o 0) (-1)) (K o 1) 1) (D)) := h6
          clear h6
          go_wp2_with fail
          go_meet
          case rel => exact ⟨0, addF (addF S (K o 0) (-1)) (K o 1) 1, D, rfl, (by show doStep K n _ _ _ _ _ = _; simp [doStep, frF, toF, hD.out]), H6⟩
        · have HA : Hid (Ws w0 (w4.alloc (.cells #[.int .i64 (K o 0), .int .i64 (K o 1)] 68)) q true sa' sc' da' dc' ns n (S) (D)) := HWs.out.mono (bel1 w4 (.cells #[.int .i64 (K o 0), .int .i64 (K o 1)] 68)) (Nat.le_refl _)
          go_wp2_with fail
          refine (addSM w0 q true sa' sc' da' dc' ns n S D (K o 1) _ hK1.1 hK1.2 n60 HC.out HA.out).mono ?_
          rintro e w5 ⟨rfl, h5⟩
          have H5 : Hid (Ws w0 w5 q true sa' sc' da' dc' ns n (addF S (K o 1) (-1)) (D)) := h5
          clear h5
          go_wp2_with fail
          refine (addSP w0 q true sa' sc' da' dc' ns n (addF S (K o 1) (-1)) D (K o 0) _ hK0.1 hK0.2 n60 (addF_range (K o 1) (-1) HC.out) H5.out).mono ?_
          rintro e w6 ⟨rfl, h6⟩
          have H6 : Hid (Ws w0 w6 q true sa' sc' da' dc' ns n (addF (addF S (K o 1) (-1)) (K o 0) 1) (D)) := h6
          clear h6
          go_wp2_with fail
          go_meet
          case rel => exact ⟨0, addF (addF S (K o 1) (-1)) (K o 0) 1, D, rfl, (by show doStep K n _ _ _ _ _ = _; simp [doStep, frF, toF, hD.out]), H6⟩
      · have HA : Hid (Ws w0 (w4.alloc (.cells #[.int .i64 (K o 0), .int .i64 (K o 1)] 68)) q true sa' sc' da' dc' ns n (S) (D)) := HWs.out.mono (bel1 w4 (.cells #[.int .i64 (K o 0), .int .i64 (K o 1)] 68)) (Nat.le_refl _)
        go_wp2_with fail
        go_meet
        case rel => exact ⟨2, S, D, rfl, (by show doStep K n _ _ _ _ _ = _; simp [doStep, hD.out]), HA⟩
    · have ho : o < n := by omega
      have ho0 : (0 : Int) ≤ (o : Int) := by omega
      have ho1 : (o : Int) < (n : Int) := by omega
      have hK0 : -1 ≤ K o 0 ∧ K o 0 < (ns : Int) := by have h1 := HG.out.1.f1 o ho; have h2 := HG.out.1.f2 o ho; have h3 := HSec.out; omega
      have hK1 : -1 ≤ K o 1 ∧ K o 1 < (ns : Int) := by have h1 := HG.out.1.t1 o ho; have h2 := HG.out.1.t2 o ho; have h3 := HSec.out; omega
      have z1 : w.heap.size + 1 < w4.heap.size := (HB0.out.2.2.1.mono B4 (Nat.le_refl _)).lt
      have z2 : w.heap.size + 1 + 1 < w4.heap.size := (HB0.out.2.2.2.1.mono B4 (Nat.le_refl _)).lt
      have z0 : w.heap.size < w4.heap.size := (HB0.out.2.1.mono B4 (Nat.le_refl _)).lt
      obtain ⟨b, off, rfl, _, hb, hc⟩ := (HE.out.1.mono (Nat.le_refl _) B4 (Nat.le_refl _)) (by omega)
      have c0 : w4.cell? ⟨b, off + o * 2, none⟩ = some (.int .i64 (K o 0)) := hc o ho 0 (by omega)
      have c1 : w4.cell? ⟨b, off + o * 2 + 1, none⟩ = some (.int .i64 (K o 1)) := hc o ho 1 (by omega)
      clear hc
      obtain ⟨bd, offd, rfl, _, hbd, hcd⟩ := (HE.out.2.2.mono (Nat.le_refl _) B4 (Nat.le_refl _)) (by omega)
      have d0 : w4.cell? ⟨bd, offd + o, none⟩ = some (.bool (D o)) := by have := hcd o ho 0 (by omega); rwa [Nat.mul_one] at this
      clear hcd
      have hdr := HDir.out (by omega)
      clear HDir
      obtain ⟨dd, hD⟩ : ∃ dd, Hid (D o = dd) := ⟨_, rfl⟩
      rw [hD.out] at d0
      cases dd
      · rcases hdr with rfl | rfl
        · have HA : Hid (Ws w0 (w4.alloc (.cells #[.int .i64 (K o 0), .int .i64 (K o 1)] 68)) q true sa' sc' da' dc' ns n (S) (D)) := HWs.out.mono (bel1 w4 (.cells #[.int .i64 (K o 0), .int .i64 (K o 1)] 68)) (Nat.le_refl _)
          go_wp2_with fail
          refine (addSP w0 q true sa' sc' da' dc' ns n S D (K o 1) _ hK1.1 hK1.2 n60 HC.out HA.out).mono ?_
          rintro e w6 ⟨rfl, h6⟩
          have H6 : Hid (Ws w0 w6 q true sa' sc' da' dc' ns n (addF S (K o 1) 1) (D)) := h6
          clear h6
          go_wp2_with fail
          go_meet
          case rel => exact ⟨0, addF S (K o 1) 1, D, rfl, (by show doStep K n _ _ _ _ _ = _; simp [doStep, toF, hD.out]), H6⟩
        · have HA : Hid (Ws w0 (w4.alloc (.cells #[.int .i64 (K o 0), .int .i64 (K o 1)] 68)) q true sa' sc' da' dc' ns n (S) (D)) := HWs.out.mono (bel1 w4 (.cells #[.int .i64 (K o 0), .int .i64 (K o 1)] 68)) (Nat.le_refl _)
          go_wp2_with fail
          refine (addSP w0 q true sa' sc' da' dc' ns n S D (K o 0) _ hK0.1 hK0.2 n60 HC.out HA.out).mono ?_
          rintro e w6 ⟨rfl, h6⟩
          have H6 : Hid (Ws w0 w6 q true sa' sc' da' dc' ns n (addF S (K o 0) 1) (D)) := h6
          clear h6
          go_wp2_with fail
          go_meet
          case rel => exact ⟨0, addF S (K o 0) 1, D, rfl, (by show doStep K n _ _ _ _ _ = _; simp [doStep, toF, hD.out]), H6⟩
      · have HA : Hid (Ws w0 (w4.alloc (.cells #[.int .i64 (K o 0), .int .i64 (K o 1)] 68)) q true sa' sc' da' dc' ns n (S) (D)) := HWs.out.mono (bel1 w4 (.cells #[.int .i64 (K o 0), .int .i64 (K o 1)] 68)) (Nat.le_refl _)
        go_wp2_with fail
        go_meet
        case rel => exact ⟨2, S, D, rfl, (by show doStep K n _ _ _ _ _ = _; simp [doStep, hD.out]), HA⟩
    · have ho : o < n := by omega
      have ho0 : (0 : Int) ≤ (o : Int) := by omega
      have ho1 : (o : Int) < (n : Int) := by omega
      have hK0 : -1 ≤ K o 0 ∧ K o 0 < (ns : Int) := by have h1 := HG.out.1.f1 o ho; have h2 := HG.out.1.f2 o ho; have h3 := HSec.out; omega
      have hK1 : -1 ≤ K o 1 ∧ K o 1 < (ns : Int) := by have h1 := HG.out.1.t1 o ho; have h2 := HG.out.1.t2 o ho; have h3 := HSec.out; omega
      have z1 : w.heap.size + 1 < w4.heap.size := (HB0.out.2.2.1.mono B4 (Nat.le_refl _)).lt
      have z2 : w.heap.size + 1 + 1 < w4.heap.size := (HB0.out.2.2.2.1.mono B4 (Nat.le_refl _)).lt
      have z0 : w.heap.size < w4.heap.size := (HB0.out.2.1.mono B4 (Nat.le_refl _)).lt
      obtain ⟨gd, rfl, _, zg⟩ := HWs.out.st.d.addr (by omega)
      have y2 : w4.cell? ⟨q, 2, none⟩ = some (.slice (some ⟨gd, 0, none⟩) n dc') := HWs.out.box.cell 2
      have dd0 : w4.cell? ⟨gd, o, none⟩ = some (.bool (D o)) := by have := HWs.out.st.d.cell ho (j := 0) (by omega); rwa [Nat.mul_one] at this
      have fd := HWs.out.st.d.free o
      have HP : Hid (Ws w0 (w4.setCell ⟨gd, o, none⟩ (.bool true)) q true sa' sc' (some ⟨gd, 0, none⟩) dc' ns n (S) (updD D o true)) := HWs.out.putD ho true
      go_upto_region 21 with fail
      clear l0 l1 t0 t1 t2 e0 e1 e2 r0 r1 r2 r3 g0 g1 g2 g3
      clear dd0 fd y2 zq z0 z1 z2 B4 HWs zg
      generalize w4.setCell ⟨gd, o, none⟩ (.bool true) = w5 at HP ⊢
      have B5 := HP.out.bel
      have l0 : w5.cell? ⟨w.heap.size, 0, none⟩ = some (.int .i64 sec) := (HB0.out.2.1.mono B5 (Nat.le_refl _)).cell 0
      have l1 : w5.cell? ⟨w.heap.size, 1, none⟩ = some (.slice a n cap) := (HB0.out.2.1.mono B5 (Nat.le_refl _)).cell 1
      have e0 : w5.cell? ⟨w.heap.size + 1 + 1, 0, none⟩ = some (.int .i64 3) := (HB0.out.2.2.2.1.mono B5 (Nat.le_refl _)).cell 0
      have e1 : w5.cell? ⟨w.heap.size + 1 + 1, 1, none⟩ = some (.int .i64 (o : Int)) := (HB0.out.2.2.2.1.mono B5 (Nat.le_refl _)).cell 1
      have e2 : w5.cell? ⟨w.heap.size + 1 + 1, 2, none⟩ = some (.int .i64 dir) := (HB0.out.2.2.2.1.mono B5 (Nat.le_refl _)).cell 2
      obtain ⟨b, off, rfl, _, hb, hc⟩ := (HE.out.1.mono (Nat.le_refl _) B5 (Nat.le_refl _)) (by omega)
      have c0 : w5.cell? ⟨b, off + o * 2, none⟩ = some (.int .i64 (K o 0)) := hc o ho 0 (by omega)
      have c1 : w5.cell? ⟨b, off + o * 2 + 1, none⟩ = some (.int .i64 (K o 1)) := hc o ho 1 (by omega)
      clear hc
      go_region
      have HQ : Hid (Box (w5.alloc (.cells #[.int .i64 (K o 0), .int .i64 (K o 1)] 3)).drew w5.heap.size 3 #[.int .i64 (K o 0), .int .i64 (K o 1)] ∧ Ws w0 (w5.alloc (.cells #[.int .i64 (K o 0), .int .i64 (K o 1)] 3)).drew q true sa' sc' (some ⟨gd, 0, none⟩) dc' ns n (S) (updD D o true)) := ⟨(Box.new w5 3 _).drew, (HP.out.mono (bel1 w5 (.cells #[.int .i64 (K o 0), .int .i64 (K o 1)] 3)) (Nat.le_refl _)).drew⟩
      clear l0 l1 e0 e1 e2
      clear c0 c1 hb B5 HP
      generalize (w5.alloc (.cells #[.int .i64 (K o 0), .int .i64 (K o 1)] 3)).drew = w6 at HQ ⊢
      generalize w5.heap.size = r at HQ ⊢
      go_wp2_with fail
      go_loopw [86] (fun i ws => ∃ k : Nat, k ≤ 2 ∧ i = .int .i64 k ∧ Hid (Box ws r 3 #[.int .i64 (K o 0), .int .i64 (K o 1)] ∧ Ws w0 ws q true sa' sc' (some ⟨gd, 0, none⟩) dc' ns n (losN S (K o 0) (K o 1) k) (updD D o true))) (fun i _ => 2 - (intOf i).toNat)
      case atStart => exact ⟨0, Nat.zero_le _, rfl, HQ⟩
      case round =>
        obtain ⟨k, hk, rfl, HR⟩ := hrel
        have r0 : wr.cell? ⟨r, 0, none⟩ = some (.int .i64 (K o 0)) := HR.out.1.cell 0
        have r1 : wr.cell? ⟨r, 1, none⟩ = some (.int .i64 (K o 1)) := HR.out.1.cell 1
        rcases (show k = 0 ∨ k = 1 ∨ k = 2 by omega) with rfl | rfl | rfl
        · by_cases hs : K o 0 < 0
          · have HN : Hid (Box wr r 3 #[.int .i64 (K o 0), .int .i64 (K o 1)] ∧ Ws w0 wr q true sa' sc' (some ⟨gd, 0, none⟩) dc' ns n (loseF S (K o 0)) (updD D o true)) := ⟨HR.out.1, by have := HR.out.2; rw [show (loseF S (K o 0)) = (S) from loseF_out _ hs]; exact this⟩
            go_wp2_with fail
            go_roundw
            case rel => exact ⟨1, by omega, by go_num, HN⟩
            case measure => simp [intOf]
          · obtain ⟨i, hi⟩ : ∃ i : Nat, Hid (K o 0 = (i : Int)) := ⟨(K o 0).toNat, by show K o 0 = _; omega⟩
            rw [hi.out] at r0 hs
            have hin : i < ns := by have := hi.out; have := hK0; omega
            clear hs
            have hi0 : (0 : Int) ≤ (i : Int) := by omega
            have hi1 : (i : Int) < (ns : Int) := by omega
            obtain ⟨g, rfl, _, zg⟩ := HR.out.2.st.s.addr (by omega)
            have y1 : wr.cell? ⟨q, 1, none⟩ = some (.slice (some ⟨g, 0, none⟩) ns sc') := HR.out.2.box.cell 1
            obtain ⟨x0, x1, x2, x3, x4⟩ := HR.out.2.secs hin
            have f2 := HR.out.2.st.s.free (i * 5 + 2)
            clear x0 x1 x3 x4
            have HN : Hid (Box (wr.setCell ⟨g, i * 5 + 2, none⟩ (.bool true)) r 3 #[.int .i64 (K o 0), .int .i64 (K o 1)] ∧ Ws w0 (wr.setCell ⟨g, i * 5 + 2, none⟩ (.bool true)) q true (some ⟨g, 0, none⟩) sc' (some ⟨gd, 0, none⟩) dc' ns n (loseF S (K o 0)) (updD D o true)) := ⟨by obtain ⟨cur, hg⟩ := HR.out.2.st.s.offset; exact HR.out.1.other (p := ⟨g, i * 5 + 2, none⟩) (HR.out.1.ne hg (by decide)) _, by
              rw [hi.out, loseF_in]
              exact HR.out.2.put hin (j := 2) (by omega) (u := .bool true) ⟨((S) i).told, ((S) i).count, true, ((S) i).sweep, ((S) i).last⟩ fun j' hj' => by
                rcases (show j' = 0 ∨ j' = 1 ∨ j' = 2 ∨ j' = 3 ∨ j' = 4 by omega) with rfl | rfl | rfl | rfl | rfl <;> rfl⟩
            go_wp2_with fail
            go_roundw
            case rel => exact ⟨1, by omega, by go_num, HN⟩
            case measure => simp [intOf]
        · by_cases hs : K o 1 < 0
          · have HN : Hid (Box wr r 3 #[.int .i64 (K o 0), .int .i64 (K o 1)] ∧ Ws w0 wr q true sa' sc' (some ⟨gd, 0, none⟩) dc' ns n (loseF (loseF S (K o 0)) (K o 1)) (updD D o true)) := ⟨HR.out.1, by have := HR.out.2; rw [show (loseF (loseF S (K o 0)) (K o 1)) = (loseF S (K o 0)) from loseF_out _ hs]; exact this⟩
            go_wp2_with fail
            go_roundw
            case rel => exact ⟨2, by omega, by go_num, HN⟩
            case measure => simp [intOf]
          · obtain ⟨i, hi⟩ : ∃ i : Nat, Hid (K o 1 = (i : Int)) := ⟨(K o 1).toNat, by show K o 1 = _; omega⟩
            rw [hi.out] at r1 hs
            have hin : i < ns := by have := hi.out; have := hK1; omega
            clear hs
            have hi0 : (0 : Int) ≤ (i : Int) := by omega
            have hi1 : (i : Int) < (ns : Int) := by omega
            obtain ⟨g, rfl, _, zg⟩ := HR.out.2.st.s.addr (by omega)
            have y1 : wr.cell? ⟨q, 1, none⟩ = some (.slice (some ⟨g, 0, none⟩) ns sc') := HR.out.2.box.cell 1
            obtain ⟨x0, x1, x2, x3, x4⟩ := HR.out.2.secs hin
            have f2 := HR.out.2.st.s.free (i * 5 + 2)
            clear x0 x1 x3 x4
            have HN : Hid (Box (wr.setCell ⟨g, i * 5 + 2, none⟩ (.bool true)) r 3 #[.int .i64 (K o 0), .int .i64 (K o 1)] ∧ Ws w0 (wr.setCell ⟨g, i * 5 + 2, none⟩ (.bool true)) q true (some ⟨g, 0, none⟩) sc' (some ⟨gd, 0, none⟩) dc' ns n (loseF (loseF S (K o 0)) (K o 1)) (updD D o true)) := ⟨by obtain ⟨cur, hg⟩ := HR.out.2.st.s.offset; exact HR.out.1.other (p := ⟨g, i * 5 + 2, none⟩) (HR.out.1.ne hg (by decide)) _, by
              rw [hi.out, loseF_in]
              exact HR.out.2.put hin (j := 2) (by omega) (u := .bool true) ⟨((loseF S (K o 0)) i).told, ((loseF S (K o 0)) i).count, true, ((loseF S (K o 0)) i).sweep, ((loseF S (K o 0)) i).last⟩ fun j' hj' => by
                rcases (show j' = 0 ∨ j' = 1 ∨ j' = 2 ∨ j' = 3 ∨ j' = 4 by omega) with rfl | rfl | rfl | rfl | rfl <;> rfl⟩
            go_wp2_with fail
            go_roundw
            case rel => exact ⟨2, by omega, by go_num, HN⟩
            case measure => simp [intOf]
        · have HF : Hid (Ws w0 wr q true sa' sc' (some ⟨gd, 0, none⟩) dc' ns n (loseF (loseF S (K o 0)) (K o 1)) (updD D o true)) := HR.out.2
          go_wp2_with fail
          go_meet
          case rel => exact ⟨0, loseF (loseF S (K o 0)) (K o 1), updD D o true, rfl, (by show doStep K n _ _ _ _ _ = _; simp [doStep]), HF⟩
    · have ho : o < n := by omega
      have ho0 : (0 : Int) ≤ (o : Int) := by omega
      have ho1 : (o : Int) < (n : Int) := by omega
      have z1 : w.heap.size + 1 < w4.heap.size := (HB0.out.2.2.1.mono B4 (Nat.le_refl _)).lt
      have z2 : w.heap.size + 1 + 1 < w4.heap.size := (HB0.out.2.2.2.1.mono B4 (Nat.le_refl _)).lt
      have z0 : w.heap.size < w4.heap.size := (HB0.out.2.1.mono B4 (Nat.le_refl _)).lt
      obtain ⟨gd, rfl, _, zg⟩ := HWs.out.st.d.addr (by omega)
      have y2 : w4.cell? ⟨q, 2, none⟩ = some (.slice (some ⟨gd, 0, none⟩) n dc') := HWs.out.box.cell 2
      have dd0 : w4.cell? ⟨gd, o, none⟩ = some (.bool (D o)) := by have := HWs.out.st.d.cell ho (j := 0) (by omega); rwa [Nat.mul_one] at this
      have fd := HWs.out.st.d.free o
      have HP : Hid (Ws w0 (w4.setCell ⟨gd, o, none⟩ (.bool false)) q true sa' sc' (some ⟨gd, 0, none⟩) dc' ns n (S) (updD D o false)) := HWs.out.putD ho false
      go_wp2_with fail
      go_meet
      case rel => exact ⟨0, S, updD D o false, rfl, (by show doStep K n _ _ _ _ _ = _; simp [doStep]), HP⟩
    · have ho : o < ns := by have := HSec.out; omega
      have ho0 : (0 : Int) ≤ (o : Int) := by omega
      have ho1 : (o : Int) < (ns : Int) := by omega
      have z1 : w.heap.size + 1 < w4.heap.size := (HB0.out.2.2.1.mono B4 (Nat.le_refl _)).lt
      have z2 : w.heap.size + 1 + 1 < w4.heap.size := (HB0.out.2.2.2.1.mono B4 (Nat.le_refl _)).lt
      have z0 : w.heap.size < w4.heap.size := (HB0.out.2.1.mono B4 (Nat.le_refl _)).lt
      go_wp2_with fail
      refine (deadS sec a n cap K da dc D o _ HG.out.2 ⟨ho0, by have := HSec.out; omega⟩ (HE.out.1.mono (Nat.le_refl _) B4 (Nat.le_refl _)) (HE.out.2.2.mono (Nat.le_refl _) B4 (Nat.le_refl _))).mono ?_
      rintro e w5 ⟨rfl, hb5⟩
      have HA : Hid (Ws w0 w5 q true sa' sc' da' dc' ns n (S) (D)) := HWs.out.mono hb5 (Nat.le_refl _)
      have B5 := HA.out.bel
      clear l0 l1 t0 t1 t2 e0 e1 e2 r0 r1 r2 r3 g0 g1 g2 g3
      clear hb5 HWs B4 z0 z1 z2 zq
      obtain ⟨dd, hdd⟩ : ∃ dd, Hid (deadB K n D o = dd) := ⟨_, rfl⟩
      rw [hdd.out]
      cases dd
      · have t0 : w5.cell? ⟨w.heap.size + 1, 0, none⟩ = some (.bool true) := (HB0.out.2.2.1.mono B5 (Nat.le_refl _)).cell 0
        have t1 : w5.cell? ⟨w.heap.size + 1, 1, none⟩ = some (.slice sa ns sc) := (HB0.out.2.2.1.mono B5 (Nat.le_refl _)).cell 1
        have t2 : w5.cell? ⟨w.heap.size + 1, 2, none⟩ = some (.slice da n dc) := (HB0.out.2.2.1.mono B5 (Nat.le_refl _)).cell 2
        have e0 : w5.cell? ⟨w.heap.size + 1 + 1, 0, none⟩ = some (.int .i64 5) := (HB0.out.2.2.2.1.mono B5 (Nat.le_refl _)).cell 0
        have e1 : w5.cell? ⟨w.heap.size + 1 + 1, 1, none⟩ = some (.int .i64 (o : Int)) := (HB0.out.2.2.2.1.mono B5 (Nat.le_refl _)).cell 1
        have e2 : w5.cell? ⟨w.heap.size + 1 + 1, 2, none⟩ = some (.int .i64 dir) := (HB0.out.2.2.2.1.mono B5 (Nat.le_refl _)).cell 2
        obtain ⟨bs, offs, rfl, _, hbs, hcs⟩ := (HE.out.2.1.mono (Nat.le_refl _) B5 (Nat.le_refl _)) (by omega)
        have s4 : w5.cell? ⟨bs, offs + o * 5 + 4, none⟩ = some (.int .i64 (S o).last) := hcs o ho 4 (by omega)
        clear hcs
        by_cases hl : (S o).last = 1
        · rw [hl] at s4
          go_wp2_with fail
          go_meet
          case rel => exact ⟨4, S, D, rfl, (by show doStep K n _ _ _ _ _ = _; simp [doStep, hdd.out, hl]), HA⟩
        · have hl0 : ¬ (0 : Int) < (S o).last := by have := HLast.out o ho; omega
          obtain ⟨g, rfl, _, zg⟩ := HA.out.st.s.addr (by omega)
          have y1 : w5.cell? ⟨q, 1, none⟩ = some (.slice (some ⟨g, 0, none⟩) ns sc') := HA.out.box.cell 1
          obtain ⟨x0, x1, x2, x3, x4⟩ := HA.out.secs ho
          have f0 := HA.out.st.s.free (o * 5)
          have f1 := HA.out.st.s.free (o * 5 + 1)
          have f2 := HA.out.st.s.free (o * 5 + 2)
          have f3 := HA.out.st.s.free (o * 5 + 3)
          have f4 := HA.out.st.s.free (o * 5 + 4)
          have H5 : Hid (∀ W, Ws w0 W q true (some ⟨g, 0, none⟩) sc' da' dc' ns n (S) (D) → Ws w0 (((((W.setCell ⟨g, o * 5, none⟩ (.int .i64 0)).setCell ⟨g, o * 5 + 1, none⟩ (.int .i64 0)).setCell ⟨g, o * 5 + 2, none⟩ (.bool false)).setCell ⟨g, o * 5 + 3, none⟩ (.bool true)).setCell ⟨g, o * 5 + 4, none⟩ (.int .i64 0)) q true (some ⟨g, 0, none⟩) sc' da' dc' ns n (updS S o ⟨0, 0, false, true, 0⟩) (D)) := fun W h => by
            have p0 := h.put ho (j := 0) (by omega) (u := .int .i64 0) ⟨0, (S o).count, (S o).lost, (S o).sweep, (S o).last⟩ fun j' hj' => by
              rcases (show j' = 0 ∨ j' = 1 ∨ j' = 2 ∨ j' = 3 ∨ j' = 4 by omega) with rfl | rfl | rfl | rfl | rfl <;> rfl
            have p1 := p0.put ho (j := 1) (by omega) (u := .int .i64 0) ⟨0, 0, (S o).lost, (S o).sweep, (S o).last⟩ fun j' hj' => by
              rw [updS_same]
              rcases (show j' = 0 ∨ j' = 1 ∨ j' = 2 ∨ j' = 3 ∨ j' = 4 by omega) with rfl | rfl | rfl | rfl | rfl <;> rfl
            have p2 := p1.put ho (j := 2) (by omega) (u := .bool false) ⟨0, 0, false, (S o).sweep, (S o).last⟩ fun j' hj' => by
              rw [updS_same]
              rcases (show j' = 0 ∨ j' = 1 ∨ j' = 2 ∨ j' = 3 ∨ j' = 4 by omega) with rfl | rfl | rfl | rfl | rfl <;> rfl
            have p3 := p2.put ho (j := 3) (by omega) (u := .bool true) ⟨0, 0, false, true, (S o).last⟩ fun j' hj' => by
              rw [updS_same]
              rcases (show j' = 0 ∨ j' = 1 ∨ j' = 2 ∨ j' = 3 ∨ j' = 4 by omega) with rfl | rfl | rfl | rfl | rfl <;> rfl
            have p4 := p3.put ho (j := 4) (by omega) (u := .int .i64 0) ⟨0, 0, false, true, 0⟩ fun j' hj' => by
              rw [updS_same]
              rcases (show j' = 0 ∨ j' = 1 ∨ j' = 2 ∨ j' = 3 ∨ j' = 4 by omega) with rfl | rfl | rfl | rfl | rfl <;> rfl
            rwa [updS_two, updS_two, updS_two, updS_two] at p4
          have HP := H5.out w5 HA.out
          have HP : Hid (Ws w0 (((((w5.setCell ⟨g, o * 5, none⟩ (.int .i64 0)).setCell ⟨g, o * 5 + 1, none⟩ (.int .i64 0)).setCell ⟨g, o * 5 + 2, none⟩ (.bool false)).setCell ⟨g, o * 5 + 3, none⟩ (.bool true)).setCell ⟨g, o * 5 + 4, none⟩ (.int .i64 0)) q true (some ⟨g, 0, none⟩) sc' da' dc' ns n (updS S o ⟨0, 0, false, true, 0⟩) (D)) := HP
          clear H5
          go_wp2_with fail
          go_meet
          case rel => exact ⟨0, updS S o ⟨0, 0, false, true, 0⟩, D, rfl, (by show doStep K n _ _ _ _ _ = _; simp [doStep, hdd.out, hl]), HP⟩
      · go_wp2_with fail
        go_meet
        case rel => exact ⟨3, S, D, rfl, (by show doStep K n _ _ _ _ _ = _; simp [doStep, hdd.out]), HA⟩
  case rest =>
    obtain ⟨cd, S2, D2, rfl, hdo, HW⟩ := hcut
    clear l0 l1 t0 t1 t2 e0 e1 e2 r0 r1 r2 r3 g0 g1 g2 g3
    clear B4 zq HWs
    have y1 : wc.cell? ⟨q, 1, none⟩ = some (.slice sa' ns sc') := HW.out.box.cell 1
    go_wp2_with fail
    go_loopw [130] (fun i ws => ∃ k : Nat, k ≤ ns ∧ i = .int .i64 k ∧ Hid (Ws w0 ws q true sa' sc' da' dc' ns n (tellN K n D2 S2 k) D2)) (fun i _ => ns - (intOf i).toNat)
    case atStart => exact ⟨0, Nat.zero_le _, rfl, by rw [tellN_zero]; exact HW⟩
    case round =>
      clear y1
      obtain ⟨k, hk, rfl, HR⟩ := hrel
      have B5 := HR.out.bel
      by_cases hlt : k < ns
      · obtain ⟨g, rfl, _, zg⟩ := HR.out.st.s.addr (by omega)
        have y1 : wr.cell? ⟨q, 1, none⟩ = some (.slice (some ⟨g, 0, none⟩) ns sc') := HR.out.box.cell 1
        have y2 : wr.cell? ⟨q, 2, none⟩ = some (.slice da' n dc') := HR.out.box.cell 2
        have l0 : wr.cell? ⟨w.heap.size, 0, none⟩ = some (.int .i64 sec) := (HB0.out.2.1.mono B5 (Nat.le_refl _)).cell 0
        have l1 : wr.cell? ⟨w.heap.size, 1, none⟩ = some (.slice a n cap) := (HB0.out.2.1.mono B5 (Nat.le_refl _)).cell 1
        have hk0 : (0 : Int) ≤ (k : Int) := by omega
        have hk1 : (k : Int) < (ns : Int) := by omega
        have HD : Hid (Ws w0 wr.drew q true (some ⟨g, 0, none⟩) sc' da' dc' ns n (tellN K n D2 S2 k) D2) := HR.out.drew
        obtain ⟨c0, c1, c2, c3, c4⟩ := HR.out.secs hlt
        rw [tellN_at] at c0 c1 c2 c3 c4
        obtain ⟨x, hx⟩ : ∃ x, Hid (S2 k = x) := ⟨_, rfl⟩
        rw [hx.out] at c0 c1 c2 c3 c4
        obtain ⟨x0, xc, xl, xs, xa⟩ := x
        obtain ⟨t, ht⟩ : ∃ t, Hid (toldF (deadB K n D2 k) ⟨x0, xc, xl, xs, xa⟩ = t) := ⟨_, rfl⟩
        have HTS : Hid (∀ W, Ws w0 W q true (some ⟨g, 0, none⟩) sc' da' dc' ns n (tellN K n D2 S2 k) D2 → Calls Try.prog 57 #[.agg #[.int .i64 sec, .slice a n cap], .slice da' n dc', .int .i64 k, .agg #[.int .i64 x0, .int .i64 xc, .bool xl, .bool xs, .int .i64 xa]] W fun e w' => e = .returned (.int .i64 t) ∧ Below W.heap.size W w') := fun W hW => by
          have := toldS sec a n cap K da' dc' D2 k ⟨x0, xc, xl, xs, xa⟩ W HG.out.2 ⟨hk0, by have := HSec.out; omega⟩ (HE.out.1.mono (Nat.le_refl _) hW.bel (Nat.le_refl _)) (hW.st.d.vs.le (Nat.zero_le _))
          rw [ht.out] at this
          exact this
        have HST : Hid (∀ W, Ws w0 W q true (some ⟨g, 0, none⟩) sc' da' dc' ns n (tellN K n D2 S2 k) D2 → Ws w0 (W.setCell ⟨g, k * 5, none⟩ (.int .i64 t)) q true (some ⟨g, 0, none⟩) sc' da' dc' ns n (tellN K n D2 S2 (k + 1)) D2) := fun W hW => by
          have := hW.put hlt (j := 0) (by omega) (u := .int .i64 t) ⟨t, xc, xl, xs, xa⟩ fun j' hj' => by
            rw [tellN_at, hx.out]
            rcases (show j' = 0 ∨ j' = 1 ∨ j' = 2 ∨ j' = 3 ∨ j' = 4 by omega) with rfl | rfl | rfl | rfl | rfl <;> rfl
          have e := tellN_succ K n D2 S2 k
          rw [hx.out, ht.out] at e
          rw [← e]
          exact this
        go_wp2_with fail
        refine wp_region_held_drew (S := (fun w' => w'.cell? ⟨q, 1, none⟩ = some (.slice (some ⟨g, 0, none⟩) ns sc') ∧ w'.cell? ⟨q, 2, none⟩ = some (.slice da' n dc') ∧ w'.cell? ⟨w.heap.size, 0, none⟩ = some (.int .i64 sec) ∧ w'.cell? ⟨w.heap.size, 1, none⟩ = some (.slice a n cap))) (by kernel_rfl) ⟨y1, y2, l0, l1⟩ (fun hHeld => ?_)
        refine wpAnyH_take (i := 0) (oi := { dst := some 133, op := Op.fieldAddr 42 (Operand.tmp 7) 1, type := 0, pos := "l15_count.go:140", after := #[], guard := none }) (v := .pointer (some ⟨q, 1, none⟩)) rfl (by kernel_rfl) (by kernel_rfl) (by kernel_rfl) (fun _ _ _ h => h) (Or.inl ⟨by rfl, ?_⟩) (by assumption) ?_
        · (intro w hSw; (try dsimp only at hSw); go_simp)
        try simp only [Act.put, List.setIfInBounds_toArray, List.set_cons_zero, List.set_cons_succ]
        refine wpAnyH_take (i := 1) (oi := { dst := some 134, op := Op.load 39 (Operand.tmp 133), type := 39, pos := "l15_count.go:140", after := #[{ on := 0, ground := Ground.data }], guard := none }) (v := .slice (some ⟨g, 0, none⟩) ns sc') rfl (by kernel_rfl) (by kernel_rfl) (by kernel_rfl) (fun _ _ _ h => h) (Or.inl ⟨by rfl, ?_⟩) (by assumption) ?_
        · (intro w hSw; (try dsimp only at hSw); go_simp)
        try simp only [Act.put, List.setIfInBounds_toArray, List.set_cons_zero, List.set_cons_succ]
        refine wpAnyH_take (i := 2) (oi := { dst := some 135, op := Op.move (Operand.tmp 14), type := 3, pos := "l15_count.go:140", after := #[], guard := none }) (v := .int .i64 k) rfl (by kernel_rfl) (by kernel_rfl) (by kernel_rfl) (fun _ _ _ h => h) (Or.inl ⟨by rfl, ?_⟩) (by assumption) ?_
        · (intro w hSw; (try dsimp only at hSw); go_simp)
        try simp only [Act.put, List.setIfInBounds_toArray, List.set_cons_zero, List.set_cons_succ]
        refine wpAnyH_take (i := 3) (oi := { dst := some 136, op := Op.load 29 (Operand.tmp 3), type := 29, pos := "l15_count.go:140", after := #[], guard := none }) (v := .agg #[.int .i64 sec, .slice a n cap]) rfl (by kernel_rfl) (by kernel_rfl) (by kernel_rfl) (fun _ _ _ h => h) (Or.inl ⟨by rfl, ?_⟩) (by assumption) ?_
        · (intro w hSw; (try dsimp only at hSw); go_simp)
        try simp only [Act.put, List.setIfInBounds_toArray, List.set_cons_zero, List.set_cons_succ]
        refine wpAnyH_take (i := 4) (oi := { dst := some 137, op := Op.fieldAddr 42 (Operand.tmp 7) 2, type := 0, pos := "l15_count.go:140", after := #[], guard := none }) (v := .pointer (some ⟨q, 2, none⟩)) rfl (by kernel_rfl) (by kernel_rfl) (by kernel_rfl) (fun _ _ _ h => h) (Or.inl ⟨by rfl, ?_⟩) (by assumption) ?_
        · (intro w hSw; (try dsimp only at hSw); go_simp)
        try simp only [Act.put, List.setIfInBounds_toArray, List.set_cons_zero, List.set_cons_succ]
        refine wpAnyH_take (i := 5) (oi := { dst := some 138, op := Op.load 40 (Operand.tmp 137), type := 40, pos := "l15_count.go:140", after := #[{ on := 4, ground := Ground.data }], guard := none }) (v := .slice da' n dc') rfl (by kernel_rfl) (by kernel_rfl) (by kernel_rfl) (fun _ _ _ h => h) (Or.inl ⟨by rfl, ?_⟩) (by assumption) ?_
        · (intro w hSw; (try dsimp only at hSw); go_simp)
        try simp only [Act.put, List.setIfInBounds_toArray, List.set_cons_zero, List.set_cons_succ]
        refine wpAnyH_take (i := 6) (oi := { dst := some 139, op := Op.move (Operand.tmp 14), type := 3, pos := "l15_count.go:140", after := #[], guard := none }) (v := .int .i64 k) rfl (by kernel_rfl) (by kernel_rfl) (by kernel_rfl) (fun _ _ _ h => h) (Or.inl ⟨by rfl, ?_⟩) (by assumption) ?_
        · (intro w hSw; (try dsimp only at hSw); go_simp)
        try simp only [Act.put, List.setIfInBounds_toArray, List.set_cons_zero, List.set_cons_succ]
        refine wpAnyH_take (i := 7) (oi := { dst := some 140, op := Op.fieldAddr 42 (Operand.tmp 7) 1, type := 0, pos := "l15_count.go:140", after := #[], guard := none }) (v := .pointer (some ⟨q, 1, none⟩)) rfl (by kernel_rfl) (by kernel_rfl) (by kernel_rfl) (fun _ _ _ h => h) (Or.inl ⟨by rfl, ?_⟩) (by assumption) ?_
        · (intro w hSw; (try dsimp only at hSw); go_simp)
        try simp only [Act.put, List.setIfInBounds_toArray, List.set_cons_zero, List.set_cons_succ]
        refine wpAnyH_take (i := 8) (oi := { dst := some 141, op := Op.load 39 (Operand.tmp 140), type := 39, pos := "l15_count.go:140", after := #[{ on := 7, ground := Ground.data }], guard := none }) (v := .slice (some ⟨g, 0, none⟩) ns sc') rfl (by kernel_rfl) (by kernel_rfl) (by kernel_rfl) (fun _ _ _ h => h) (Or.inl ⟨by rfl, ?_⟩) (by assumption) ?_
        · (intro w hSw; (try dsimp only at hSw); go_simp)
        try simp only [Act.put, List.setIfInBounds_toArray, List.set_cons_zero, List.set_cons_succ]
        refine wpAnyH_take (i := 9) (oi := { dst := some 142, op := Op.move (Operand.tmp 14), type := 3, pos := "l15_count.go:140", after := #[], guard := none }) (v := .int .i64 k) rfl (by kernel_rfl) (by kernel_rfl) (by kernel_rfl) (fun _ _ _ h => h) (Or.inl ⟨by rfl, ?_⟩) (by assumption) ?_
        · (intro w hSw; (try dsimp only at hSw); go_simp)
        try simp only [Act.put, List.setIfInBounds_toArray, List.set_cons_zero, List.set_cons_succ]
        refine wpAnyH_take (i := 10) (oi := { dst := some 143, op := Op.indexAddr 39 (Operand.tmp 141) (Operand.tmp 142), type := 0, pos := "l15_count.go:140", after := #[{ on := 8, ground := Ground.data }, { on := 9, ground := Ground.data }], guard := none }) (v := .pointer (some ⟨g, k * 5, none⟩)) rfl (by kernel_rfl) (by kernel_rfl) (by kernel_rfl) (fun _ _ _ h => h) (Or.inl ⟨by rfl, ?_⟩) (by assumption) ?_
        · (intro w hSw; (try dsimp only at hSw); go_simp)
        try simp only [Act.put, List.setIfInBounds_toArray, List.set_cons_zero, List.set_cons_succ]
        refine wpAnyH_ready (rs := [11]) (by kernel_rfl) (by simp) ?_
        refine AllReadyH.cons (o := { dst := some 144, op := Op.load 84 (Operand.tmp 143), type := 84, pos := "l15_count.go:140", after := #[{ on := 10, ground := Ground.data }], guard := none }) rfl (fun KK hKK => ?_) AllReadyH.nil
        go_simp
        refine hKK.out _ _ ?_ (fun hHeld => ?_)
        · exact ⟨y1, y2, l0, l1⟩
        clear hKK KK
        try simp only [Act.put, List.setIfInBounds_toArray, List.set_cons_zero, List.set_cons_succ]
        refine wpAnyH_ready (rs := [12]) (by kernel_rfl) (by simp) ?_
        refine AllReadyH.cons (o := { dst := some 145, op := Op.call { callee := Callee.value (Operand.func 57), args := #[Operand.tmp 136, Operand.tmp 138, Operand.tmp 139, Operand.tmp 144], argTypes := #[29, 40, 3, 84] }, type := 3, pos := "l15_count.go:140", after := #[{ on := 3, ground := Ground.data }, { on := 5, ground := Ground.data }, { on := 6, ground := Ground.data }, { on := 11, ground := Ground.data }], guard := none }) rfl (fun KK hKK => ?_) AllReadyH.nil
        go_simp
        refine (HTS.out _ HD.out).mono ?_
        rintro e w2 ⟨rfl, hb2⟩
        have HW2 : Hid (Ws w0 w2 q true (some ⟨g, 0, none⟩) sc' da' dc' ns n (tellN K n D2 S2 k) D2) := HD.out.mono hb2 (Nat.le_refl _)
        clear hb2
        have m1 : w2.cell? ⟨q, 1, none⟩ = some (.slice (some ⟨g, 0, none⟩) ns sc') := HW2.out.box.cell 1
        have m2 : w2.cell? ⟨q, 2, none⟩ = some (.slice da' n dc') := HW2.out.box.cell 2
        have m3 : w2.cell? ⟨w.heap.size, 0, none⟩ = some (.int .i64 sec) := (HB0.out.2.1.mono HW2.out.bel (Nat.le_refl _)).cell 0
        have m4 : w2.cell? ⟨w.heap.size, 1, none⟩ = some (.slice a n cap) := (HB0.out.2.1.mono HW2.out.bel (Nat.le_refl _)).cell 1
        go_wp2_with fail
        refine hKK.out _ _ ?_ (fun hHeld => ?_)
        · exact ⟨m1, m2, m3, m4⟩
        clear hKK KK
        try simp only [Act.put, List.setIfInBounds_toArray, List.set_cons_zero, List.set_cons_succ]
        refine wpAnyH_take (i := 13) (oi := { dst := some 146, op := Op.indexAddr 39 (Operand.tmp 134) (Operand.tmp 135), type := 0, pos := "l15_count.go:140", after := #[{ on := 1, ground := Ground.data }, { on := 2, ground := Ground.data }, { on := 0, ground := Ground.phase }, { on := 1, ground := Ground.phase }, { on := 2, ground := Ground.phase }, { on := 3, ground := Ground.phase }, { on := 4, ground := Ground.phase }, { on := 5, ground := Ground.phase }, { on := 6, ground := Ground.phase }, { on := 7, ground := Ground.phase }, { on := 8, ground := Ground.phase }, { on := 9, ground := Ground.phase }, { on := 10, ground := Ground.phase }, { on := 11, ground := Ground.phase }, { on := 12, ground := Ground.phase }], guard := none }) (v := .pointer (some ⟨g, k * 5, none⟩)) rfl (by kernel_rfl) (by kernel_rfl) (by kernel_rfl) (fun _ _ _ h => h) (Or.inl ⟨by rfl, ?_⟩) (by assumption) ?_
        · (intro w hSw; (try dsimp only at hSw); go_simp)
        try simp only [Act.put, List.setIfInBounds_toArray, List.set_cons_zero, List.set_cons_succ]
        refine wpAnyH_take (i := 14) (oi := { dst := some 147, op := Op.fieldAddr 84 (Operand.tmp 146) 0, type := 0, pos := "l15_count.go:140", after := #[{ on := 13, ground := Ground.data }, { on := 0, ground := Ground.phase }, { on := 1, ground := Ground.phase }, { on := 2, ground := Ground.phase }, { on := 3, ground := Ground.phase }, { on := 4, ground := Ground.phase }, { on := 5, ground := Ground.phase }, { on := 6, ground := Ground.phase }, { on := 7, ground := Ground.phase }, { on := 8, ground := Ground.phase }, { on := 9, ground := Ground.phase }, { on := 10, ground := Ground.phase }, { on := 11, ground := Ground.phase }, { on := 12, ground := Ground.phase }], guard := none }) (v := .pointer (some ⟨g, k * 5, none⟩)) rfl (by kernel_rfl) (by kernel_rfl) (by kernel_rfl) (fun _ _ _ h => h) (Or.inl ⟨by rfl, ?_⟩) (by assumption) ?_
        · (intro w hSw; (try dsimp only at hSw); go_simp)
        try simp only [Act.put, List.setIfInBounds_toArray, List.set_cons_zero, List.set_cons_succ]
        have HW3 : Hid (Ws w0 (w2.setCell ⟨g, k * 5, none⟩ (.int .i64 t)) q true (some ⟨g, 0, none⟩) sc' da' dc' ns n (tellN K n D2 S2 (k + 1)) D2) := HST.out _ HW2.out
        have m0 := (HW2.out.secs hlt).1
        have f0 := HW2.out.st.s.free (k * 5)
        refine wpAnyH_ready (rs := [15]) (by kernel_rfl) (by simp) ?_
        refine AllReadyH.cons (o := { dst := none, op := Op.store 3 (Operand.tmp 147) (Operand.tmp 145), type := 0, pos := "l15_count.go:140", after := #[{ on := 14, ground := Ground.data }, { on := 12, ground := Ground.data }, { on := 12, ground := Ground.chain }, { on := 0, ground := Ground.phase }, { on := 1, ground := Ground.phase }, { on := 2, ground := Ground.phase }, { on := 3, ground := Ground.phase }, { on := 4, ground := Ground.phase }, { on := 5, ground := Ground.phase }, { on := 6, ground := Ground.phase }, { on := 7, ground := Ground.phase }, { on := 8, ground := Ground.phase }, { on := 9, ground := Ground.phase }, { on := 10, ground := Ground.phase }, { on := 11, ground := Ground.phase }, { on := 12, ground := Ground.phase }], guard := none }) rfl (fun KK hKK => ?_) AllReadyH.nil
        go_simp
        refine hKK.out _ _ ?_ (fun hHeld => ?_)
        · exact ⟨HW3.out.box.cell 1, HW3.out.box.cell 2, (HB0.out.2.1.mono HW3.out.bel (Nat.le_refl _)).cell 0, (HB0.out.2.1.mono HW3.out.bel (Nat.le_refl _)).cell 1⟩
        clear hKK KK
        try simp only [Act.put, List.setIfInBounds_toArray, List.set_cons_zero, List.set_cons_succ]
        refine wpAnyH_done (by kernel_rfl) ?_ _
        go_wp2_with fail
        go_roundw
        case rel => exact ⟨k + 1, by omega, by go_num, HW3⟩
        case measure => simp [intOf]; omega
      · obtain rfl : k = ns := by omega
        have y0 : wr.cell? ⟨q, 0, none⟩ = some (.bool true) := HR.out.box.cell 0
        have y1 : wr.cell? ⟨q, 1, none⟩ = some (.slice sa' k sc') := HR.out.box.cell 1
        have y2 : wr.cell? ⟨q, 2, none⟩ = some (.slice da' n dc') := HR.out.box.cell 2
        have r0 : wr.cell? ⟨w.heap.size + 1 + 1 + 1, 0, none⟩ = some (.int .i64 0) := (HB0.out.2.2.2.2.mono B5 (Nat.le_refl _)).cell 0
        have r1 : wr.cell? ⟨w.heap.size + 1 + 1 + 1, 1, none⟩ = some (.bool false) := (HB0.out.2.2.2.2.mono B5 (Nat.le_refl _)).cell 1
        have r2 : wr.cell? ⟨w.heap.size + 1 + 1 + 1, 2, none⟩ = some (.slice none 0 0) := (HB0.out.2.2.2.2.mono B5 (Nat.le_refl _)).cell 2
        have r3 : wr.cell? ⟨w.heap.size + 1 + 1 + 1, 3, none⟩ = some (.slice none 0 0) := (HB0.out.2.2.2.2.mono B5 (Nat.le_refl _)).cell 3
        have g0 := (HB0.out.2.2.2.2.mono B5 (Nat.le_refl _)).free 0
        have g1 := (HB0.out.2.2.2.2.mono B5 (Nat.le_refl _)).free 1
        have g2 := (HB0.out.2.2.2.2.mono B5 (Nat.le_refl _)).free 2
        have g3 := (HB0.out.2.2.2.2.mono B5 (Nat.le_refl _)).free 3
        have hp : w.heap.size ≤ w.heap.size + 1 + 1 + 1 := by omega
        have hz3 : w.heap.size + 1 + 1 + 1 < w0.heap.size := HB0.out.2.2.2.2.lt
        go_wp2_with fail
        refine bodyPost_ret (res57 Try.results29 rfl (((((HB0.out.2.2.2.2.mono B5 (Nat.le_refl _)).set 0 (.int .i64 cd)).set 1 (.bool true)).set 2 (.slice sa' k sc')).set 3 (.slice da' n dc'))) rfl ⟨sa', sc', da', dc', ?_, ?_, ?_⟩
        · rw [hdo.out]
        · rw [hdo.out]
          exact ⟨HR.out.st.s.keep HB0.out.1.size (fun g hg => do_keep hz3 ((HR.out.st.s.lt hg).1)), HR.out.st.d.keep HB0.out.1.size (fun g hg => do_keep hz3 ((HR.out.st.d.lt hg).1))⟩
        · exact ((((HB0.out.1.trans (B5.mono HB0.out.1.size)).setCell hp _).setCell hp _).setCell hp _).setCell hp _

end Go.Proofs.Ytmcaohablpaknaa
