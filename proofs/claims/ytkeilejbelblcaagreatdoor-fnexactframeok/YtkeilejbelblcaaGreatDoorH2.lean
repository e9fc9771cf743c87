import Derived.Test.YtkeilejbelblcaaGreatDoorGMoSm
import Derived.Test.YtkeilejbelblcaaGreatDoorGSaH5
namespace Go.Proofs.YtkeilejbelblcaaGreatDoor
open Go.RowKit

/-- the switches of a list lie as they have to -/
def turnsB (L : Nat → Nat → Int) (n : Nat) (P : Nat → Nat → Int) : Bool := allB (fun j => decide (P (L j 0).toNat 0 = L j 1) && decide (P (L j 0).toNat 1 = L j 1)) n
/-- nobody is in the sections of a list -/
def freeB (S : Nat → Int) (n : Nat) (O : Nat → Bool) : Bool := allB (fun j => !O (S j).toNat) n
/-- a way is proved -/
def prvB (y : Wy) (O : Nat → Bool) (P : Nat → Nat → Int) : Bool := turnsB y.L y.nl P && (turnsB y.F y.nf P && (freeB y.S y.ns O && freeB y.O y.no O))
/-- what a way speaks of is there -/
structure Wy.In (y : Wy) (no np : Nat) : Prop where
  l : ∀ j, j < y.nl → ∃ o : Nat, y.L j 0 = (o : Int) ∧ o < np
  f : ∀ j, j < y.nf → ∃ o : Nat, y.F j 0 = (o : Int) ∧ o < np
  s : ∀ j, j < y.ns → ∃ o : Nat, y.S j = (o : Int) ∧ o < no
  o : ∀ j, j < y.no → ∃ o : Nat, y.O j = (o : Int) ∧ o < no
set_option maxRecDepth 100000 in
set_option maxHeartbeats 16000000 in
theorem proved67 (p : Pl) (f : Fm) (wa ya ba oa pa ha : Option Addr) (wc yc bc oc pc hc : Nat) (i : Nat) (w : World) (hs : p.small) (hfo : f.no ≤ 1048576) (hfp : f.np ≤ 1048576) (hi : i < p.ny) (hin : (p.Y i).In f.no f.np) (h : PlIn 0 w p wa ya ba) (ho : VsAt 1 0 w oa f.no (boolF f.O)) (hp : VsAt 2 0 w pa f.np (intF f.P)) :
    Calls Tryz.prog 66 #[.agg #[.int .i64 p.sec, .slice wa p.nw wc, .slice ya p.ny yc, .slice ba p.nb bc, .int .i64 p.hold], .agg #[.bool f.ok, .slice oa f.no oc, .slice pa f.np pc, .slice ha f.nh hc], .int .i64 (i : Int)] w fun e w' => e = .returned (.bool (prvB (p.Y i) f.O f.P)) ∧ Below w.heap.size w w' := by
  have hsm := hs.2.2.1 i hi
  have hpy := hs.2.1
  obtain ⟨b, off, hya, _, hb, hcy⟩ := h.wy (by omega)
  obtain ⟨sa, sc, la, lc, fa, fc, oo, oc2, ma, mc, x0, x1, x2, x3, x4, hy⟩ := hcy i hi
  subst hya
  rcases hY : p.Y i with ⟨n0, S, n1, L, n2, F, n3, Ov, n4, M⟩
  rw [hY] at x0 x1 x2 x3 x4 hy hin hsm
  dsimp only at x0 x1 x2 x3 x4
  have hnl : n1 ≤ 1048576 := by have := hsm.2.1; dsimp only at this; omega
  have hnf : n2 ≤ 1048576 := by have := hsm.2.2.1; dsimp only at this; omega
  have hns : n0 ≤ 1048576 := by have := hsm.1; dsimp only at this; omega
  have hno : n3 ≤ 1048576 := by have := hsm.2.2.2.1; dsimp only at this; omega
  have B2 := bel2 w (.cells #[.int .i64 p.sec, .slice wa p.nw wc, .slice (some ⟨b, off, none⟩) p.ny yc, .slice ba p.nb bc, .int .i64 p.hold] 37) (.cells #[.bool f.ok, .slice oa f.no oc, .slice pa f.np pc, .slice ha f.nh hc] 42)
  have v0 : ((w.alloc (.cells #[.int .i64 p.sec, .slice wa p.nw wc, .slice (some ⟨b, off, none⟩) p.ny yc, .slice ba p.nb bc, .int .i64 p.hold] 37)).alloc (.cells #[.bool f.ok, .slice oa f.no oc, .slice pa f.np pc, .slice ha f.nh hc] 42)).cell? ⟨b, off + i * 5, none⟩ = some (.slice sa n0 sc) := cell_keep B2 hb x0
  have v1 : ((w.alloc (.cells #[.int .i64 p.sec, .slice wa p.nw wc, .slice (some ⟨b, off, none⟩) p.ny yc, .slice ba p.nb bc, .int .i64 p.hold] 37)).alloc (.cells #[.bool f.ok, .slice oa f.no oc, .slice pa f.np pc, .slice ha f.nh hc] 42)).cell? ⟨b, off + i * 5 + 1, none⟩ = some (.slice la n1 lc) := cell_keep B2 hb x1
  have v2 : ((w.alloc (.cells #[.int .i64 p.sec, .slice wa p.nw wc, .slice (some ⟨b, off, none⟩) p.ny yc, .slice ba p.nb bc, .int .i64 p.hold] 37)).alloc (.cells #[.bool f.ok, .slice oa f.no oc, .slice pa f.np pc, .slice ha f.nh hc] 42)).cell? ⟨b, off + i * 5 + 2, none⟩ = some (.slice fa n2 fc) := cell_keep B2 hb x2
  have v3 : ((w.alloc (.cells #[.int .i64 p.sec, .slice wa p.nw wc, .slice (some ⟨b, off, none⟩) p.ny yc, .slice ba p.nb bc, .int .i64 p.hold] 37)).alloc (.cells #[.bool f.ok, .slice oa f.no oc, .slice pa f.np pc, .slice ha f.nh hc] 42)).cell? ⟨b, off + i * 5 + 3, none⟩ = some (.slice oo n3 oc2) := cell_keep B2 hb x3
  have v4 : ((w.alloc (.cells #[.int .i64 p.sec, .slice wa p.nw wc, .slice (some ⟨b, off, none⟩) p.ny yc, .slice ba p.nb bc, .int .i64 p.hold] 37)).alloc (.cells #[.bool f.ok, .slice oa f.no oc, .slice pa f.np pc, .slice ha f.nh hc] 42)).cell? ⟨b, off + i * 5 + 4, none⟩ = some (.slice ma n4 mc) := cell_keep B2 hb x4
  have hi0 : (0 : Int) ≤ (i : Int) := by omega
  have hil : (i : Int) < (p.ny : Int) := by omega
  have HY : Hid (WyIn 0 w ⟨n0, S, n1, L, n2, F, n3, Ov, n4, M⟩ sa la fa oo ma ∧ VsAt 1 0 w oa f.no (boolF f.O) ∧ VsAt 2 0 w pa f.np (intF f.P) ∧ Wy.In ⟨n0, S, n1, L, n2, F, n3, Ov, n4, M⟩ f.no f.np) := ⟨hy, ho, hp, hin⟩
  obtain ⟨R, HR⟩ : ∃ R, Hid (prvB ⟨n0, S, n1, L, n2, F, n3, Ov, n4, M⟩ f.O f.P = R) := ⟨_, rfl⟩
  rw [HR.out]
  clear hs h ho hp hcy hsm x0 x1 x2 x3 x4 hy hin B2 hY hb
  go_enter Tryz.func66, Tryz.ntmps66
  go_wp2_with fail
  have HX : Hid (Below w.heap.size w ((((w.alloc (.cells #[.int .i64 p.sec, .slice wa p.nw wc, .slice (some ⟨b, off, none⟩) p.ny yc, .slice ba p.nb bc, .int .i64 p.hold] 37)).alloc (.cells #[.bool f.ok, .slice oa f.no oc, .slice pa f.np pc, .slice ha f.nh hc] 42)).alloc (.cells #[.slice sa n0 sc, .slice la n1 lc, .slice fa n2 fc, .slice oo n3 oc2, .slice ma n4 mc] 112)).alloc (.cells #[.slice la n1 lc, .slice fa n2 fc] 110)) ∧ Box ((((w.alloc (.cells #[.int .i64 p.sec, .slice wa p.nw wc, .slice (some ⟨b, off, none⟩) p.ny yc, .slice ba p.nb bc, .int .i64 p.hold] 37)).alloc (.cells #[.bool f.ok, .slice oa f.no oc, .slice pa f.np pc, .slice ha f.nh hc] 42)).alloc (.cells #[.slice sa n0 sc, .slice la n1 lc, .slice fa n2 fc, .slice oo n3 oc2, .slice ma n4 mc] 112)).alloc (.cells #[.slice la n1 lc, .slice fa n2 fc] 110)) (w.heap.size + 1) 42 #[.bool f.ok, .slice oa f.no oc, .slice pa f.np pc, .slice ha f.nh hc] ∧ Box ((((w.alloc (.cells #[.int .i64 p.sec, .slice wa p.nw wc, .slice (some ⟨b, off, none⟩) p.ny yc, .slice ba p.nb bc, .int .i64 p.hold] 37)).alloc (.cells #[.bool f.ok, .slice oa f.no oc, .slice pa f.np pc, .slice ha f.nh hc] 42)).alloc (.cells #[.slice sa n0 sc, .slice la n1 lc, .slice fa n2 fc, .slice oo n3 oc2, .slice ma n4 mc] 112)).alloc (.cells #[.slice la n1 lc, .slice fa n2 fc] 110)) (w.heap.size + 1 + 1) 112 #[.slice sa n0 sc, .slice la n1 lc, .slice fa n2 fc, .slice oo n3 oc2, .slice ma n4 mc] ∧ Box ((((w.alloc (.cells #[.int .i64 p.sec, .slice wa p.nw wc, .slice (some ⟨b, off, none⟩) p.ny yc, .slice ba p.nb bc, .int .i64 p.hold] 37)).alloc (.cells #[.bool f.ok, .slice oa f.no oc, .slice pa f.np pc, .slice ha f.nh hc] 42)).alloc (.cells #[.slice sa n0 sc, .slice la n1 lc, .slice fa n2 fc, .slice oo n3 oc2, .slice ma n4 mc] 112)).alloc (.cells #[.slice la n1 lc, .slice fa n2 fc] 110)) (w.heap.size + 1 + 1 + 1) 110 #[.slice la n1 lc, .slice fa n2 fc]) := ⟨bel4 _ _ _ _ _, by have := (((Box.new (w.alloc (.cells #[.int .i64 p.sec, .slice wa p.nw wc, .slice (some ⟨b, off, none⟩) p.ny yc, .slice ba p.nb bc, .int .i64 p.hold] 37)) 42 #[.bool f.ok, .slice oa f.no oc, .slice pa f.np pc, .slice ha f.nh hc]).alloc (.cells #[.slice sa n0 sc, .slice la n1 lc, .slice fa n2 fc, .slice oo n3 oc2, .slice ma n4 mc] 112)).alloc (.cells #[.slice la n1 lc, .slice fa n2 fc] 110)); simpa using this, by have := (Box.new (((w.alloc (.cells #[.int .i64 p.sec, .slice wa p.nw wc, .slice (some ⟨b, off, none⟩) p.ny yc, .slice ba p.nb bc, .int .i64 p.hold] 37)).alloc (.cells #[.bool f.ok, .slice oa f.no oc, .slice pa f.np pc, .slice ha f.nh hc] 42))) 112 #[.slice sa n0 sc, .slice la n1 lc, .slice fa n2 fc, .slice oo n3 oc2, .slice ma n4 mc]).alloc (.cells #[.slice la n1 lc, .slice fa n2 fc] 110); simpa using this, by have := Box.new ((((w.alloc (.cells #[.int .i64 p.sec, .slice wa p.nw wc, .slice (some ⟨b, off, none⟩) p.ny yc, .slice ba p.nb bc, .int .i64 p.hold] 37)).alloc (.cells #[.bool f.ok, .slice oa f.no oc, .slice pa f.np pc, .slice ha f.nh hc] 42)).alloc (.cells #[.slice sa n0 sc, .slice la n1 lc, .slice fa n2 fc, .slice oo n3 oc2, .slice ma n4 mc] 112))) 110 #[.slice la n1 lc, .slice fa n2 fc]; simpa using this⟩
  clear v0 v1 v2 v3 v4
  generalize ((((w.alloc (.cells #[.int .i64 p.sec, .slice wa p.nw wc, .slice (some ⟨b, off, none⟩) p.ny yc, .slice ba p.nb bc, .int .i64 p.hold] 37)).alloc (.cells #[.bool f.ok, .slice oa f.no oc, .slice pa f.np pc, .slice ha f.nh hc] 42)).alloc (.cells #[.slice sa n0 sc, .slice la n1 lc, .slice fa n2 fc, .slice oo n3 oc2, .slice ma n4 mc] 112)).alloc (.cells #[.slice la n1 lc, .slice fa n2 fc] 110)) = W at HX ⊢
  obtain ⟨TB, HTB⟩ : ∃ TB : Nat → Bool, Hid (TB 0 = turnsB L n1 f.P ∧ TB 1 = turnsB F n2 f.P) := ⟨fun q => if q = 0 then turnsB L n1 f.P else turnsB F n2 f.P, by simp [Hid]⟩
  have HL : Hid (∀ q, q < 2 → ∃ a n c G, W.cell? ⟨w.heap.size + 1 + 1 + 1, q, none⟩ = some (.slice a n c) ∧ n ≤ 1048576 ∧ VsAt 2 0 W a n (intF G) ∧ (∀ j, j < n → ∃ o : Nat, G j 0 = (o : Int) ∧ o < f.np) ∧ TB q = turnsB G n f.P) := fun q hq => by
    rcases (show q = 0 ∨ q = 1 by omega) with e | e
    · subst e
      exact ⟨la, n1, lc, L, HX.out.2.2.2.cell 0, hnl, HY.out.1.l.mono (Nat.le_refl _) HX.out.1 (Nat.le_refl _), HY.out.2.2.2.l, HTB.out.1⟩
    · subst e
      exact ⟨fa, n2, fc, F, HX.out.2.2.2.cell 1, hnf, HY.out.1.f.mono (Nat.le_refl _) HX.out.1 (Nat.le_refl _), HY.out.2.2.2.f, HTB.out.2⟩
  have HPo : Hid (VsAt 2 0 W pa f.np (intF f.P) ∧ VsAt 1 0 W oa f.no (boolF f.O)) := ⟨HY.out.2.2.1.mono (Nat.le_refl _) HX.out.1 (Nat.le_refl _), HY.out.2.1.mono (Nat.le_refl _) HX.out.1 (Nat.le_refl _)⟩
  have HRT : Hid (∀ q, q < 2 → TB q = false → R = false) := fun q hq he => by
    rw [← HR.out, prvB]
    rcases (show q = 0 ∨ q = 1 by omega) with e | e
    · subst e
      rw [← HTB.out.1, he]; rfl
    · subst e
      rw [← HTB.out.2, he, Bool.false_and, Bool.and_false]
  go_loopw [27] (fun i wr => ∃ q : Nat, q ≤ 2 ∧ i = .int .i64 q ∧ Hid (∀ k, k < q → TB k = true) ∧ Hid (Below W.heap.size W wr)) (fun i _ => 2 - (intOf i).toNat)
  case atStart => exact ⟨0, Nat.zero_le _, rfl, fun i hi => absurd hi (Nat.not_lt_zero _), Below.refl _ _⟩
  case round =>
    obtain ⟨q, hq, rfl, HQ, HB⟩ := hrel
    by_cases hlt : q < 2
    · obtain ⟨a, n, c, G, hcl, hn, hG, hGo, hTq⟩ := HL.out q hlt
      have HG : Hid (VsAt 2 0 W a n (intF G) ∧ (∀ j, j < n → ∃ o : Nat, G j 0 = (o : Int) ∧ o < f.np) ∧ TB q = turnsB G n f.P) := ⟨hG, hGo, hTq⟩
      have cl : wr.cell? ⟨w.heap.size + 1 + 1 + 1, q, none⟩ = some (.slice a n c) := cell_keep HB.out HX.out.2.2.2.lt hcl
      clear hG hGo hTq hcl
      have hq0 : (0 : Int) ≤ (q : Int) := by omega
      have hqn : (q : Int) < (2 : Int) := by omega
      go_wp2_with fail
      clear cl
      have HBq := HB
      clear HB
      go_loopw [33] (fun j wi => ∃ r : Nat, r ≤ n ∧ j = .int .i64 r ∧ Hid (∀ k, k < r → (decide (f.P (G k 0).toNat 0 = G k 1) && decide (f.P (G k 0).toNat 1 = G k 1)) = true) ∧ Hid (Below W.heap.size W wi)) (fun j _ => n - (intOf j).toNat)
      case atStart => exact ⟨0, Nat.zero_le _, rfl, fun i hi => absurd hi (Nat.not_lt_zero _), HBq⟩
      case round =>
        obtain ⟨r, hr, rfl, HQr, HB⟩ := hrel
        by_cases hrn : r < n
        · obtain ⟨o, ho, hon⟩ := HG.out.2.1 r hrn
          obtain ⟨gb, go, rfl, _, hgb, hgc⟩ := HG.out.1.mono (Nat.le_refl _) HB.out (Nat.le_refl _) (by omega)
          have c0 : wr.cell? ⟨gb, go + r * 2, none⟩ = some (.int .i64 (o : Int)) := by rw [← ho]; exact hgc r hrn 0 (by omega)
          have c1 : wr.cell? ⟨gb, go + r * 2 + 1, none⟩ = some (.int .i64 (G r 1)) := hgc r hrn 1 (by omega)
          clear hgc
          have hr0 : (0 : Int) ≤ (r : Int) := by omega
          have hrn' : (r : Int) < (n : Int) := by omega
          go_wp2_with fail
          have HX1 : Hid (Box (wr.alloc (.cells #[.int .i64 (o : Int), .int .i64 (G r 1)] 146)) wr.heap.size 146 #[.int .i64 (o : Int), .int .i64 (G r 1)] ∧ Below W.heap.size W (wr.alloc (.cells #[.int .i64 (o : Int), .int .i64 (G r 1)] 146))) := ⟨Box.new wr 146 _, HB.out.alloc HB.out.size _⟩
          generalize wr.alloc (.cells #[.int .i64 (o : Int), .int .i64 (G r 1)] 146) = W1 at HX1 ⊢
          generalize wr.heap.size = xb at HX1 ⊢
          clear c0 c1 HB
          obtain ⟨pb, po, rfl, _, hpb, hpc⟩ := HPo.out.1.mono (Nat.le_refl _) HX1.out.2 (Nat.le_refl _) (by omega)
          have d0 : W1.cell? ⟨pb, po + o * 2, none⟩ = some (.int .i64 (f.P o 0)) := hpc o hon 0 (by omega)
          have d1 : W1.cell? ⟨pb, po + o * 2 + 1, none⟩ = some (.int .i64 (f.P o 1)) := hpc o hon 1 (by omega)
          have t0 : W1.cell? ⟨xb, 0, none⟩ = some (.int .i64 (o : Int)) := HX1.out.1.cell 0
          have t1 : W1.cell? ⟨xb, 1, none⟩ = some (.int .i64 (G r 1)) := HX1.out.1.cell 1
          have f2 : W1.cell? ⟨w.heap.size + 1, 2, none⟩ = some (.slice (some ⟨pb, po, none⟩) f.np pc) := (HX.out.2.1.mono HX1.out.2 (Nat.le_refl _)).cell 2
          clear hpc
          have ho0 : (0 : Int) ≤ (o : Int) := by omega
          have hon' : (o : Int) < (f.np : Int) := by omega
          have HNO : Hid ((decide (f.P o 0 = G r 1) && decide (f.P o 1 = G r 1)) = false → R = false) := fun e => HRT.out q hlt (by rw [HG.out.2.2, turnsB, allB_no hrn (by simp only [ho, Int.toNat_natCast]; exact e)])
          have HGO : Hid ((decide (f.P o 0 = G r 1) && decide (f.P o 1 = G r 1)) = true → ∀ k, k < r + 1 → (decide (f.P (G k 0).toNat 0 = G k 1) && decide (f.P (G k 0).toNat 1 = G k 1)) = true) := fun e k hk => by
            by_cases e2 : k = r
            · subst e2
              simp only [ho, Int.toNat_natCast]
              exact e
            · exact HQr.out k (by omega)
          have HBT : Hid (∀ v, Below w.heap.size w (W1.drewN v)) := fun v => below_drewN (HX.out.1.trans (HX1.out.2.mono HX.out.1.size)) _
          by_cases e0 : f.P o 0 = G r 1
          · have z0 : (f.P o 0 != G r 1) = false := by simpa using e0
            by_cases e1 : f.P o 1 = G r 1
            · have z1 : (f.P o 1 != G r 1) = false := by simpa using e1
              go_quiet (fail)
              go_wp2_with fail
              go_roundw
              case rel => exact ⟨r + 1, by omega, by go_num, HGO.out (by simp [e0, e1]), below_drewN HX1.out.2 _⟩
              case measure => simp [intOf]; omega
            · have z1 : (f.P o 1 != G r 1) = true := by simpa using e1
              go_quiet (fail)
              go_wp2_with fail
              go_ret
              exact ⟨by rw [HNO.out (by simp [e1])]; rfl, HBT.out _⟩
          · have z0 : (f.P o 0 != G r 1) = true := by simpa using e0
            go_quiet (fail)
            go_wp2_with fail
            go_ret
            exact ⟨by rw [HNO.out (by simp [e0])]; rfl, HBT.out _⟩
        · obtain rfl : r = n := by omega
          have HQ2 : Hid (∀ k, k < q + 1 → TB k = true) := fun k hk => by
            by_cases e : k = q
            · subst e
              rw [HG.out.2.2, turnsB]
              exact allB_iff.2 HQr.out
            · exact HQ.out k (by omega)
          go_wp2_with fail
          go_roundw
          case rel => exact ⟨q + 1, by omega, by go_num, HQ2, HB⟩
          case measure => simp [intOf]; omega
    · obtain rfl : q = 2 := by omega
      have y0 : wr.cell? ⟨w.heap.size + 1 + 1, 0, none⟩ = some (.slice sa n0 sc) := (HX.out.2.2.1.mono HB.out (Nat.le_refl _)).cell 0
      have y3 : wr.cell? ⟨w.heap.size + 1 + 1, 3, none⟩ = some (.slice oo n3 oc2) := (HX.out.2.2.1.mono HB.out (Nat.le_refl _)).cell 3
      have hTT : TB 0 = true ∧ TB 1 = true := ⟨HQ.out 0 (by omega), HQ.out 1 (by omega)⟩
      go_wp2_with fail
      have HZ : Hid (Box (wr.alloc (.cells #[.slice sa n0 sc, .slice oo n3 oc2] 22)) wr.heap.size 22 #[.slice sa n0 sc, .slice oo n3 oc2] ∧ Box (wr.alloc (.cells #[.slice sa n0 sc, .slice oo n3 oc2] 22)) (w.heap.size + 1) 42 #[.bool f.ok, .slice oa f.no oc, .slice pa f.np pc, .slice ha f.nh hc] ∧ Below w.heap.size w (wr.alloc (.cells #[.slice sa n0 sc, .slice oo n3 oc2] 22)) ∧ Below W.heap.size W (wr.alloc (.cells #[.slice sa n0 sc, .slice oo n3 oc2] 22))) := ⟨Box.new _ _ _, (HX.out.2.1.mono HB.out (Nat.le_refl _)).alloc _, (HX.out.1.trans (HB.out.mono HX.out.1.size)).alloc (HX.out.1.trans (HB.out.mono HX.out.1.size)).size _, HB.out.alloc HB.out.size _⟩
      generalize wr.alloc (.cells #[.slice sa n0 sc, .slice oo n3 oc2] 22) = V at HZ ⊢
      generalize wr.heap.size = zb at HZ ⊢
      obtain ⟨SB, HSB⟩ : ∃ SB : Nat → Bool, Hid (SB 0 = freeB S n0 f.O ∧ SB 1 = freeB Ov n3 f.O) := ⟨fun q => if q = 0 then freeB S n0 f.O else freeB Ov n3 f.O, by simp [Hid]⟩
      have HL2 : Hid (∀ q, q < 2 → ∃ a n c G, V.cell? ⟨zb, q, none⟩ = some (.slice a n c) ∧ n ≤ 1048576 ∧ VsAt 1 0 V a n (oneF G) ∧ (∀ j, j < n → ∃ o : Nat, G j = (o : Int) ∧ o < f.no) ∧ SB q = freeB G n f.O) := fun q hq => by
        rcases (show q = 0 ∨ q = 1 by omega) with e | e
        · subst e
          exact ⟨sa, n0, sc, S, HZ.out.1.cell 0, hns, HY.out.1.s.mono (Nat.le_refl _) HZ.out.2.2.1 (Nat.le_refl _), HY.out.2.2.2.s, HSB.out.1⟩
        · subst e
          exact ⟨oo, n3, oc2, Ov, HZ.out.1.cell 1, hno, HY.out.1.o.mono (Nat.le_refl _) HZ.out.2.2.1 (Nat.le_refl _), HY.out.2.2.2.o, HSB.out.2⟩
      have HOo : Hid (VsAt 1 0 V oa f.no (boolF f.O)) := HY.out.2.1.mono (Nat.le_refl _) HZ.out.2.2.1 (Nat.le_refl _)
      have HRS : Hid (R = (SB 0 && SB 1)) := by
        rw [Hid, ← HR.out, prvB, HSB.out.1, HSB.out.2]
        show (turnsB L n1 f.P && (turnsB F n2 f.P && _)) = _
        rw [← HTB.out.1, ← HTB.out.2, hTT.1, hTT.2, Bool.true_and, Bool.true_and]
      clear y0 y3 hTT HB HQ HRT HL HPo HTB HR
      go_loopw [67] (fun i wr => ∃ q : Nat, q ≤ 2 ∧ i = .int .i64 q ∧ Hid (∀ k, k < q → SB k = true) ∧ Hid (Below V.heap.size V wr)) (fun i _ => 2 - (intOf i).toNat)
      case atStart => exact ⟨0, Nat.zero_le _, rfl, fun i hi => absurd hi (Nat.not_lt_zero _), Below.refl _ _⟩
      case round =>
        obtain ⟨q, hq, rfl, HQ, HB⟩ := hrel
        by_cases hlt : q < 2
        · obtain ⟨a, n, c, G, hcl, hn, hG, hGo, hTq⟩ := HL2.out q hlt
          have HG : Hid (VsAt 1 0 V a n (oneF G) ∧ (∀ j, j < n → ∃ o : Nat, G j = (o : Int) ∧ o < f.no) ∧ SB q = freeB G n f.O) := ⟨hG, hGo, hTq⟩
          have cl : wr.cell? ⟨zb, q, none⟩ = some (.slice a n c) := cell_keep HB.out HZ.out.1.lt hcl
          clear hG hGo hTq hcl
          have hq0 : (0 : Int) ≤ (q : Int) := by omega
          have hqn : (q : Int) < (2 : Int) := by omega
          go_wp2_with fail
          clear cl
          have HBq := HB
          clear HB
          go_loopw [73] (fun j wi => ∃ r : Nat, r ≤ n ∧ j = .int .i64 r ∧ Hid (∀ k, k < r → (!f.O (G k).toNat) = true) ∧ Hid (Below V.heap.size V wi)) (fun j _ => n - (intOf j).toNat)
          case atStart => exact ⟨0, Nat.zero_le _, rfl, fun i hi => absurd hi (Nat.not_lt_zero _), HBq⟩
          case round =>
            obtain ⟨r, hr, rfl, HQr, HB⟩ := hrel
            by_cases hrn : r < n
            · obtain ⟨o, ho, hon⟩ := HG.out.2.1 r hrn
              obtain ⟨gb, go, rfl, _, hgb, hgc⟩ := HG.out.1.mono (Nat.le_refl _) HB.out (Nat.le_refl _) (by omega)
              have c0 : wr.cell? ⟨gb, go + r, none⟩ = some (.int .i64 (o : Int)) := by rw [← ho]; have := hgc r hrn 0 (by omega); rwa [Nat.mul_one] at this
              clear hgc
              obtain ⟨pb, po, rfl, _, hpb, hpc⟩ := HOo.out.mono (Nat.le_refl _) HB.out (Nat.le_refl _) (by omega)
              have d0 : wr.cell? ⟨pb, po + o, none⟩ = some (.bool (f.O o)) := by have := hpc o hon 0 (by omega); rwa [Nat.mul_one] at this
              have f1 : wr.cell? ⟨w.heap.size + 1, 1, none⟩ = some (.slice (some ⟨pb, po, none⟩) f.no oc) := (HZ.out.2.1.mono HB.out (Nat.le_refl _)).cell 1
              clear hpc
              have hr0 : (0 : Int) ≤ (r : Int) := by omega
              have hrn' : (r : Int) < (n : Int) := by omega
              have ho0 : (0 : Int) ≤ (o : Int) := by omega
              have hon' : (o : Int) < (f.no : Int) := by omega
              have HBT : Hid (Below w.heap.size w wr) := HZ.out.2.2.1.trans (HB.out.mono HZ.out.2.2.1.size)
              cases e0 : f.O o with
              | true =>
                rw [e0] at d0
                have HF : Hid (R = false) := by
                  have h0 : SB q = false := by rw [HG.out.2.2, freeB, allB_no hrn (by simp [ho, e0])]
                  rw [Hid, HRS.out]
                  rcases (show q = 0 ∨ q = 1 by omega) with e | e
                  · subst e
                    rw [h0]; rfl
                  · subst e
                    rw [h0, Bool.and_false]
                go_wp2_with fail
                go_ret
                exact ⟨by rw [HF.out]; rfl, HBT.out⟩
              | false =>
                rw [e0] at d0
                have HGO : Hid (∀ k, k < r + 1 → (!f.O (G k).toNat) = true) := fun k hk => by
                  by_cases e2 : k = r
                  · subst e2
                    simp [ho, e0]
                  · exact HQr.out k (by omega)
                go_wp2_with fail
                go_roundw
                case rel => exact ⟨r + 1, by omega, by go_num, HGO, HB⟩
                case measure => simp [intOf]; omega
            · obtain rfl : r = n := by omega
              have HQ2 : Hid (∀ k, k < q + 1 → SB k = true) := fun k hk => by
                by_cases e : k = q
                · subst e
                  rw [HG.out.2.2, freeB]
                  exact allB_iff.2 HQr.out
                · exact HQ.out k (by omega)
              go_wp2_with fail
              go_roundw
              case rel => exact ⟨q + 1, by omega, by go_num, HQ2, HB⟩
              case measure => simp [intOf]; omega
        · obtain rfl : q = 2 := by omega
          have HF : Hid (R = true) := by rw [Hid, HRS.out, HQ.out 0 (by omega), HQ.out 1 (by omega)]; rfl
          have HBT : Hid (Below w.heap.size w wr) := HZ.out.2.2.1.trans (HB.out.mono HZ.out.2.2.1.size)
          go_wp2_with fail
          go_ret
          exact ⟨by rw [HF.out]; rfl, HBT.out⟩

end Go.Proofs.YtkeilejbelblcaaGreatDoor
