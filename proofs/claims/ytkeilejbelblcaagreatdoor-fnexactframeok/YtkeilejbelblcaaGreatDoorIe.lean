import Derived.Test.YtkeilejbelblcaaGreatDoorId
import Derived.Deep.RegionHeld3
namespace Go.Proofs.YtkeilejbelblcaaGreatDoor
open Go.RowKit

/-- one struct appended to a slice of one's own -/
theorem wpList_vapp {P : Program} (w : World) {ops : Array Oper} {rest : List Oper} {o : Oper} {a : Act} {Q : Exit → Act → World → Prop} (hgd : o.guard = none) (s x : Operand) (t : TypeId)
    (ho : o.op = .call { callee := .builtin .append, args := #[s, x], argTypes := #[t, t] })
    (B : Nat) (e : TypeId) (i : TypeInfo) (z : Value) (c bytes : Nat) (ht : P.underlying t = some (.slice e)) (hi : P.info? e = some i) (hz : i.zero = some z)
    (hsize : i.size = c) (hby : i.bytes = bytes) (hzs : z.cells.size = c) (hsz : 0 < c)
    (v : Value) (n : Nat) (F : Nat → Nat → Value) (hs : a.eval s = v) (hown : VOwn B e c w v n F) (h1 : ∀ i j, (F i j).oneCell' = true)
    (q cap : Nat) (vs : Array Value) (hx : a.eval x = .slice (some ⟨q, 0, none⟩) 1 cap) (hb : Box w q e vs) (hvs : vs.toList = (List.range c).map (F n))
    (h63 : n + 1 ≤ maxLen) (hbytes : (n + 1) * bytes ≤ 140737488355328) (hbase : B ≤ w.heap.size)
    (h : Halt (∀ v' w', VOwn B e c w' v' (n + 1) F → w.grownBy w' v.ownBlock → wpList P ops Q rest (a.put o.dst v') w')) : wpList P ops Q (o :: rest) a w := by
  refine wpList_append_own w hgd s x t ho B e i z c bytes ht hi hz hsize hby hzs hsz v n (vcells c n F) hs hown.row ⟨q, 0, none⟩ 1 cap ((List.range c).map (F n)) hx (by simp) ?_ ?_ h63 hbytes hbase ?_
  · intro j u hj
    rw [← hvs] at hj
    have hadd : (⟨q, 0, none⟩ : Addr).add j = ⟨q, j, none⟩ := by unfold Addr.add; split <;> simp_all
    rw [hadd, hb.cell]
    simpa using hj
  · intro u hu
    obtain ⟨j, _, rfl⟩ := List.mem_map.1 hu
    exact h1 _ _
  · intro v' w' ho' hg' _
    rw [← vcells_succ] at ho'
    exact h v' w' (VOwn.of_row ho') hg'

theorem infoMarks : (Tryz.prog.info? 192).map (fun i => (i.zero, i.size, i.bytes)) = some (some (.agg #[.int .u64 0, .int .u64 0]), 2, 16) := by kernel_rfl
/-- the marks of the ways' sections -/
def wmF (p : Pl) (i j : Nat) : Value := if j = 0 then .int .u64 ((secA (p.Y i).S (p.Y i).ns p.sec : Nat) : Int) else .int .u64 ((secB (p.Y i).S (p.Y i).ns p.sec : Nat) : Int)
theorem one_wm (p : Pl) (i j : Nat) : (wmF p i j).oneCell' = true := by
  unfold wmF
  split <;> rfl
/-- no mark is in both ways -/
def apF (p : Pl) (i k : Nat) : Bool := (((secA (p.Y i).S (p.Y i).ns p.sec &&& secA (p.Y k).S (p.Y k).ns p.sec : Nat) : Int) == 0) && (((secB (p.Y i).S (p.Y i).ns p.sec &&& secB (p.Y k).S (p.Y k).ns p.sec : Nat) : Int) == 0)
def barI (p : Pl) (i k : Nat) : Bool := decide (p.T i k ≠ p.T k i) || (!p.T i k && decide (i ≠ k) && !apF p i k)
def barsI (p : Pl) : Int × Int := match firstB (fun i => anyB (barI p i) (p.K i)) p.nb with
  | some i => (5, (i : Int))
  | none => (0, 0)
theorem barsI_hit {p : Pl} {k : Nat} (ha : ∀ q, q < k → anyB (barI p q) (p.K q) = false) (hk : k < p.nb) (hb : anyB (barI p k) (p.K k) = true) : barsI p = (5, (k : Int)) := by
  rw [barsI, firstB_hit (k := k) ha hk hb]
theorem barsI_no {p : Pl} (ha : ∀ q, q < p.nb → anyB (barI p q) (p.K q) = false) : barsI p = (0, 0) := by
  rw [barsI, firstB_none ha]

set_option maxRecDepth 100000 in
set_option maxHeartbeats 8000000 in
theorem bars32 (p : Pl) (wa ya ba : Option Addr) (wc yc bc : Nat) (w : World) (h1 : 1 ≤ p.sec) (h2 : p.sec ≤ 60) (hs : p.small) (hnb : p.nb = p.ny) (hK : ∀ i, i < p.nb → p.K i = p.ny) (h : PlIn 0 w p wa ya ba) :
    Calls Tryz.prog 105 #[.agg #[.int .i64 p.sec, .slice wa p.nw wc, .slice ya p.ny yc, .slice ba p.nb bc, .int .i64 p.hold]] w fun e w' => e = .returned (.agg #[.int .i64 (barsI p).1, .int .i64 (barsI p).2]) ∧ Below w.heap.size w w' := by
  obtain ⟨s1, s2, s3, s4, s5⟩ := hs
  have HS : Hid ((∀ i, i < p.ny → (p.Y i).small 1048576) ∧ ∀ i, i < p.nb → p.K i ≤ 1048576) := ⟨s3, s5⟩
  have H : Hid (PlIn 0 w p wa ya ba) := h
  have HK : Hid (∀ i, i < p.nb → p.K i = p.ny) := hK
  have HNB : Hid (p.nb = p.ny) := hnb
  clear h s3 s5 hK hnb
  obtain ⟨i0, hi0, hz0, hs0, hb0⟩ := info_parts infoMarks
  go_enter Tryz.func105, Tryz.ntmps105
  go_wp2_with fail
  have HX : Hid (Below w.heap.size w ((w.alloc (.cells #[.int .i64 p.sec, .slice wa p.nw wc, .slice ya p.ny yc, .slice ba p.nb bc, .int .i64 p.hold] 37)).alloc (.cells #[.int .i64 0, .int .i64 0] 124)) ∧ Box ((w.alloc (.cells #[.int .i64 p.sec, .slice wa p.nw wc, .slice ya p.ny yc, .slice ba p.nb bc, .int .i64 p.hold] 37)).alloc (.cells #[.int .i64 0, .int .i64 0] 124)) w.heap.size 37 #[.int .i64 p.sec, .slice wa p.nw wc, .slice ya p.ny yc, .slice ba p.nb bc, .int .i64 p.hold] ∧ Box ((w.alloc (.cells #[.int .i64 p.sec, .slice wa p.nw wc, .slice ya p.ny yc, .slice ba p.nb bc, .int .i64 p.hold] 37)).alloc (.cells #[.int .i64 0, .int .i64 0] 124)) (w.heap.size + 1) 124 #[.int .i64 0, .int .i64 0]) := ⟨bel2 _ _ _, (Box.new w 37 _).alloc _, by have := Box.new (w.alloc (.cells #[.int .i64 p.sec, .slice wa p.nw wc, .slice ya p.ny yc, .slice ba p.nb bc, .int .i64 p.hold] 37)) 124 #[.int .i64 0, .int .i64 0]; simpa using this⟩
  generalize ((w.alloc (.cells #[.int .i64 p.sec, .slice wa p.nw wc, .slice ya p.ny yc, .slice ba p.nb bc, .int .i64 p.hold] 37)).alloc (.cells #[.int .i64 0, .int .i64 0] 124)) = W0 at HX ⊢
  go_loopw [3, 15] (fun v i wr => ∃ (q : Nat) (va : Option Addr) (vc : Nat), q ≤ p.ny ∧ i = .int .i64 q ∧ v = .slice va q vc ∧ Hid ((Below w.heap.size w wr ∧ Box wr w.heap.size 37 #[.int .i64 p.sec, .slice wa p.nw wc, .slice ya p.ny yc, .slice ba p.nb bc, .int .i64 p.hold] ∧ Box wr (w.heap.size + 1) 124 #[.int .i64 0, .int .i64 0]) ∧ VOwn (w.heap.size + 1 + 1) 192 2 wr (.slice va q vc) q (wmF p))) (fun _ i _ => p.ny - (intOf i).toNat)
  case atStart => exact ⟨0, none, 0, Nat.zero_le _, rfl, rfl, HX, VOwn.nil _ _ _ _ _⟩
  case round =>
    obtain ⟨q, va, vc, hq, rfl, rfl, HB⟩ := hrel
    by_cases hlt : q < p.ny
    · obtain ⟨b, off, hya, _, hb, hc⟩ := (H.out.wy.mono (Nat.le_refl _) HB.out.1.1 (Nat.le_refl _)) (by omega)
      obtain ⟨sa, sc, la, lc, fa, fc, oa, oc, ma, mc, c0, c1, c2, c3, c4, hin⟩ := hc q hlt
      have HIN : Hid (WyIn 0 wr (p.Y q) sa la fa oa ma) := hin
      have hn := (HS.out.1 q hlt).1
      have xp0 : wr.cell? ⟨w.heap.size, 0, none⟩ = some (.int .i64 p.sec) := HB.out.1.2.1.cell 0
      have xp1 : wr.cell? ⟨w.heap.size, 1, none⟩ = some (.slice wa p.nw wc) := HB.out.1.2.1.cell 1
      have xp2 : wr.cell? ⟨w.heap.size, 2, none⟩ = some (.slice ya p.ny yc) := HB.out.1.2.1.cell 2
      have xp3 : wr.cell? ⟨w.heap.size, 3, none⟩ = some (.slice ba p.nb bc) := HB.out.1.2.1.cell 3
      have xp4 : wr.cell? ⟨w.heap.size, 4, none⟩ = some (.int .i64 p.hold) := HB.out.1.2.1.cell 4
      have zp : w.heap.size < wr.heap.size := HB.out.1.2.1.lt
      have zr : w.heap.size + 1 < wr.heap.size := HB.out.1.2.2.lt
      clear hc hin hb
      subst hya
      have hq0 : (0 : Int) ≤ (q : Int) := by omega
      have hqn : (q : Int) < (p.ny : Int) := by omega
      go_wp2_with fail
      clear c0 c1 c2 c3 c4 xp0 xp1 xp2 xp3 xp4 zp
      have B1 := bel1 wr (.cells #[.slice sa (p.Y q).ns sc, .slice la (p.Y q).nl lc, .slice fa (p.Y q).nf fc, .slice oa (p.Y q).no oc, .slice ma (p.Y q).nm mc] 112)
      refine (sec58 p _ _ _ _ _ _ sa (p.Y q).ns sc (p.Y q).S _ (by omega) h1 h2 (HIN.out.s.mono (Nat.le_refl _) B1 (Nat.le_refl _))).mono ?_
      rintro e w1 ⟨rfl, hb1⟩
      have B2 : Below wr.heap.size wr w1 := B1.trans (hb1.mono B1.size)
      have HB1 : Hid ((Below w.heap.size w w1 ∧ Box w1 w.heap.size 37 #[.int .i64 p.sec, .slice wa p.nw wc, .slice (some ⟨b, off, none⟩) p.ny yc, .slice ba p.nb bc, .int .i64 p.hold] ∧ Box w1 (w.heap.size + 1) 124 #[.int .i64 0, .int .i64 0]) ∧ VOwn (w.heap.size + 1 + 1) 192 2 w1 (.slice va q vc) q (wmF p)) := ⟨⟨HB.out.1.1.trans (B2.mono HB.out.1.1.size), HB.out.1.2.1.mono B2 (Nat.le_refl _), HB.out.1.2.2.mono B2 (Nat.le_refl _)⟩, HB.out.2.mono (Nat.le_refl _) B2 (Nat.le_refl _)⟩
      have zz : w.heap.size + 1 + 1 ≤ w1.heap.size := HB1.out.1.2.2.lt
      clear B1 B2 hb1 HIN HB zr
      go_wp2_with (at_builtin; go_must (refine wpList_vapp _ rfl _ _ 196 rfl (w.heap.size + 1 + 1) 192 i0 _ 2 16 Tryz.underlying196 hi0 hz0 hs0 hb0 rfl (by decide) (.slice va q vc) q (wmF p) rfl ((HB1.out.2.alloc _).alloc _) (one_wm p) (w1.heap.size + 1) 1 #[.int .u64 ((secA (p.Y q).S (p.Y q).ns p.sec : Nat) : Int), .int .u64 ((secB (p.Y q).S (p.Y q).ns p.sec : Nat) : Int)] rfl (by have := Box.new (w1.alloc (.cells #[.int .u64 ((secA (p.Y q).S (p.Y q).ns p.sec : Nat) : Int), .int .u64 ((secB (p.Y q).S (p.Y q).ns p.sec : Nat) : Int)] 192)) 192 #[.int .u64 ((secA (p.Y q).S (p.Y q).ns p.sec : Nat) : Int), .int .u64 ((secB (p.Y q).S (p.Y q).ns p.sec : Nat) : Int)]; simpa using this) rfl (by simp only [maxLen]; omega) (by omega) (by simp; omega) (Halt.mk ?_)))
      intro v2 w2 o2 g2
      obtain ⟨va2, vc2, hv2⟩ := o2.val
      subst hv2
      have hrow : ∀ j, (Value.slice va q vc).ownBlock = some j → w.heap.size + 1 + 1 ≤ j := fun j hj => (HB1.out.2.lt hj).1
      have HB2 : Hid ((Below w.heap.size w w2 ∧ Box w2 w.heap.size 37 #[.int .i64 p.sec, .slice wa p.nw wc, .slice (some ⟨b, off, none⟩) p.ny yc, .slice ba p.nb bc, .int .i64 p.hold] ∧ Box w2 (w.heap.size + 1) 124 #[.int .i64 0, .int .i64 0]) ∧ VOwn (w.heap.size + 1 + 1) 192 2 w2 (.slice va2 (q + 1) vc2) (q + 1) (wmF p)) := ⟨⟨((HB1.out.1.1.alloc HB1.out.1.1.size _).alloc (by simp; omega) _).grown g2 (by simp; omega) (fun j hj => by have := hrow j hj; omega), ((HB1.out.1.2.1.alloc _).alloc _).grown g2 (fun e => by have := hrow _ e; omega), ((HB1.out.1.2.2.alloc _).alloc _).grown g2 (fun e => by have := hrow _ e; omega)⟩, o2⟩
      clear o2 g2 hrow HB1
      go_wp2_with fail
      go_roundw
      case rel => exact ⟨q + 1, va2, vc2, by omega, by go_num, rfl, HB2⟩
      case measure => simp [intOf]; omega
    · obtain rfl : q = p.ny := by omega
      have HMK : Hid (VsAt 2 0 wr va p.ny (wmF p)) := HB.out.2.vs.le (Nat.zero_le _)
      have HBp : Hid (Below w.heap.size w wr ∧ Box wr w.heap.size 37 #[.int .i64 p.sec, .slice wa p.nw wc, .slice ya p.ny yc, .slice ba p.nb bc, .int .i64 p.hold] ∧ Box wr (w.heap.size + 1) 124 #[.int .i64 0, .int .i64 0]) := HB.out.1
      have x3 : wr.cell? ⟨w.heap.size, 3, none⟩ = some (.slice ba p.nb bc) := HB.out.1.2.1.cell 3
      clear HB
      go_wp2_with fail
      clear x3
      obtain ⟨WB, hWB⟩ : ∃ W, W = wr := ⟨wr, rfl⟩
      rw [← hWB] at HBp HMK
      rw [← hWB]
      clear hWB
      go_loopw [34] (fun i wr => ∃ q : Nat, q ≤ p.nb ∧ i = .int .i64 q ∧ Hid (∀ i, i < q → anyB (barI p i) (p.K i) = false) ∧ Hid (Below WB.heap.size WB wr)) (fun i _ => p.nb - (intOf i).toNat)
      case atStart => exact ⟨0, Nat.zero_le _, rfl, fun i hi => absurd hi (Nat.not_lt_zero _), Below.refl _ _⟩
      case round =>
        obtain ⟨q, hq, rfl, HQ, HBW⟩ := hrel
        have HBR : Hid (Below w.heap.size w wr ∧ Box wr w.heap.size 37 #[.int .i64 p.sec, .slice wa p.nw wc, .slice ya p.ny yc, .slice ba p.nb bc, .int .i64 p.hold] ∧ Box wr (w.heap.size + 1) 124 #[.int .i64 0, .int .i64 0]) := ⟨HBp.out.1.trans (HBW.out.mono HBp.out.1.size), HBp.out.2.1.mono HBW.out (Nat.le_refl _), HBp.out.2.2.mono HBW.out (Nat.le_refl _)⟩
        by_cases hlt : q < p.nb
        · obtain ⟨b, off, hba, _, hb, hc⟩ := (H.out.br.mono (Nat.le_refl _) HBR.out.1 (Nat.le_refl _)) (by omega)
          obtain ⟨ra, rc, c0, hrow⟩ := hc q hlt
          have HROW : Hid (VsAt 1 0 wr ra (p.K q) (boolF (p.T q))) := hrow
          clear hc hrow hb
          subst hba
          have hq0 : (0 : Int) ≤ (q : Int) := by omega
          have hqn : (q : Int) < (p.nb : Int) := by omega
          have hqy : (q : Int) < (p.ny : Int) := by have := HNB.out; omega
          have hKs : p.K q ≤ 1048576 := HS.out.2 q hlt
          go_wp2_with fail
          clear c0
          obtain ⟨WR, hWR⟩ : ∃ W, W = wr := ⟨wr, rfl⟩
          rw [← hWR] at HBW HBR HROW
          rw [← hWR]
          clear hWR
          go_loopw [41] (fun j wi => ∃ r : Nat, r ≤ p.K q ∧ j = .int .i64 r ∧ Hid (∀ k, k < r → barI p q k = false) ∧ Hid (Below WR.heap.size WR wi)) (fun j _ => p.K q - (intOf j).toNat)
          case atStart => exact ⟨0, Nat.zero_le _, rfl, fun i hi => absurd hi (Nat.not_lt_zero _), Below.refl _ _⟩
          case round =>
            obtain ⟨r, hr, rfl, HR, HBI⟩ := hrel
            by_cases hrk : r < p.K q
            · have HBN : Hid (Below w.heap.size w wr ∧ Box wr w.heap.size 37 #[.int .i64 p.sec, .slice wa p.nw wc, .slice ya p.ny yc, .slice (some ⟨b, off, none⟩) p.nb bc, .int .i64 p.hold] ∧ Box wr (w.heap.size + 1) 124 #[.int .i64 0, .int .i64 0]) := ⟨HBR.out.1.trans (HBI.out.mono HBR.out.1.size), HBR.out.2.1.mono HBI.out (Nat.le_refl _), HBR.out.2.2.mono HBI.out (Nat.le_refl _)⟩
              have hrn : r < p.nb := by have h1 := HK.out q hlt; have h2 := HNB.out; omega
              have hqK : q < p.K r := by have h1 := HK.out r hrn; have h2 := HNB.out; omega
              have hKr : p.K r ≤ 1048576 := HS.out.2 r hrn
              obtain ⟨rb, roff, hra, _, _, hcr⟩ := (HROW.out.mono (Nat.le_refl _) HBI.out (Nat.le_refl _)) (by omega)
              have e0 : wr.cell? ⟨rb, roff + r, none⟩ = some (.bool (p.T q r)) := by have := hcr r hrk 0 (by omega); rwa [Nat.mul_one] at this
              obtain ⟨b2, off2, hbe, _, _, hcb⟩ := (H.out.br.mono (Nat.le_refl _) HBN.out.1 (Nat.le_refl _)) (by omega)
              simp only [Option.some.injEq, Addr.mk.injEq, and_true] at hbe
              obtain ⟨rfl, rfl⟩ := hbe
              obtain ⟨ra2, rc2, c1, hrow2⟩ := hcb r hrn
              obtain ⟨rb2, roff2, hra2, _, _, hcr2⟩ := hrow2 (by omega)
              have e1 : wr.cell? ⟨rb2, roff2 + q, none⟩ = some (.bool (p.T r q)) := by have := hcr2 q hqK 0 (by omega); rwa [Nat.mul_one] at this
              obtain ⟨mb, mo, hva, _, hmb, hcm⟩ := ((HMK.out.mono (Nat.le_refl _) HBW.out (Nat.le_refl _)).mono (Nat.le_refl _) HBI.out (Nat.le_refl _)) (by have := HNB.out; omega)
              have m0 : wr.cell? ⟨mb, mo + q * 2, none⟩ = some (.int .u64 ((secA (p.Y q).S (p.Y q).ns p.sec : Nat) : Int)) := hcm q (by have := HNB.out; omega) 0 (by omega)
              have m1 : wr.cell? ⟨mb, mo + q * 2 + 1, none⟩ = some (.int .u64 ((secB (p.Y q).S (p.Y q).ns p.sec : Nat) : Int)) := hcm q (by have := HNB.out; omega) 1 (by omega)
              have m2 : wr.cell? ⟨mb, mo + r * 2, none⟩ = some (.int .u64 ((secA (p.Y r).S (p.Y r).ns p.sec : Nat) : Int)) := hcm r (by have := HNB.out; omega) 0 (by omega)
              have m3 : wr.cell? ⟨mb, mo + r * 2 + 1, none⟩ = some (.int .u64 ((secB (p.Y r).S (p.Y r).ns p.sec : Nat) : Int)) := hcm r (by have := HNB.out; omega) 1 (by omega)
              clear hcr hcb hcr2 hrow2 hcm
              subst hra hra2 hva
              have x3 : wr.cell? ⟨w.heap.size, 3, none⟩ = some (.slice (some ⟨b, off, none⟩) p.nb bc) := HBN.out.2.1.cell 3
              have r0 : wr.cell? ⟨w.heap.size + 1, 0, none⟩ = some (.int .i64 0) := HBN.out.2.2.cell 0
              have r1 : wr.cell? ⟨w.heap.size + 1, 1, none⟩ = some (.int .i64 0) := HBN.out.2.2.cell 1
              have g0 := HBN.out.2.2.free 0
              have g1 := HBN.out.2.2.free 1
              have hr0 : (0 : Int) ≤ (r : Int) := by omega
              have hrk' : (r : Int) < (p.K q : Int) := by omega
              have hrn' : (r : Int) < (p.nb : Int) := by omega
              have hry : (r : Int) < (p.ny : Int) := by have := HNB.out; omega
              have hqK' : (q : Int) < (p.K r : Int) := by omega
              have HB5 : Hid (∀ v, Below w.heap.size w (((wr.drewN v).setCell ⟨w.heap.size + 1, 0, none⟩ (.int .i64 5)).setCell ⟨w.heap.size + 1, 1, none⟩ (.int .i64 (q : Int)))) := fun v => ((below_drewN HBN.out.1 v).setCell (by show w.heap.size ≤ w.heap.size + 1; omega) _).setCell (by show w.heap.size ≤ w.heap.size + 1; omega) _
              have HGO : Hid (barI p q r = false → ∀ k, k < r + 1 → barI p q k = false) := fun h k hk => by
                by_cases e : k = r
                · subst e
                  exact h
                · exact HR.out k (by omega)
              have HHIT : Hid (barI p q r = true → barsI p = (5, (q : Int))) := fun h => barsI_hit HQ.out hlt (anyB_yes hrk h)
              cases hx : p.T q r with
              | true =>
                rw [hx] at e0
                cases hy : p.T r q with
                | true =>
                  rw [hy] at e1
                  go_wp2_with fail
                  go_quiet (fail)
                  go_wp2_with fail
                  go_roundw
                  case rel => exact ⟨r + 1, by omega, by go_num, HGO.out (by simp [barI, hx, hy]), below_drewN HBI.out _⟩
                  case measure => simp [intOf]; omega
                | false =>
                  rw [hy] at e1
                  go_wp2_with fail
                  go_quiet (fail)
                  go_wp2_with fail
                  refine bodyPost_ret (v := .agg #[.int .i64 5, .int .i64 q]) (by simp [results, Tryz.results105, go_sem, r0, r1]) rfl ⟨by rw [HHIT.out (by simp [barI, hx, hy])], ?_⟩
                  exact HB5.out _
              | false =>
                rw [hx] at e0
                cases hy : p.T r q with
                | true =>
                  rw [hy] at e1
                  go_wp2_with fail
                  go_quiet (fail)
                  go_wp2_with fail
                  refine bodyPost_ret (v := .agg #[.int .i64 5, .int .i64 q]) (by simp [results, Tryz.results105, go_sem, r0, r1]) rfl ⟨by rw [HHIT.out (by simp [barI, hx, hy])], ?_⟩
                  exact HB5.out _
                | false =>
                  rw [hy] at e1
                  by_cases hqr : q = r
                  · subst hqr
                    go_wp2_with fail
                    go_quiet (fail)
                    go_wp2_with fail
                    go_roundw
                    case rel => exact ⟨q + 1, by omega, by go_num, HGO.out (by simp [barI, hx]), below_drewN HBI.out _⟩
                    case measure => simp [intOf]; omega
                  · have hqi : ¬ (q : Int) = (r : Int) := by omega
                    have hqd : ((q : Int) == (r : Int)) = false := by simpa using hqi
                    have hqe : ((q : Int) != (r : Int)) = true := by simpa using hqi
                    have heq := eq97 ((secA (p.Y q).S (p.Y q).ns p.sec &&& secA (p.Y r).S (p.Y r).ns p.sec : Nat) : Int) ((secB (p.Y q).S (p.Y q).ns p.sec &&& secB (p.Y r).S (p.Y r).ns p.sec : Nat) : Int) 0 0
                    cases f7 : ((((secA (p.Y q).S (p.Y q).ns p.sec &&& secA (p.Y r).S (p.Y r).ns p.sec : Nat) : Int) == 0) && (((secB (p.Y q).S (p.Y q).ns p.sec &&& secB (p.Y r).S (p.Y r).ns p.sec : Nat) : Int) == 0)) with
                    | false =>
                      rw [f7] at heq
                      have hap : apF p q r = false := f7
                      have zp : w.heap.size < wr.heap.size := HBN.out.2.1.lt
                      have zb : b < wr.heap.size := World.block_lt_of_cell? wr _ c1
                      have zr2 : rb2 < wr.heap.size := World.block_lt_of_cell? wr _ e1
                      go_wp2_with fail
                      go_region_held3 (fun w' => w'.cell? ⟨w.heap.size, 3, none⟩ = some (.slice (some ⟨b, off, none⟩) p.nb bc) ∧ w'.cell? ⟨b, off + r, none⟩ = some (.slice (some ⟨rb2, roff2, none⟩) (p.K r) rc2) ∧ w'.cell? ⟨rb2, roff2 + q, none⟩ = some (.bool false) ∧ w'.cell? ⟨mb, mo + q * 2, none⟩ = some (.int .u64 ((secA (p.Y q).S (p.Y q).ns p.sec : Nat) : Int)) ∧ w'.cell? ⟨mb, mo + q * 2 + 1, none⟩ = some (.int .u64 ((secB (p.Y q).S (p.Y q).ns p.sec : Nat) : Int)) ∧ w'.cell? ⟨mb, mo + r * 2, none⟩ = some (.int .u64 ((secA (p.Y r).S (p.Y r).ns p.sec : Nat) : Int)) ∧ w'.cell? ⟨mb, mo + r * 2 + 1, none⟩ = some (.int .u64 ((secB (p.Y r).S (p.Y r).ns p.sec : Nat) : Int))) (go_keep) (first
                        | (go_at_call 127; refine (and59 (secA (p.Y q).S (p.Y q).ns p.sec) (secB (p.Y q).S (p.Y q).ns p.sec) (secA (p.Y r).S (p.Y r).ns p.sec) (secB (p.Y r).S (p.Y r).ns p.sec) _ (secA_lt _ _ _) (secB_lt _ _ _) (secA_lt _ _ _) (secB_lt _ _ _)).mono ?_; rintro e w7 ⟨rfl, hb7⟩; have n0 : w7.cell? ⟨w.heap.size, 3, none⟩ = some (.slice (some ⟨b, off, none⟩) p.nb bc) := cell_keep hb7 zp x3; have n1 : w7.cell? ⟨b, off + r, none⟩ = some (.slice (some ⟨rb2, roff2, none⟩) (p.K r) rc2) := cell_keep hb7 zb c1; have n2 : w7.cell? ⟨rb2, roff2 + q, none⟩ = some (.bool false) := cell_keep hb7 zr2 e1; have n3 : w7.cell? ⟨mb, mo + q * 2, none⟩ = some (.int .u64 ((secA (p.Y q).S (p.Y q).ns p.sec : Nat) : Int)) := cell_keep hb7 hmb m0; have n4 : w7.cell? ⟨mb, mo + q * 2 + 1, none⟩ = some (.int .u64 ((secB (p.Y q).S (p.Y q).ns p.sec : Nat) : Int)) := cell_keep hb7 hmb m1; have n5 : w7.cell? ⟨mb, mo + r * 2, none⟩ = some (.int .u64 ((secA (p.Y r).S (p.Y r).ns p.sec : Nat) : Int)) := cell_keep hb7 hmb m2; have n6 : w7.cell? ⟨mb, mo + r * 2 + 1, none⟩ = some (.int .u64 ((secB (p.Y r).S (p.Y r).ns p.sec : Nat) : Int)) := cell_keep hb7 hmb m3))
                      all_goals
                        have hb7' : Below wr.heap.size wr w7 := (Below.refl wr.heap.size wr).drew.trans hb7
                        have HN7 : Hid (Below w.heap.size w w7 ∧ Box w7 w.heap.size 37 #[.int .i64 p.sec, .slice wa p.nw wc, .slice ya p.ny yc, .slice (some ⟨b, off, none⟩) p.nb bc, .int .i64 p.hold] ∧ Box w7 (w.heap.size + 1) 124 #[.int .i64 0, .int .i64 0]) := ⟨HBN.out.1.trans (hb7'.mono HBN.out.1.size), HBN.out.2.1.mono hb7' (Nat.le_refl _), HBN.out.2.2.mono hb7' (Nat.le_refl _)⟩
                        have HI7 : Hid (Below WR.heap.size WR w7) := HBI.out.trans (hb7'.mono HBI.out.size)
                        clear n0 n1 n2 n3 n4 n5 n6 r0 r1 g0 g1 x3 c1 e0 e1 m0 m1 m2 m3 hb7 hb7'
                        have r0 : w7.cell? ⟨w.heap.size + 1, 0, none⟩ = some (.int .i64 0) := HN7.out.2.2.cell 0
                        have r1 : w7.cell? ⟨w.heap.size + 1, 1, none⟩ = some (.int .i64 0) := HN7.out.2.2.cell 1
                        have g0 := HN7.out.2.2.free 0
                        have g1 := HN7.out.2.2.free 1
                        go_wp2_with fail
                        refine bodyPost_ret (v := .agg #[.int .i64 5, .int .i64 q]) (by simp [results, Tryz.results105, go_sem, r0, r1]) rfl ⟨by rw [HHIT.out (by simp [barI, hx, hy, hqr, hap])], ?_⟩
                        exact (HN7.out.1.setCell (by show w.heap.size ≤ w.heap.size + 1; omega) _).setCell (by show w.heap.size ≤ w.heap.size + 1; omega) _
                    | true =>
                      rw [f7] at heq
                      have hap : apF p q r = true := f7
                      have zp : w.heap.size < wr.heap.size := HBN.out.2.1.lt
                      have zb : b < wr.heap.size := World.block_lt_of_cell? wr _ c1
                      have zr2 : rb2 < wr.heap.size := World.block_lt_of_cell? wr _ e1
                      go_wp2_with fail
                      go_region_held3 (fun w' => w'.cell? ⟨w.heap.size, 3, none⟩ = some (.slice (some ⟨b, off, none⟩) p.nb bc) ∧ w'.cell? ⟨b, off + r, none⟩ = some (.slice (some ⟨rb2, roff2, none⟩) (p.K r) rc2) ∧ w'.cell? ⟨rb2, roff2 + q, none⟩ = some (.bool false) ∧ w'.cell? ⟨mb, mo + q * 2, none⟩ = some (.int .u64 ((secA (p.Y q).S (p.Y q).ns p.sec : Nat) : Int)) ∧ w'.cell? ⟨mb, mo + q * 2 + 1, none⟩ = some (.int .u64 ((secB (p.Y q).S (p.Y q).ns p.sec : Nat) : Int)) ∧ w'.cell? ⟨mb, mo + r * 2, none⟩ = some (.int .u64 ((secA (p.Y r).S (p.Y r).ns p.sec : Nat) : Int)) ∧ w'.cell? ⟨mb, mo + r * 2 + 1, none⟩ = some (.int .u64 ((secB (p.Y r).S (p.Y r).ns p.sec : Nat) : Int))) (go_keep) (first
                        | (go_at_call 127; refine (and59 (secA (p.Y q).S (p.Y q).ns p.sec) (secB (p.Y q).S (p.Y q).ns p.sec) (secA (p.Y r).S (p.Y r).ns p.sec) (secB (p.Y r).S (p.Y r).ns p.sec) _ (secA_lt _ _ _) (secB_lt _ _ _) (secA_lt _ _ _) (secB_lt _ _ _)).mono ?_; rintro e w7 ⟨rfl, hb7⟩; have n0 : w7.cell? ⟨w.heap.size, 3, none⟩ = some (.slice (some ⟨b, off, none⟩) p.nb bc) := cell_keep hb7 zp x3; have n1 : w7.cell? ⟨b, off + r, none⟩ = some (.slice (some ⟨rb2, roff2, none⟩) (p.K r) rc2) := cell_keep hb7 zb c1; have n2 : w7.cell? ⟨rb2, roff2 + q, none⟩ = some (.bool false) := cell_keep hb7 zr2 e1; have n3 : w7.cell? ⟨mb, mo + q * 2, none⟩ = some (.int .u64 ((secA (p.Y q).S (p.Y q).ns p.sec : Nat) : Int)) := cell_keep hb7 hmb m0; have n4 : w7.cell? ⟨mb, mo + q * 2 + 1, none⟩ = some (.int .u64 ((secB (p.Y q).S (p.Y q).ns p.sec : Nat) : Int)) := cell_keep hb7 hmb m1; have n5 : w7.cell? ⟨mb, mo + r * 2, none⟩ = some (.int .u64 ((secA (p.Y r).S (p.Y r).ns p.sec : Nat) : Int)) := cell_keep hb7 hmb m2; have n6 : w7.cell? ⟨mb, mo + r * 2 + 1, none⟩ = some (.int .u64 ((secB (p.Y r).S (p.Y r).ns p.sec : Nat) : Int)) := cell_keep hb7 hmb m3))
                      all_goals
                        have hb7' : Below wr.heap.size wr w7 := (Below.refl wr.heap.size wr).drew.trans hb7
                        have HN7 : Hid (Below w.heap.size w w7 ∧ Box w7 w.heap.size 37 #[.int .i64 p.sec, .slice wa p.nw wc, .slice ya p.ny yc, .slice (some ⟨b, off, none⟩) p.nb bc, .int .i64 p.hold] ∧ Box w7 (w.heap.size + 1) 124 #[.int .i64 0, .int .i64 0]) := ⟨HBN.out.1.trans (hb7'.mono HBN.out.1.size), HBN.out.2.1.mono hb7' (Nat.le_refl _), HBN.out.2.2.mono hb7' (Nat.le_refl _)⟩
                        have HI7 : Hid (Below WR.heap.size WR w7) := HBI.out.trans (hb7'.mono HBI.out.size)
                        clear n0 n1 n2 n3 n4 n5 n6 r0 r1 g0 g1 x3 c1 e0 e1 m0 m1 m2 m3 hb7 hb7'
                        have r0 : w7.cell? ⟨w.heap.size + 1, 0, none⟩ = some (.int .i64 0) := HN7.out.2.2.cell 0
                        have r1 : w7.cell? ⟨w.heap.size + 1, 1, none⟩ = some (.int .i64 0) := HN7.out.2.2.cell 1
                        have g0 := HN7.out.2.2.free 0
                        have g1 := HN7.out.2.2.free 1
                        go_wp2_with fail
                        go_roundw
                        case rel => exact ⟨r + 1, by omega, by go_num, HGO.out (by simp [barI, hx, hy, hap]), HI7⟩
                        case measure => simp [intOf]; omega
            · obtain rfl : r = p.K q := by omega
              have HQ2 : Hid (∀ i, i < q + 1 → anyB (barI p i) (p.K i) = false) := fun i hi => by
                by_cases e : i = q
                · subst e
                  exact anyB_no HR.out
                · exact HQ.out i (by omega)
              go_wp2_with fail
              go_roundw
              case rel => exact ⟨q + 1, by omega, by go_num, HQ2, HBW.out.trans (HBI.out.mono HBW.out.size)⟩
              case measure => simp [intOf]; omega
        · obtain rfl : q = p.nb := by omega
          have r0 : wr.cell? ⟨w.heap.size + 1, 0, none⟩ = some (.int .i64 0) := HBR.out.2.2.cell 0
          have r1 : wr.cell? ⟨w.heap.size + 1, 1, none⟩ = some (.int .i64 0) := HBR.out.2.2.cell 1
          have g0 := HBR.out.2.2.free 0
          have g1 := HBR.out.2.2.free 1
          go_wp2_with fail
          refine bodyPost_ret (v := .agg #[.int .i64 0, .int .i64 0]) (by simp [results, Tryz.results105, go_sem, r0, r1]) rfl ⟨by rw [barsI_no HQ.out], ?_⟩
          exact (HBR.out.1.setCell (by show w.heap.size ≤ w.heap.size + 1; omega) _).setCell (by show w.heap.size ≤ w.heap.size + 1; omega) _

end Go.Proofs.YtkeilejbelblcaaGreatDoor
