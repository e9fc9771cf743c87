import Derived.Test.YtpghgdnhfhdgmaaWaP
import Derived.Test.YtpghgdnhfhdgmaaWaX
import Derived.Test.YtpghgdnhfhdgmaaWaL
import Derived.Test.YtpghgdnhfhdgmaaNi
import Derived.Deep.RegionHeld3
namespace Go.Proofs.Ytpghgdnhfhdgmaa
open Go.RowKit

theorem infoCross : (Try.prog.info? 112).map (fun i => (i.zero, i.size, i.bytes)) = some (some (.int .i64 0), 1, 8) := by kernel_rfl
/-- what a route needs -/
def ndR (r : Rt) : List Rw := nd (lsF 2 r.nl r.L) r.F r.nf
theorem ndR_len (r : Rt) : (ndR r).length ≤ r.nl + r.nf := by
  have := nd_len (lsF 2 r.nl r.L) r.F r.nf
  rw [lsF_len] at this
  exact this
/-- a claim in memory: where its lists lie, and its marks -/
structure Cm where
  qa : Option Addr
  qc : Nat
  p1 : Nat
  p2 : Nat
  oa : Option Addr
  oc : Nat
  o1 : Nat
  o2 : Nat
  xa : Option Addr
  xc : Nat
  x1 : Nat
  x2 : Nat
  na : Option Addr
  nc : Nat
  n1 : Nat
  n2 : Nat
structure ClAt (w : World) (r : Rt) (c : Cm) : Prop where
  q : NsAt 3 0 w c.qa r.np r.Q
  o : NsAt 3 0 w c.oa r.no r.O
  x : NsAt 1 0 w c.xa r.nx r.X
  n : NsAt 2 0 w c.na (ndR r).length (fnL (ndR r))
theorem ClAt.mono {w w' : World} {r : Rt} {c : Cm} {B : Nat} (h : ClAt w r c) (hb : Below B w w') (hB : w.heap.size ≤ B) : ClAt w' r c := ⟨h.q.mono (Nat.le_refl _) hb hB, h.o.mono (Nat.le_refl _) hb hB, h.x.mono (Nat.le_refl _) hb hB, h.n.mono (Nat.le_refl _) hb hB⟩
structure ClOk (r : Rt) (c : Cm) : Prop where
  p1 : c.p1 < 18446744073709551616
  p2 : c.p2 < 18446744073709551616
  o1 : c.o1 < 18446744073709551616
  o2 : c.o2 < 18446744073709551616
  x1 : c.x1 < 18446744073709551616
  x2 : c.x2 < 18446744073709551616
  n1 : c.n1 < 18446744073709551616
  n2 : c.n2 < 18446744073709551616
  p : ∀ i, i < r.np → mt c.p1 c.p2 (r.Q i 0) = true
  o : ∀ i, i < r.no → mt c.o1 c.o2 (r.O i 0) = true
  x : ∀ i, i < r.nx → mt c.x1 c.x2 (r.X i 0) = true
  n : ∀ i, i < (ndR r).length → mt c.n1 c.n2 (fnL (ndR r) i 0) = true

theorem Own.nsB {B B' : Nat} {e : TypeId} {c : Nat} {w : World} {a : Option Addr} {cap : Nat} {l : List Rw} (h : Own B e c w (.slice a l.length cap) l) (hB : B' ≤ B) : NsAt c B' w a l.length (fnL l) := by
  obtain ⟨a9, c9, h9, h8⟩ := h.ls.val
  simp only [Value.slice.injEq] at h9
  obtain ⟨rfl, _, _⟩ := h9
  exact h8.le hB
theorem Box.twelve {w : World} {b : Nat} {T : TypeId} {a0 a1 a2 a3 a4 a5 a6 a7 a8 a9 a10 a11 : Value} (h : Box w b T #[a0, a1, a2, a3, a4, a5, a6, a7, a8, a9, a10, a11]) :
    w.cell? ⟨b, 0, none⟩ = some a0 ∧ w.cell? ⟨b, 1, none⟩ = some a1 ∧ w.cell? ⟨b, 2, none⟩ = some a2 ∧ w.cell? ⟨b, 3, none⟩ = some a3 ∧ w.cell? ⟨b, 4, none⟩ = some a4 ∧ w.cell? ⟨b, 5, none⟩ = some a5 ∧ w.cell? ⟨b, 6, none⟩ = some a6 ∧ w.cell? ⟨b, 7, none⟩ = some a7 ∧ w.cell? ⟨b, 8, none⟩ = some a8 ∧ w.cell? ⟨b, 9, none⟩ = some a9 ∧ w.cell? ⟨b, 10, none⟩ = some a10 ∧ w.cell? ⟨b, 11, none⟩ = some a11 :=
  ⟨h.cell 0, h.cell 1, h.cell 2, h.cell 3, h.cell 4, h.cell 5, h.cell 6, h.cell 7, h.cell 8, h.cell 9, h.cell 10, h.cell 11⟩

set_option maxRecDepth 100000 in
set_option maxHeartbeats 8000000 in
theorem claim47 (r : Rt) (sa la xa qa oa fa : Option Addr) (sc lc xc qc oc fc : Nat) (w : World) (hs : r.small) (hlf : r.nl + r.nf ≤ 1048576) (hL : LsAt 2 0 w (.slice la r.nl lc) (lsF 2 r.nl r.L)) (hX : NsAt 1 0 w xa r.nx r.X) (hQ : NsAt 3 0 w qa r.np r.Q) (hO : NsAt 3 0 w oa r.no r.O) (hF : NsAt 4 0 w fa r.nf r.F) :
    Calls Try.prog 47 #[.agg #[.int .i64 r.fr, .int .i64 r.to, .slice sa r.ns sc, .slice la r.nl lc, .slice xa r.nx xc, .slice qa r.np qc, .slice oa r.no oc, .slice fa r.nf fc]] w fun e w' =>
      ∃ c : Cm, e = .returned (.agg #[.slice c.qa r.np c.qc, .int .u64 (c.p1 : Int), .int .u64 (c.p2 : Int), .slice c.oa r.no c.oc, .int .u64 (c.o1 : Int), .int .u64 (c.o2 : Int), .slice c.xa r.nx c.xc, .int .u64 (c.x1 : Int), .int .u64 (c.x2 : Int), .slice c.na (ndR r).length c.nc, .int .u64 (c.n1 : Int), .int .u64 (c.n2 : Int)]) ∧ ClAt w' r c ∧ ClOk r c ∧ Below w.heap.size w w' := by
  obtain ⟨s1, s2, s3, s4, s5, s6⟩ := hs
  have HL : Hid (LsAt 2 0 w (.slice la r.nl lc) (lsF 2 r.nl r.L)) := hL
  have HQ : Hid (NsAt 3 0 w qa r.np r.Q) := hQ
  have HO : Hid (NsAt 3 0 w oa r.no r.O) := hO
  have HF : Hid (NsAt 4 0 w fa r.nf r.F) := hF
  obtain ⟨i1, e1, e2, e3, e4⟩ := info_parts infoCross
  clear hL hQ hO hF
  go_enter Try.func47, Try.ntmps47
  go_wp2_with fail
  have b0 := bel2 w (.cells #[.int .i64 r.fr, .int .i64 r.to, .slice sa r.ns sc, .slice la r.nl lc, .slice xa r.nx xc, .slice qa r.np qc, .slice oa r.no oc, .slice fa r.nf fc] 36) (.cells #[.slice none 0 0, .int .u64 0, .int .u64 0, .slice none 0 0, .int .u64 0, .int .u64 0, .slice none 0 0, .int .u64 0, .int .u64 0, .slice none 0 0, .int .u64 0, .int .u64 0] 90)
  go_loopw [3, 9] (fun s i wr => ∃ (k : Nat) (a : Option Addr) (c : Nat), k ≤ r.nx ∧ i = .int .i64 k ∧ s = .slice a k c ∧ Hid (Own (w.heap.size + 1 + 1) 112 1 wr (.slice a k c) (lsF 1 k r.X)) ∧ Hid (Box wr w.heap.size 36 #[.int .i64 r.fr, .int .i64 r.to, .slice sa r.ns sc, .slice la r.nl lc, .slice xa r.nx xc, .slice qa r.np qc, .slice oa r.no oc, .slice fa r.nf fc]) ∧ Hid (Box wr (w.heap.size + 1) 90 #[.slice none 0 0, .int .u64 0, .int .u64 0, .slice none 0 0, .int .u64 0, .int .u64 0, .slice none 0 0, .int .u64 0, .int .u64 0, .slice none 0 0, .int .u64 0, .int .u64 0]) ∧ Below w.heap.size w wr) (fun _ i _ => r.nx - (intOf i).toNat)
  case atStart =>
    refine ⟨0, none, 0, Nat.zero_le _, rfl, rfl, Own.nil _ _ _ _, (Box.new w 36 _).alloc _, ?_, b0⟩
    have := Box.new (w.alloc (.cells #[.int .i64 r.fr, .int .i64 r.to, .slice sa r.ns sc, .slice la r.nl lc, .slice xa r.nx xc, .slice qa r.np qc, .slice oa r.no oc, .slice fa r.nf fc] 36)) 90 #[.slice none 0 0, .int .u64 0, .int .u64 0, .slice none 0 0, .int .u64 0, .int .u64 0, .slice none 0 0, .int .u64 0, .int .u64 0, .slice none 0 0, .int .u64 0, .int .u64 0]
    exact (by simpa using this : Box _ (w.heap.size + 1) 90 _)
  case round =>
    obtain ⟨k, a, c, hk, rfl, rfl, HK, HA, HR, hbel⟩ := hrel
    clear b0
    have hzr := HR.out.lt
    by_cases hlt : k < r.nx
    · obtain ⟨b, off, rfl, _, hb, hc⟩ := (hX.mono (Nat.le_refl _) hbel (Nat.le_refl _)) (by omega)
      have c0 : wr.cell? ⟨b, off + k, none⟩ = some (.int .i64 (r.X k 0)) := by have := hc k hlt 0 (by omega); rwa [Nat.mul_one] at this
      have HE : Hid (lsF 1 (k + 1) r.X = lsF 1 k r.X ++ [[r.X k 0]]) := lsF_succ 1 k r.X
      have hl0 : Hid ((lsF 1 k r.X).length = k) := lsF_len 1 k r.X
      clear hc
      go_wp2_with (at_builtin; go_must (refine wpList_appH _ rfl (.tmp 13) (.tmp 15) 84 rfl (w.heap.size + 1 + 1) 112 i1 _ 1 8 Try.underlying84 e1 e2 e3 e4 rfl (by decide) _ (lsF 1 k r.X) rfl (HK.out.alloc _) ⟨wr.heap.size, 0, none⟩ 1 1 [[r.X k 0]] rfl rfl (by decide) (Wide.one rfl) (news_at [r.X k 0] rfl) (by rw [hl0.out]; simp [maxLen]; omega) (by rw [hl0.out]; omega) (by simp; omega) ?_))
      refine Halt.mk fun v4 w4 ho4 _ hap => ?_
      obtain ⟨a4, c4, rfl⟩ := ho4.val
      have D4 := (hbel.alloc hbel.size _).grown hap.fr (by have := hbel.size; simp; omega) (fun k e => by have := (HK.out.lt e).1; omega)
      have HA4 : Hid (Box w4 w.heap.size 36 _) := (HA.out.alloc _).grown hap.fr (fun e => by have := (HK.out.lt e).1; omega)
      have HR4 : Hid (Box w4 (w.heap.size + 1) 90 _) := (HR.out.alloc _).grown hap.fr (fun e => by have := (HK.out.lt e).1; omega)
      have hl4 : (lsF 1 k r.X ++ [[r.X k 0]]).length = k + 1 := by rw [← HE.out, lsF_len]
      rw [hl4] at ho4 ⊢
      have HK4 : Hid (Own (w.heap.size + 1 + 1) 112 1 w4 (.slice a4 (k + 1) c4) (lsF 1 (k + 1) r.X)) := by
        show Own _ _ _ _ _ _
        rw [HE.out]
        exact ho4
      clear ho4 hap HE HK hl4 HA HR hzr
      go_wp2_with fail
      go_roundw
      case rel => exact ⟨k + 1, a4, c4, by omega, by go_num, rfl, HK4, HA4, HR4, D4⟩
      case measure => simp [intOf]; omega
    · obtain rfl : k = r.nx := by omega
      have HXn : Hid (NsAt 1 (w.heap.size + 1 + 1) wr a r.nx r.X) := by
        obtain ⟨a9, c9, h9, h8⟩ := HK.out.ls.val
        rw [lsF_len] at h9 h8
        simp only [Value.slice.injEq] at h9
        obtain ⟨rfl, _, _⟩ := h9
        intro h0
        obtain ⟨b', off', h3, h4, h5, h6⟩ := h8 h0
        exact ⟨b', off', h3, h4, h5, fun i hi j hj => by rw [h6 i hi j hj, lsF_fn hi hj]⟩
      obtain ⟨u0, u1, u2, u3, u4, u5, u6, u7⟩ := HA.out.eight
      have hal := HA.out.lt
      have HLr : Hid (LsAt 2 0 wr.drew (.slice la r.nl lc) (lsF 2 r.nl r.L)) := HL.out.mono (Nat.le_refl _) hbel.drew (Nat.le_refl _)
      have HQr : Hid (NsAt 3 0 wr.drew qa r.np r.Q) := HQ.out.mono (Nat.le_refl _) hbel.drew (Nat.le_refl _)
      have HOr : Hid (NsAt 3 0 wr.drew oa r.no r.O) := HO.out.mono (Nat.le_refl _) hbel.drew (Nat.le_refl _)
      have HFr : Hid (NsAt 4 0 wr.drew fa r.nf r.F) := HF.out.mono (Nat.le_refl _) hbel.drew (Nat.le_refl _)
      have HXr : Hid (NsAt 1 0 wr.drew a r.nx r.X) := HXn.out.le (Nat.zero_le _)
      have HXs : Hid (NsAt 1 (w.heap.size + 1 + 1) wr.drew a r.nx r.X) := HXn.out
      have HBr : Hid (Below w.heap.size w wr.drew) := hbel.drew
      have hzz : w.heap.size + 1 + 1 ≤ wr.drew.heap.size := HR.out.lt
      have HAr : Hid (Box wr.drew w.heap.size 36 #[.int .i64 r.fr, .int .i64 r.to, .slice sa r.ns sc, .slice la r.nl lc, .slice xa r.nx xc, .slice qa r.np qc, .slice oa r.no oc, .slice fa r.nf fc]) := HA.out.drew
      have HRr : Hid (Box wr.drew (w.heap.size + 1) 90 #[.slice none 0 0, .int .u64 0, .int .u64 0, .slice none 0 0, .int .u64 0, .int .u64 0, .slice none 0 0, .int .u64 0, .int .u64 0, .slice none 0 0, .int .u64 0, .int .u64 0]) := HR.out.drew
      have hll : Hid (r.nl = (lsF 2 r.nl r.L).length) := (lsF_len _ _ _).symm
      clear HL HF hX HK HXn HA HR
      go_wp2_with fail
      go_region_held3 (fun w' => w'.cell? ⟨w.heap.size, 0, none⟩ = some (.int .i64 r.fr) ∧ w'.cell? ⟨w.heap.size, 1, none⟩ = some (.int .i64 r.to) ∧ w'.cell? ⟨w.heap.size, 2, none⟩ = some (.slice sa r.ns sc) ∧ w'.cell? ⟨w.heap.size, 3, none⟩ = some (.slice la r.nl lc) ∧ w'.cell? ⟨w.heap.size, 4, none⟩ = some (.slice xa r.nx xc) ∧ w'.cell? ⟨w.heap.size, 5, none⟩ = some (.slice qa r.np qc) ∧ w'.cell? ⟨w.heap.size, 6, none⟩ = some (.slice oa r.no oc) ∧ w'.cell? ⟨w.heap.size, 7, none⟩ = some (.slice fa r.nf fc)) (go_keep) (first
        | (go_at_call_of 59 qa; refine (wishesP qa r.np qc r.Q _ (by omega) HQr.out).mono ?_; rintro e w2 ⟨p1, p2, rfl, hp1, hp2, hpm, hb2⟩; obtain ⟨m0, m1, m2, m3, m4, m5, m6, m7⟩ := (HAr.out.mono hb2 (Nat.le_refl _)).eight)
        | (go_at_call_of 59 oa; refine (wishesP oa r.no oc r.O _ (by omega) (HOr.out.mono (Nat.le_refl _) hb2 (Nat.le_refl _))).mono ?_; rintro e w3 ⟨o1, o2, rfl, ho1, ho2, hom, hb3⟩; have hc3 := hb2.trans (hb3.mono hb2.size); obtain ⟨m0, m1, m2, m3, m4, m5, m6, m7⟩ := (HAr.out.mono hc3 (Nat.le_refl _)).eight)
        | (go_at_call 60; refine (wishesX a r.nx c r.X _ (by omega) (HXr.out.mono (Nat.le_refl _) hc3 (Nat.le_refl _))).mono ?_; rintro e w4 ⟨x1, x2, rfl, hx1, hx2, hxm, hb4⟩; have hc4 := hc3.trans (hb4.mono hc3.size); obtain ⟨m0, m1, m2, m3, m4, m5, m6, m7⟩ := (HAr.out.mono hc4 (Nat.le_refl _)).eight)
        | (go_at_call 9; refine (needsI r.fr r.to sa la xa qa oa fa r.ns sc r.nl lc r.nx xc r.np qc r.no oc r.nf fc (lsF 2 r.nl r.L) r.F _ hll.out s2 s6 (HLr.out.mono (Nat.le_refl _) hc4 (Nat.le_refl _)) (HFr.out.mono (Nat.le_refl _) hc4 (Nat.le_refl _))).mono ?_; rintro e w5 ⟨v5, rfl, hv5, hb5⟩; have hv5 : Own _ 62 2 w5 v5 (ndR r) := hv5; obtain ⟨na, nc, rfl⟩ := hv5.val; have hc5 := hc4.trans (hb5.mono hc4.size); have HV5 : Hid (NsAt 2 0 w5 na (ndR r).length (fnL (ndR r))) := hv5.nsL; have hz4 := hc4.size; have HV5s : Hid (NsAt 2 (w.heap.size + 1 + 1) w5 na (ndR r).length (fnL (ndR r))) := hv5.nsB (by omega); clear hv5; obtain ⟨m0, m1, m2, m3, m4, m5, m6, m7⟩ := (HAr.out.mono hc5 (Nat.le_refl _)).eight)
        | (go_at_call 61; refine (wishesL na (ndR r).length nc (fnL (ndR r)) _ (by have := ndR_len r; omega) HV5.out).mono ?_; rintro e w6 ⟨n1, n2, rfl, hn1, hn2, hnm, hb6⟩; have hc6 := hc5.trans (hb6.mono hc5.size); obtain ⟨m0, m1, m2, m3, m4, m5, m6, m7⟩ := (HAr.out.mono hc6 (Nat.le_refl _)).eight; have BR := HRr.out.mono hc6 (Nat.le_refl _); obtain ⟨t0, t1, t2, t3, t4, t5, t6, t7, t8, t9, t10, t11⟩ := BR.twelve; have f0 := BR.free 0; have f1 := BR.free 1; have f2 := BR.free 2; have f3 := BR.free 3; have f4 := BR.free 4; have f5 := BR.free 5; have f6 := BR.free 6; have f7 := BR.free 7; have f8 := BR.free 8; have f9 := BR.free 9; have f10 := BR.free 10; have f11 := BR.free 11))
      all_goals
        go_wp2_with fail
        refine bodyPost_ret (v := .agg #[.slice qa r.np qc, .int .u64 (p1 : Int), .int .u64 (p2 : Int), .slice oa r.no oc, .int .u64 (o1 : Int), .int .u64 (o2 : Int), .slice a r.nx c, .int .u64 (x1 : Int), .int .u64 (x2 : Int), .slice na (ndR r).length nc, .int .u64 (n1 : Int), .int .u64 (n2 : Int)]) (by simp [results, Try.results47, go_sem, t0, t1, t2, t3, t4, t5, t6, t7, t8, t9, t10, t11]) rfl ⟨⟨qa, qc, p1, p2, oa, oc, o1, o2, a, c, x1, x2, na, nc, n1, n2⟩, rfl, ?_, ⟨hp1, hp2, ho1, ho2, hx1, hx2, hn1, hn2, hpm, hom, hxm, hnm⟩, ?_⟩
        · have hB6 : Below w.heap.size w w6 := HBr.out.trans (hc6.mono HBr.out.size)
          have h1 : w.heap.size ≤ w.heap.size + 1 := by omega
          have hBf := ((((((((((((hB6.setCell (p := ⟨w.heap.size + 1, 0, none⟩) h1 (.slice qa r.np qc)).setCell (p := ⟨w.heap.size + 1, 1, none⟩) h1 (.int .u64 (p1 : Int))).setCell (p := ⟨w.heap.size + 1, 2, none⟩) h1 (.int .u64 (p2 : Int))).setCell (p := ⟨w.heap.size + 1, 3, none⟩) h1 (.slice oa r.no oc)).setCell (p := ⟨w.heap.size + 1, 4, none⟩) h1 (.int .u64 (o1 : Int))).setCell (p := ⟨w.heap.size + 1, 5, none⟩) h1 (.int .u64 (o2 : Int))).setCell (p := ⟨w.heap.size + 1, 6, none⟩) h1 (.slice a r.nx c)).setCell (p := ⟨w.heap.size + 1, 7, none⟩) h1 (.int .u64 (x1 : Int))).setCell (p := ⟨w.heap.size + 1, 8, none⟩) h1 (.int .u64 (x2 : Int))).setCell (p := ⟨w.heap.size + 1, 9, none⟩) h1 (.slice na (ndR r).length nc)).setCell (p := ⟨w.heap.size + 1, 10, none⟩) h1 (.int .u64 (n1 : Int))).setCell (p := ⟨w.heap.size + 1, 11, none⟩) h1 (.int .u64 (n2 : Int)))
          refine ⟨HQ.out.mono (Nat.le_refl _) hBf (Nat.le_refl _), HO.out.mono (Nat.le_refl _) hBf (Nat.le_refl _), NsAt.keep (HXs.out.mono (Nat.le_refl _) hc6 (Nat.le_refl _)) (Nat.zero_le _) ?_ ?_, NsAt.keep (HV5s.out.mono (Nat.le_refl _) hb6 (Nat.le_refl _)) (Nat.zero_le _) ?_ ?_⟩
          all_goals first
            | (intro g hg _
               have h2 : g ≠ w.heap.size + 1 := by omega
               rw [Below.heap_setCell _ _ _ _ h2, Below.heap_setCell _ _ _ _ h2, Below.heap_setCell _ _ _ _ h2, Below.heap_setCell _ _ _ _ h2, Below.heap_setCell _ _ _ _ h2, Below.heap_setCell _ _ _ _ h2, Below.heap_setCell _ _ _ _ h2, Below.heap_setCell _ _ _ _ h2, Below.heap_setCell _ _ _ _ h2, Below.heap_setCell _ _ _ _ h2, Below.heap_setCell _ _ _ _ h2, Below.heap_setCell _ _ _ _ h2])
            | (rw [size_setc, size_setc, size_setc, size_setc, size_setc, size_setc, size_setc, size_setc, size_setc, size_setc, size_setc, size_setc]; exact Nat.le_refl _)
        · have hB6 : Below w.heap.size w w6 := HBr.out.trans (hc6.mono HBr.out.size)
          have h1 : w.heap.size ≤ w.heap.size + 1 := by omega
          exact ((((((((((((hB6.setCell h1 _).setCell h1 _).setCell h1 _).setCell h1 _).setCell h1 _).setCell h1 _).setCell h1 _).setCell h1 _).setCell h1 _).setCell h1 _).setCell h1 _).setCell h1 _)

end Go.Proofs.Ytpghgdnhfhdgmaa
