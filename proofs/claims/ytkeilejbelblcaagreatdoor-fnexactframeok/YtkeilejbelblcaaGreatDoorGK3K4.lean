import Derived.Test.YtkeilejbelblcaaGreatDoorK2
import Derived.Test.YtkeilejbelblcaaGreatDoorIb
import Derived.Test.YtkeilejbelblcaaGreatDoorIe
import Derived.Test.YtkeilejbelblcaaGreatDoorH2
namespace Go.Proofs.YtkeilejbelblcaaGreatDoor
open Go.RowKit Go.Lib

set_option maxHeartbeats 2000000 in
set_option maxRecDepth 100000 in
theorem grow146 (n : Nat) (F : Nat → Nat → Value) (w : World) (hn : n ≤ 2097152) :
    Calls Tryz.prog 140 #[.slice none 0 0, .int .i64 n] w fun e w' => ∃ v, e = .returned v ∧ VOwn w.heap.size 3 1 w' v 0 F ∧ Below w.heap.size w w' := by
  obtain ⟨i0, hi0, hz0, hs0, hb0⟩ := info_parts infoInt
  have h1 : ¬ ((n : Int) < 0) := by omega
  by_cases h0 : n = 0
  · subst h0
    go_enter Tryz.func140, Tryz.ntmps140
    go_wp2
    go_ret
    exact ⟨_, rfl, VOwn.nil _ _ _ _ _, Below.refl _ _⟩
  · have h4 : (0 : Int) < (n : Int) := by omega
    have hold : (Builtin.firstCells i0.size 0 (.slice none 0 0)).run Tryz.prog w.drew = .ok ([] : List Value).toArray w.drew := run_firstCells_none w.drew i0.size 0 0 0
    have hrz : ∀ ty, (Builtin.append_ #[22, 3] ty #[.slice none 0 0, .int .i64 (n : Int)]).run Tryz.prog w =
        .ok (.slice (some ⟨w.heap.size, 0, none⟩) (0 + n) (grownCap w (0 + n) 0 3)) (w.drew.alloc (.cells (([] : List Value).toArray ++ Builtin.zeroCells (Value.int .i64 0).cells n ++ Builtin.zeroCells (Value.int .i64 0).cells (grownCap w (0 + n) 0 3 - (0 + n))) 3)) := fun ty =>
      run_append_grow_zeros w 22 3 ty 3 i0 _ .i64 .i64 Tryz.underlying22 Tryz.underlying3 hi0 hz0 none 0 0 [] hold n (by omega) (by omega) (by omega) (by omega) (by rw [hb0]; omega) (by rw [hb0]; have := growslice_fits (need := 0 + n) (old := 0) (bytes := 8) (by omega) (by omega); exact this)
    obtain ⟨G, hG⟩ : ∃ G, G = grownCap w (0 + n) 0 3 := ⟨_, rfl⟩
    have hGn : 0 + n ≤ G := by rw [hG]; exact grownCap_ge w _ _ _
    have hGm : G ≤ maxLen := by rw [hG]; exact grownCap_le_maxLen w (0 + n) 0 3 (by unfold maxLen; omega)
    have hG63 : G ≤ 9223372036854775807 := by unfold maxLen at hGm; omega
    rw [← hG] at hrz
    have HO : Hid ((w.alloc (.cells (Builtin.zeroCells #[.int .i64 0] n ++ Builtin.zeroCells #[.int .i64 0] (G - n)) 3)).drew.ownsRow w.heap.size 3 1 (.slice (some ⟨w.heap.size, 0, none⟩) 0 G) 0 []) := World.ownsRow_made w _ G (Nat.le_refl _) hGm (by
      simp only [Array.size_append, size_zeroCells]
      show n * 1 + (G - n) * 1 = G * 1
      omega)
    have HB : Hid (Below w.heap.size w (w.alloc (.cells (Builtin.zeroCells #[.int .i64 0] n ++ Builtin.zeroCells #[.int .i64 0] (G - n)) 3)).drew) := (bel1 _ _).drew
    clear hold hG
    go_enter Tryz.func140, Tryz.ntmps140
    go_wp2_with (at_builtin; refine wpList_append_run _ rfl _ _ _ _ rfl _ _ rfl rfl _ _ (hrz _) ?_)
    all_goals
      go_ret
      exact ⟨_, rfl, VOwn.of_row HO.out, HB.out⟩
set_option maxHeartbeats 4000000 in
set_option maxRecDepth 100000 in
theorem concat128 (q lb lo nl lc fb fo nf fc : Nat) (L F : Nat → Nat → Int) (w : World) (hl : nl ≤ 1048576) (hf : nf ≤ 1048576) (hq : Box w q 22 #[.slice (some ⟨lb, lo, none⟩) nl lc, .slice (some ⟨fb, fo, none⟩) nf fc]) (hL : VsAt 1 0 w (some ⟨lb, lo, none⟩) nl (intF L)) (hF : VsAt 1 0 w (some ⟨fb, fo, none⟩) nf (intF F)) :
    Calls Tryz.prog 122 #[.slice (some ⟨q, 0, none⟩) 2 2] w fun e w' => ∃ v, e = .returned v ∧ VOwn w.heap.size 3 1 w' v (nl + nf) (intF (cat nl L F)) ∧ Below w.heap.size w w' := by
  obtain ⟨i0, hi0, hz0, hs0, hb0⟩ := info_parts infoInt
  have c0 : w.cell? ⟨q, 0, none⟩ = some (.slice (some ⟨lb, lo, none⟩) nl lc) := hq.cell 0
  have c1 : w.cell? ⟨q, 1, none⟩ = some (.slice (some ⟨fb, fo, none⟩) nf fc) := hq.cell 1
  have H : Hid (Box w q 22 #[.slice (some ⟨lb, lo, none⟩) nl lc, .slice (some ⟨fb, fo, none⟩) nf fc] ∧ VsAt 1 0 w (some ⟨lb, lo, none⟩) nl (intF L) ∧ VsAt 1 0 w (some ⟨fb, fo, none⟩) nf (intF F)) := ⟨hq, hL, hF⟩
  clear hq hL hF
  have n1 : ¬ (nl : Int) < 0 := by omega
  have n2 : ¬ (nl : Int) + (nf : Int) < 0 := by omega
  go_enter Tryz.func122, Tryz.ntmps122
  go_wp2_with fail
  refine wp_loop_rounds 3 ?_
  rw [rounds_succ]
  go_wp2_with fail
  rw [rounds_succ]
  go_wp2_with fail
  rw [rounds_succ]
  go_wp2_with fail
  have hsum : (nl : Int) + (nf : Int) = ((nl + nf : Nat) : Int) := by omega
  rw [hsum]
  refine (grow146 (nl + nf) (intF (fun _ _ => 0)) _ (by omega)).mono ?_
  rintro e w1 ⟨v, rfl, ho, hb1⟩
  have HO : Hid (VOwn w.heap.size 3 1 w1 v 0 (intF (fun _ _ => 0)) ∧ Below w.heap.size w w1) := ⟨ho, hb1⟩
  have c0 : w1.cell? ⟨q, 0, none⟩ = some (.slice (some ⟨lb, lo, none⟩) nl lc) := (H.out.1.mono hb1 (Nat.le_refl _)).cell 0
  have c1 : w1.cell? ⟨q, 1, none⟩ = some (.slice (some ⟨fb, fo, none⟩) nf fc) := (H.out.1.mono hb1 (Nat.le_refl _)).cell 1
  clear ho hb1 hsum n1 n2
  go_wp2_with fail
  refine wp_loop_rounds 3 ?_
  rw [rounds_succ]
  go_wp2_with (at_builtin; go_must (refine wpList_vcat _ rfl _ _ 22 rfl w.heap.size 3 i0 _ 1 8 Tryz.underlying22 hi0 hz0 hs0 hb0 rfl (by decide) v 0 (fun _ _ => 0) rfl HO.out.1 lb lo nl lc L rfl (H.out.2.1.mono (Nat.le_refl _) HO.out.2 (Nat.le_refl _)) (by simp only [maxLen]; omega) (by omega) HO.out.2.size (Halt.mk ?_)))
  intro v2 w2 o2 g2
  have o2 : VOwn w.heap.size 3 1 w2 v2 nl (intF L) := (by simpa using o2 : VOwn w.heap.size 3 1 w2 v2 nl (intF (cat 0 (fun _ _ => 0) L))).congr fun i _ j _ => by simp [cat]
  have X1 := H.out.1.mono HO.out.2 (Nat.le_refl _)
  have X2 := X1.grown g2 (fun e => HO.out.1.off X1 (by decide) e rfl)
  have B2 : Below w.heap.size w w2 := HO.out.2.grown g2 HO.out.2.size (fun j hj => (HO.out.1.lt hj).1)
  have HO2 : Hid (VOwn w.heap.size 3 1 w2 v2 nl (intF L) ∧ Below w.heap.size w w2) := ⟨o2, B2⟩
  have c1 : w2.cell? ⟨q, 1, none⟩ = some (.slice (some ⟨fb, fo, none⟩) nf fc) := X2.cell 1
  clear o2 g2 X1 X2 B2 HO c0
  go_wp2_with fail
  rw [rounds_succ]
  go_wp2_with (at_builtin; go_must (refine wpList_vcat _ rfl _ _ 22 rfl w.heap.size 3 i0 _ 1 8 Tryz.underlying22 hi0 hz0 hs0 hb0 rfl (by decide) v2 nl L rfl HO2.out.1 fb fo nf fc F rfl (H.out.2.2.mono (Nat.le_refl _) HO2.out.2 (Nat.le_refl _)) (by simp only [maxLen]; omega) (by omega) HO2.out.2.size (Halt.mk ?_)))
  intro v3 w3 o3 g3
  have B3 : Below w.heap.size w w3 := HO2.out.2.grown g3 HO2.out.2.size (fun j hj => (HO2.out.1.lt hj).1)
  have HO3 : Hid (VOwn w.heap.size 3 1 w3 v3 (nl + nf) (intF (cat nl L F)) ∧ Below w.heap.size w w3) := ⟨o3, B3⟩
  clear o3 g3 B3 HO2 c1
  go_wp2_with fail
  rw [rounds_succ]
  go_wp2_with fail
  go_ret
  exact ⟨_, rfl, HO3.out.1, HO3.out.2⟩


/-- what a way sees -/
structure VwIn (w : World) (y : Wy) (b1 b2 b3 b4 b5 : Nat) (oa : Option Addr) (no : Nat) (O : Nat → Bool) (pa : Option Addr) (np : Nat) (P : Nat → Nat → Int) : Prop where
  wy : WyIn 0 w y (some ⟨b1, 0, none⟩) (some ⟨b2, 0, none⟩) (some ⟨b3, 0, none⟩) (some ⟨b4, 0, none⟩) (some ⟨b5, 0, none⟩)
  oc : VsAt 1 0 w oa no (boolF O)
  pt : VsAt 2 0 w pa np (intF P)
  inn : y.In no np
  sm : y.small 1048576
  lno : no ≤ 1048576
  lnp : np ≤ 1048576
theorem VwIn.mono {w w' : World} {y : Wy} {b1 b2 b3 b4 b5 : Nat} {oa : Option Addr} {no : Nat} {O : Nat → Bool} {pa : Option Addr} {np : Nat} {P : Nat → Nat → Int} {B : Nat} (h : VwIn w y b1 b2 b3 b4 b5 oa no O pa np P) (hb : Below B w w') (hB : w.heap.size ≤ B) : VwIn w' y b1 b2 b3 b4 b5 oa no O pa np P :=
  ⟨h.wy.mono (Nat.le_refl _) hb hB, h.oc.mono (Nat.le_refl _) hb hB, h.pt.mono (Nat.le_refl _) hb hB, h.inn, h.sm, h.lno, h.lnp⟩

set_option maxRecDepth 100000 in
set_option maxHeartbeats 2000000 in
theorem filled197 (y : Wy) (b1 b2 b3 b4 b5 : Nat) (oa : Option Addr) (no oc : Nat) (O : Nat → Bool) (pa : Option Addr) (np pc : Nat) (P : Nat → Nat → Int) (k : Nat) (w : World) (hk : k < y.ns) (h : VwIn w y b1 b2 b3 b4 b5 oa no O pa np P) :
    Calls Tryz.prog 198 #[.agg #[.slice (some ⟨b1, 0, none⟩) y.ns y.ns, .slice (some ⟨b2, 0, none⟩) y.nl y.nl, .slice (some ⟨b3, 0, none⟩) y.nf y.nf, .slice (some ⟨b4, 0, none⟩) y.no y.no, .slice (some ⟨b5, 0, none⟩) y.nm y.nm, .slice oa no oc, .slice pa np pc], .int .i64 (k : Int)] w fun e w' => e = .returned (.bool (O (y.S k).toNat)) ∧ Below w.heap.size w w' := by
  obtain ⟨o, ho, hon⟩ := h.inn.s k hk
  have hno := h.lno
  have hns : (y.ns : Int) ≤ 1048576 := h.sm.1
  obtain ⟨ob, oo, rfl, _, hob, hoc⟩ := h.oc (by omega)
  obtain ⟨sb, so, e, _, hsb, hsc⟩ := h.wy.s (by omega)
  simp only [Option.some.injEq, Addr.mk.injEq, and_true] at e
  obtain ⟨rfl, rfl⟩ := e
  have c0 : w.cell? ⟨b1, k, none⟩ = some (.int .i64 (y.S k)) := by have := hsc k hk 0 (by omega); simpa using this
  have c1 : w.cell? ⟨ob, oo + o, none⟩ = some (.bool (O o)) := by have := hoc o hon 0 (by omega); simpa using this
  rw [ho] at c0
  have HO : Hid ((y.S k).toNat = o) := by rw [Hid, ho]; omega
  clear ho hsc hoc h
  have hk0 : (0 : Int) ≤ (k : Int) := by omega
  have hkn : (k : Int) < (y.ns : Int) := by omega
  have ho0 : (0 : Int) ≤ (o : Int) := by omega
  have hon' : (o : Int) < (no : Int) := by omega
  have HB : Hid (Below w.heap.size w (w.alloc (.cells #[.slice (some ⟨b1, 0, none⟩) y.ns y.ns, .slice (some ⟨b2, 0, none⟩) y.nl y.nl, .slice (some ⟨b3, 0, none⟩) y.nf y.nf, .slice (some ⟨b4, 0, none⟩) y.no y.no, .slice (some ⟨b5, 0, none⟩) y.nm y.nm, .slice (some ⟨ob, oo, none⟩) no oc, .slice pa np pc] 114))) := bel1 _ _
  have B0 := Box.new w 114 #[.slice (some ⟨b1, 0, none⟩) y.ns y.ns, .slice (some ⟨b2, 0, none⟩) y.nl y.nl, .slice (some ⟨b3, 0, none⟩) y.nf y.nf, .slice (some ⟨b4, 0, none⟩) y.no y.no, .slice (some ⟨b5, 0, none⟩) y.nm y.nm, .slice (some ⟨ob, oo, none⟩) no oc, .slice pa np pc]
  have c0 := cell_keep HB.out hsb c0
  have c1 := cell_keep HB.out hob c1
  go_enter Tryz.func198, Tryz.ntmps198
  go_wp2_with fail
  generalize w.alloc (.cells #[.slice (some ⟨b1, 0, none⟩) y.ns y.ns, .slice (some ⟨b2, 0, none⟩) y.nl y.nl, .slice (some ⟨b3, 0, none⟩) y.nf y.nf, .slice (some ⟨b4, 0, none⟩) y.no y.no, .slice (some ⟨b5, 0, none⟩) y.nm y.nm, .slice (some ⟨ob, oo, none⟩) no oc, .slice pa np pc] 114) = W at *
  have x0 : W.cell? ⟨w.heap.size, 0, none⟩ = some (.slice (some ⟨b1, 0, none⟩) y.ns y.ns) := B0.cell 0
  have x5 : W.cell? ⟨w.heap.size, 5, none⟩ = some (.slice (some ⟨ob, oo, none⟩) no oc) := B0.cell 5
  clear B0
  go_quiet (fail)
  go_wp2_with fail
  go_ret
  exact ⟨by rw [HO.out]; rfl, below_drewN HB.out _⟩

end Go.Proofs.YtkeilejbelblcaaGreatDoor

namespace Go.Proofs.YtkeilejbelblcaaGreatDoor
open Go.RowKit Go.Lib

/-- the sections of a way and behind its end -/
def secC (y : Wy) (j : Nat) : Int := cat y.ns (fun i _ => y.S i) (fun i _ => y.O i) j 0
theorem allB_add {f : Nat → Bool} (n : Nat) : ∀ m, allB f (n + m) = (allB f n && allB (fun j => f (n + j)) m)
  | 0 => by simp [allB]
  | m + 1 => by
    have h1 : allB f (n + m + 1) = (allB f (n + m) && f (n + m)) := by rfl
    have h2 : allB (fun j => f (n + j)) (m + 1) = (allB (fun j => f (n + j)) m && f (n + m)) := by rfl
    rw [← Nat.add_assoc, h1, h2, allB_add n m, Bool.and_assoc]
theorem secC_free (y : Wy) (O : Nat → Bool) : allB (fun j => !O (secC y j).toNat) (y.ns + y.no) = (freeB y.S y.ns O && freeB y.O y.no O) := by
  rw [allB_add]
  congr 1
  · unfold freeB
    exact allB_congr fun j hj => by simp [secC, cat, hj]
  · unfold freeB
    exact allB_congr fun j _ => by rw [secC, cat, if_neg (by omega), Nat.add_sub_cancel_left]
def updI (D : Nat → Int) (n : Nat) (x : Int) (i : Nat) : Int := if i < n then D i else x
/-- what crowd gives, as far as it is empty -/
def CrR (w : World) (y : Wy) (O : Nat → Bool) (e : Ending) (w' : World) : Prop :=
  ∃ va n vc, e = .returned (.slice va n vc) ∧ n ≤ 2097152 ∧ decide (n = 0) = (freeB y.S y.ns O && freeB y.O y.no O) ∧ Below w.heap.size w w'
set_option maxRecDepth 100000 in
set_option maxHeartbeats 8000000 in
theorem crowd106 (y : Wy) (b1 b2 b3 b4 b5 : Nat) (oa : Option Addr) (no oc : Nat) (O : Nat → Bool) (pa : Option Addr) (np pc : Nat) (P : Nat → Nat → Int) (w : World) (h : VwIn w y b1 b2 b3 b4 b5 oa no O pa np P) :
    Calls Tryz.prog 99 #[.agg #[.slice (some ⟨b1, 0, none⟩) y.ns y.ns, .slice (some ⟨b2, 0, none⟩) y.nl y.nl, .slice (some ⟨b3, 0, none⟩) y.nf y.nf, .slice (some ⟨b4, 0, none⟩) y.no y.no, .slice (some ⟨b5, 0, none⟩) y.nm y.nm, .slice oa no oc, .slice pa np pc]] w fun e w' => CrR w y O e w' := by
  have H : Hid (VwIn w y b1 b2 b3 b4 b5 oa no O pa np P) := h
  obtain ⟨i0, hi0, hz0, hs0, hb0⟩ := info_parts infoInt
  have hns : y.ns ≤ 1048576 := by have := h.sm.1; omega
  have hno : y.no ≤ 1048576 := by have := h.sm.2.2.2.1; omega
  clear h
  have S0 : Hid (Below w.heap.size w ((w.alloc (.cells #[.slice (some ⟨b1, 0, none⟩) y.ns y.ns, .slice (some ⟨b2, 0, none⟩) y.nl y.nl, .slice (some ⟨b3, 0, none⟩) y.nf y.nf, .slice (some ⟨b4, 0, none⟩) y.no y.no, .slice (some ⟨b5, 0, none⟩) y.nm y.nm, .slice oa no oc, .slice pa np pc] 114)).alloc (.cells #[.slice (some ⟨b1, 0, none⟩) y.ns y.ns, .slice (some ⟨b4, 0, none⟩) y.no y.no] 22)) ∧ Box ((w.alloc (.cells #[.slice (some ⟨b1, 0, none⟩) y.ns y.ns, .slice (some ⟨b2, 0, none⟩) y.nl y.nl, .slice (some ⟨b3, 0, none⟩) y.nf y.nf, .slice (some ⟨b4, 0, none⟩) y.no y.no, .slice (some ⟨b5, 0, none⟩) y.nm y.nm, .slice oa no oc, .slice pa np pc] 114)).alloc (.cells #[.slice (some ⟨b1, 0, none⟩) y.ns y.ns, .slice (some ⟨b4, 0, none⟩) y.no y.no] 22)) w.heap.size 114 #[.slice (some ⟨b1, 0, none⟩) y.ns y.ns, .slice (some ⟨b2, 0, none⟩) y.nl y.nl, .slice (some ⟨b3, 0, none⟩) y.nf y.nf, .slice (some ⟨b4, 0, none⟩) y.no y.no, .slice (some ⟨b5, 0, none⟩) y.nm y.nm, .slice oa no oc, .slice pa np pc] ∧ Box ((w.alloc (.cells #[.slice (some ⟨b1, 0, none⟩) y.ns y.ns, .slice (some ⟨b2, 0, none⟩) y.nl y.nl, .slice (some ⟨b3, 0, none⟩) y.nf y.nf, .slice (some ⟨b4, 0, none⟩) y.no y.no, .slice (some ⟨b5, 0, none⟩) y.nm y.nm, .slice oa no oc, .slice pa np pc] 114)).alloc (.cells #[.slice (some ⟨b1, 0, none⟩) y.ns y.ns, .slice (some ⟨b4, 0, none⟩) y.no y.no] 22)) (w.heap.size + 1) 22 #[.slice (some ⟨b1, 0, none⟩) y.ns y.ns, .slice (some ⟨b4, 0, none⟩) y.no y.no]) := ⟨bel2 _ _ _, (Box.new _ _ _).alloc _, by have := Box.new (w.alloc (.cells #[.slice (some ⟨b1, 0, none⟩) y.ns y.ns, .slice (some ⟨b2, 0, none⟩) y.nl y.nl, .slice (some ⟨b3, 0, none⟩) y.nf y.nf, .slice (some ⟨b4, 0, none⟩) y.no y.no, .slice (some ⟨b5, 0, none⟩) y.nm y.nm, .slice oa no oc, .slice pa np pc] 114)) 22 #[.slice (some ⟨b1, 0, none⟩) y.ns y.ns, .slice (some ⟨b4, 0, none⟩) y.no y.no]; simpa using this⟩
  go_enter Tryz.func99, Tryz.ntmps99
  go_wp2_with fail
  generalize (w.alloc (.cells #[.slice (some ⟨b1, 0, none⟩) y.ns y.ns, .slice (some ⟨b2, 0, none⟩) y.nl y.nl, .slice (some ⟨b3, 0, none⟩) y.nf y.nf, .slice (some ⟨b4, 0, none⟩) y.no y.no, .slice (some ⟨b5, 0, none⟩) y.nm y.nm, .slice oa no oc, .slice pa np pc] 114)).alloc (.cells #[.slice (some ⟨b1, 0, none⟩) y.ns y.ns, .slice (some ⟨b4, 0, none⟩) y.no y.no] 22) = W at S0 ⊢
  refine (concat128 (w.heap.size + 1) b1 0 y.ns y.ns b4 0 y.no y.no (fun i _ => y.S i) (fun i _ => y.O i) W hns hno S0.out.2.2 (H.out.wy.s.mono (Nat.le_refl _) S0.out.1 (Nat.le_refl _)) (H.out.wy.o.mono (Nat.le_refl _) S0.out.1 (Nat.le_refl _))).mono ?_
  rintro e w1 ⟨v, rfl, hv, hb1⟩
  obtain ⟨ca, cc, rfl⟩ := hv.val
  have hv2 : VOwn W.heap.size 3 1 w1 (.slice ca (y.ns + y.no) cc) (y.ns + y.no) (oneF (secC y)) := hv.congr fun i _ j hj => by
    obtain rfl : j = 0 := by omega
    rfl
  have S1 : Hid (Below w.heap.size w w1 ∧ Box w1 w.heap.size 114 #[.slice (some ⟨b1, 0, none⟩) y.ns y.ns, .slice (some ⟨b2, 0, none⟩) y.nl y.nl, .slice (some ⟨b3, 0, none⟩) y.nf y.nf, .slice (some ⟨b4, 0, none⟩) y.no y.no, .slice (some ⟨b5, 0, none⟩) y.nm y.nm, .slice oa no oc, .slice pa np pc] ∧ VsAt 1 0 w1 ca (y.ns + y.no) (oneF (secC y))) := ⟨S0.out.1.trans (hb1.mono S0.out.1.size), S0.out.2.1.mono hb1 (Nat.le_refl _), hv2.vs.le (Nat.zero_le _)⟩
  clear S0 hv hv2 hb1
  go_wp2_with fail
  go_loopw [3, 15] (fun u i wr => ∃ (q m : Nat) (va : Option Addr) (vc : Nat) (D : Nat → Int), q ≤ y.ns + y.no ∧ m ≤ q ∧ i = .int .i64 (q : Int) ∧ u = .slice va m vc ∧ Hid (decide (m = 0) = allB (fun j => !O (secC y j).toNat) q) ∧ Hid (Below w1.heap.size w1 wr ∧ VOwn w1.heap.size 3 1 wr (.slice va m vc) m (oneF D))) (fun _ i _ => (y.ns + y.no) - (intOf i).toNat)
  case atStart => exact ⟨0, 0, none, 0, fun _ => 0, Nat.zero_le _, Nat.le_refl _, rfl, rfl, rfl, Below.refl _ _, VOwn.nil _ _ _ _ _⟩
  case round =>
    obtain ⟨q, m, va, vc, D, hq, hm, rfl, rfl, HD, M⟩ := hrel
    by_cases hlt : q < y.ns + y.no
    · obtain ⟨o, ho, hon⟩ : ∃ o : Nat, secC y q = (o : Int) ∧ o < no := by
        by_cases c : q < y.ns
        · obtain ⟨o, h1, h2⟩ := H.out.inn.s q c
          exact ⟨o, by simp [secC, cat, c, h1], h2⟩
        · obtain ⟨o, h1, h2⟩ := H.out.inn.o (q - y.ns) (by omega)
          exact ⟨o, by simp [secC, cat, c, h1], h2⟩
      have hno2 := H.out.lno
      obtain ⟨cb, co, rfl, _, hcb, hcc⟩ := S1.out.2.2.mono (Nat.le_refl _) M.out.1 (Nat.le_refl _) (by omega)
      have hQ := (H.out.oc.mono (Nat.le_refl _) S1.out.1 (Nat.le_refl _)).mono (Nat.le_refl _) M.out.1 (Nat.le_refl _)
      obtain ⟨ob, oo, rfl, _, hob, hoc⟩ := hQ (by omega)
      have c0 : wr.cell? ⟨cb, co + q, none⟩ = some (.int .i64 (o : Int)) := by have := hcc q hlt 0 (by omega); rw [Nat.mul_one, Nat.add_zero, oneF, ho] at this; exact this
      have c1 : wr.cell? ⟨ob, oo + o, none⟩ = some (.bool (O o)) := by have := hoc o hon 0 (by omega); simpa using this
      have x5 : wr.cell? ⟨w.heap.size, 5, none⟩ = some (.slice (some ⟨ob, oo, none⟩) no oc) := (S1.out.2.1.mono M.out.1 (Nat.le_refl _)).cell 5
      clear hcc hoc hQ
      have hq0 : (0 : Int) ≤ (q : Int) := by omega
      have hql : (q : Int) < ((y.ns + y.no : Nat) : Int) := by omega
      have ho0 : (0 : Int) ≤ (o : Int) := by omega
      have hon' : (o : Int) < (no : Int) := by omega
      have hszr : w1.heap.size ≤ wr.heap.size := M.out.1.size
      have HS : Hid (allB (fun j => !O (secC y j).toNat) (q + 1) = (allB (fun j => !O (secC y j).toNat) q && !O o)) := by
        have : (secC y q).toNat = o := by omega
        show (allB (fun j => !O (secC y j).toNat) q && !O (secC y q).toNat) = _
        rw [this]
      cases hO : O o with
      | false =>
        rw [hO] at c1
        have HD2 : Hid (decide (m = 0) = allB (fun j => !O (secC y j).toNat) (q + 1)) := by rw [Hid, HS.out, hO, HD.out]; simp
        go_wp2_with fail
        go_roundw
        case rel => exact ⟨q + 1, m, va, vc, D, by omega, by omega, by go_num, rfl, HD2, M⟩
        case measure => simp [intOf]; omega
      | true =>
        rw [hO] at c1
        have HD2 : Hid (decide (m + 1 = 0) = allB (fun j => !O (secC y j).toNat) (q + 1)) := by rw [Hid, HS.out, hO]; simp
        have HW : Hid (VOwn w1.heap.size 3 1 wr (.slice va m vc) m (oneF (updI D m (o : Int)))) := M.out.2.congr fun i hi j _ => by simp [updI, hi]
        have hbx : Box (wr.alloc (.cells #[.int .i64 (o : Int)] 3)) wr.heap.size 3 #[.int .i64 (o : Int)] := Box.new _ _ _
        go_wp2_with (at_builtin; go_must (refine wpList_vapp _ rfl _ _ 22 rfl w1.heap.size 3 i0 _ 1 8 Tryz.underlying22 hi0 hz0 hs0 hb0 rfl (by decide) (.slice va m vc) m (oneF (updI D m (o : Int))) rfl (HW.out.alloc _) (fun _ _ => rfl) wr.heap.size 1 #[.int .i64 (o : Int)] rfl hbx (by simp [updI]) (by simp only [maxLen]; omega) (by omega) (by simp; omega) (Halt.mk ?_)))
        intro v2 w2 o2 g2
        obtain ⟨va2, vc2, rfl⟩ := o2.val
        have M2 : Hid (Below w1.heap.size w1 w2 ∧ VOwn w1.heap.size 3 1 w2 (.slice va2 (m + 1) vc2) (m + 1) (oneF (updI D m (o : Int)))) := ⟨(M.out.1.alloc hszr _).grown g2 (by simp; omega) (fun j hj => (HW.out.lt hj).1), o2⟩
        clear o2 g2 HW hbx
        go_wp2_with fail
        go_roundw
        case rel => exact ⟨q + 1, m + 1, va2, vc2, _, by omega, by omega, by go_num, rfl, HD2, M2⟩
        case measure => simp [intOf]; omega
    · obtain rfl : q = y.ns + y.no := by omega
      have HF : Hid (CrR w y O (.returned (.slice va m vc)) wr) := ⟨va, m, vc, rfl, by omega, by rw [HD.out, secC_free], S1.out.1.trans (M.out.1.mono S1.out.1.size)⟩
      go_wp2_with fail
      go_ret
      exact HF.out

end Go.Proofs.YtkeilejbelblcaaGreatDoor
