import Derived.Test.YtkeilejbelblcaaGreatDoorGBtIa
import Derived.Lib.AppendZerosOnto
import Derived.Lib.AppendZeros
import Derived.Lib.SliceRun
namespace Go.Proofs.YtkeilejbelblcaaGreatDoor
open Go.RowKit Go.Lib

theorem VsAt.news {c : Nat} {w : World} {b off n : Nat} {F : Nat → Nat → Value} (h : VsAt c 0 w (some ⟨b, off, none⟩) n F) : ∀ j u, (vcells c n F)[j]? = some u → w.cell? ((⟨b, off, none⟩ : Addr).add j) = some u := by
  intro j u hj
  have hl : j < n * c := by
    have := (List.getElem?_eq_some_iff.1 hj).1
    rwa [vcells_len] at this
  obtain ⟨k1, k2, k3⟩ := vcells_spot hl
  obtain ⟨b', off', e1, _, _, hc⟩ := h (Nat.lt_of_le_of_lt (Nat.zero_le _) k1)
  simp only [Option.some.injEq, Addr.mk.injEq] at e1
  obtain ⟨rfl, rfl, _⟩ := e1
  have h1 := hc _ k1 _ k2
  rw [← k3, vcells_at k1 k2] at hj
  rw [show off + j / c * c + j % c = off + j by omega] at h1
  have hadd : (⟨b, off, none⟩ : Addr).add j = ⟨b, off + j, none⟩ := by unfold Addr.add; split <;> simp_all
  rw [hadd, h1]
  exact hj
/-- one list behind another -/
def cat (n : Nat) (F G : Nat → Nat → Int) (i j : Nat) : Int := if i < n then F i j else G (i - n) j
theorem vcells_cat (c n m : Nat) (F G : Nat → Nat → Int) : vcells c (n + m) (intF (cat n F G)) = vcells c n (intF F) ++ vcells c m (intF G) := by
  induction m with
  | zero =>
    simp only [Nat.add_zero]
    rw [show vcells c 0 (intF G) = [] from rfl, List.append_nil]
    exact vcells_congr fun i hi j _ => by simp [cat, hi]
  | succ m ih =>
    rw [← Nat.add_assoc, vcells_succ, ih, vcells_succ, List.append_assoc]
    congr 2
    apply List.map_congr_left
    intro j _
    simp [cat]
    intro h
    omega
theorem mem_int {c n : Nat} {F : Nat → Nat → Int} : ∀ u, u ∈ vcells c n (intF F) → u.oneCell' = true := by
  intro u hu
  obtain ⟨k, hk, rfl⟩ := List.getElem_of_mem hu
  have hk' : k < n * c := by rwa [vcells_len] at hk
  obtain ⟨k1, k2, k3⟩ := vcells_spot hk'
  have := vcells_at (F := intF F) k1 k2
  rw [k3, List.getElem?_eq_getElem hk] at this
  simp only [Option.some.injEq] at this
  rw [this]
  rfl
/-- a whole list appended to a row of one's own -/
theorem wpList_vcat {P : Program} (w : World) {ops : Array Oper} {rest : List Oper} {o : Oper} {a : Act} {Q : Exit → Act → World → Prop} (hgd : o.guard = none) (s x : Operand) (t : TypeId)
    (ho : o.op = .call { callee := .builtin .append, args := #[s, x], argTypes := #[t, t] })
    (B : Nat) (e : TypeId) (i : TypeInfo) (z : Value) (c bytes : Nat) (ht : P.underlying t = some (.slice e)) (hi : P.info? e = some i) (hz : i.zero = some z)
    (hsize : i.size = c) (hby : i.bytes = bytes) (hzs : z.cells.size = c) (hsz : 0 < c)
    (v : Value) (n : Nat) (F : Nat → Nat → Int) (hs : a.eval s = v) (hown : VOwn B e c w v n (intF F))
    (b off m cap : Nat) (G : Nat → Nat → Int) (hx : a.eval x = .slice (some ⟨b, off, none⟩) m cap) (hE : VsAt c 0 w (some ⟨b, off, none⟩) m (intF G))
    (h63 : n + m ≤ maxLen) (hbytes : (n + m) * bytes ≤ 140737488355328) (hbase : B ≤ w.heap.size)
    (h : Halt (∀ v' w', VOwn B e c w' v' (n + m) (intF (cat n F G)) → w.grownBy w' v.ownBlock → wpList P ops Q rest (a.put o.dst v') w')) : wpList P ops Q (o :: rest) a w := by
  refine wpList_append_own w hgd s x t ho B e i z c bytes ht hi hz hsize hby hzs hsz v n (vcells c n (intF F)) hs hown.row ⟨b, off, none⟩ m cap (vcells c m (intF G)) hx (vcells_len _ _ _) hE.news mem_int h63 hbytes hbase ?_
  intro v' w' ho' hg' _
  rw [← vcells_cat] at ho'
  exact h v' w' (VOwn.of_row ho') hg'

set_option maxHeartbeats 2000000 in
set_option maxRecDepth 100000 in
theorem grow77 (n : Nat) (F : Nat → Nat → Value) (w : World) (hn : n ≤ 2097152) :
    Calls Tryz.prog 139 #[.slice none 0 0, .int .i64 n] w fun e w' => ∃ v, e = .returned v ∧ VOwn w.heap.size 146 2 w' v 0 F ∧ Below w.heap.size w w' := by
  obtain ⟨i0, hi0, hz0, hs0, hb0⟩ := info_parts infoTurn
  have h1 : ¬ ((n : Int) < 0) := by omega
  by_cases h0 : n = 0
  · subst h0
    go_enter Tryz.func139, Tryz.ntmps139
    go_wp2
    go_ret
    exact ⟨_, rfl, VOwn.nil _ _ _ _ _, Below.refl _ _⟩
  · have h4 : (0 : Int) < (n : Int) := by omega
    have hold : (Builtin.firstCells i0.size 0 (.slice none 0 0)).run Tryz.prog w.drew = .ok ([] : List Value).toArray w.drew := run_firstCells_none w.drew i0.size 0 0 0
    have hrz : ∀ ty, (Builtin.append_ #[110, 3] ty #[.slice none 0 0, .int .i64 (n : Int)]).run Tryz.prog w =
        .ok (.slice (some ⟨w.heap.size, 0, none⟩) (0 + n) (grownCap w (0 + n) 0 146)) (w.drew.alloc (.cells (([] : List Value).toArray ++ Builtin.zeroCells (Value.agg #[.int .i64 0, .int .i64 0]).cells n ++ Builtin.zeroCells (Value.agg #[.int .i64 0, .int .i64 0]).cells (grownCap w (0 + n) 0 146 - (0 + n))) 146)) := fun ty =>
      run_append_grow_zeros w 110 3 ty 146 i0 _ .i64 .i64 Tryz.underlying110 Tryz.underlying3 hi0 hz0 none 0 0 [] hold n (by omega) (by omega) (by omega) (by omega) (by rw [hb0]; omega) (by rw [hb0]; have := growslice_fits (need := 0 + n) (old := 0) (bytes := 16) (by omega) (by omega); exact this)
    obtain ⟨G, hG⟩ : ∃ G, G = grownCap w (0 + n) 0 146 := ⟨_, rfl⟩
    have hGn : 0 + n ≤ G := by rw [hG]; exact grownCap_ge w _ _ _
    have hGm : G ≤ maxLen := by rw [hG]; exact grownCap_le_maxLen w (0 + n) 0 146 (by unfold maxLen; omega)
    have hG63 : G ≤ 9223372036854775807 := by unfold maxLen at hGm; omega
    rw [← hG] at hrz
    have HO : Hid ((w.alloc (.cells (Builtin.zeroCells #[.int .i64 0, .int .i64 0] n ++ Builtin.zeroCells #[.int .i64 0, .int .i64 0] (G - n)) 146)).drew.ownsRow w.heap.size 146 2 (.slice (some ⟨w.heap.size, 0, none⟩) 0 G) 0 []) := World.ownsRow_made w _ G (Nat.le_refl _) hGm (by
      simp only [Array.size_append, size_zeroCells]
      show n * 2 + (G - n) * 2 = G * 2
      omega)
    have HB : Hid (Below w.heap.size w (w.alloc (.cells (Builtin.zeroCells #[.int .i64 0, .int .i64 0] n ++ Builtin.zeroCells #[.int .i64 0, .int .i64 0] (G - n)) 146)).drew) := (bel1 _ _).drew
    clear hold hG
    go_enter Tryz.func139, Tryz.ntmps139
    go_wp2_with (at_builtin; refine wpList_append_run _ rfl _ _ _ _ rfl _ _ rfl rfl _ _ (hrz _) ?_)
    all_goals
      go_ret
      exact ⟨_, rfl, VOwn.of_row HO.out, HB.out⟩
set_option maxHeartbeats 4000000 in
set_option maxRecDepth 100000 in
theorem concat75 (q lb lo nl lc fb fo nf fc : Nat) (L F : Nat → Nat → Int) (w : World) (hl : nl ≤ 1048576) (hf : nf ≤ 1048576) (hq : Box w q 110 #[.slice (some ⟨lb, lo, none⟩) nl lc, .slice (some ⟨fb, fo, none⟩) nf fc]) (hL : VsAt 2 0 w (some ⟨lb, lo, none⟩) nl (intF L)) (hF : VsAt 2 0 w (some ⟨fb, fo, none⟩) nf (intF F)) :
    Calls Tryz.prog 121 #[.slice (some ⟨q, 0, none⟩) 2 2] w fun e w' => ∃ v, e = .returned v ∧ VOwn w.heap.size 146 2 w' v (nl + nf) (intF (cat nl L F)) ∧ Below w.heap.size w w' := by
  obtain ⟨i0, hi0, hz0, hs0, hb0⟩ := info_parts infoTurn
  have c0 : w.cell? ⟨q, 0, none⟩ = some (.slice (some ⟨lb, lo, none⟩) nl lc) := hq.cell 0
  have c1 : w.cell? ⟨q, 1, none⟩ = some (.slice (some ⟨fb, fo, none⟩) nf fc) := hq.cell 1
  have H : Hid (Box w q 110 #[.slice (some ⟨lb, lo, none⟩) nl lc, .slice (some ⟨fb, fo, none⟩) nf fc] ∧ VsAt 2 0 w (some ⟨lb, lo, none⟩) nl (intF L) ∧ VsAt 2 0 w (some ⟨fb, fo, none⟩) nf (intF F)) := ⟨hq, hL, hF⟩
  clear hq hL hF
  have n1 : ¬ (nl : Int) < 0 := by omega
  have n2 : ¬ (nl : Int) + (nf : Int) < 0 := by omega
  go_enter Tryz.func121, Tryz.ntmps121
  go_wp2_with fail
  refine wp_loop_rounds 3 ?_
  rw [rounds_succ]
  go_wp2_with fail
  rw [rounds_succ]
  go_wp2_with fail
  rw [rounds_succ]
  go_wp2_with fail
  have hsum : (nl : Int) + (nf : Int) = ((nl + nf : Nat) : Int) := by omega
  rw [hsum]
  refine (grow77 (nl + nf) (intF (fun _ _ => 0)) _ (by omega)).mono ?_
  rintro e w1 ⟨v, rfl, ho, hb1⟩
  have HO : Hid (VOwn w.heap.size 146 2 w1 v 0 (intF (fun _ _ => 0)) ∧ Below w.heap.size w w1) := ⟨ho, hb1⟩
  have c0 : w1.cell? ⟨q, 0, none⟩ = some (.slice (some ⟨lb, lo, none⟩) nl lc) := (H.out.1.mono hb1 (Nat.le_refl _)).cell 0
  have c1 : w1.cell? ⟨q, 1, none⟩ = some (.slice (some ⟨fb, fo, none⟩) nf fc) := (H.out.1.mono hb1 (Nat.le_refl _)).cell 1
  clear ho hb1 hsum n1 n2
  go_wp2_with fail
  refine wp_loop_rounds 3 ?_
  rw [rounds_succ]
  go_wp2_with (at_builtin; go_must (refine wpList_vcat _ rfl _ _ 110 rfl w.heap.size 146 i0 _ 2 16 Tryz.underlying110 hi0 hz0 hs0 hb0 rfl (by decide) v 0 (fun _ _ => 0) rfl HO.out.1 lb lo nl lc L rfl (H.out.2.1.mono (Nat.le_refl _) HO.out.2 (Nat.le_refl _)) (by simp only [maxLen]; omega) (by omega) HO.out.2.size (Halt.mk ?_)))
  intro v2 w2 o2 g2
  have o2 : VOwn w.heap.size 146 2 w2 v2 nl (intF L) := (by simpa using o2 : VOwn w.heap.size 146 2 w2 v2 nl (intF (cat 0 (fun _ _ => 0) L))).congr fun i _ j _ => by simp [cat]
  have X1 := H.out.1.mono HO.out.2 (Nat.le_refl _)
  have X2 := X1.grown g2 (fun e => HO.out.1.off X1 (by decide) e rfl)
  have B2 : Below w.heap.size w w2 := HO.out.2.grown g2 HO.out.2.size (fun j hj => (HO.out.1.lt hj).1)
  have HO2 : Hid (VOwn w.heap.size 146 2 w2 v2 nl (intF L) ∧ Below w.heap.size w w2) := ⟨o2, B2⟩
  have c1 : w2.cell? ⟨q, 1, none⟩ = some (.slice (some ⟨fb, fo, none⟩) nf fc) := X2.cell 1
  clear o2 g2 X1 X2 B2 HO c0
  go_wp2_with fail
  rw [rounds_succ]
  go_wp2_with (at_builtin; go_must (refine wpList_vcat _ rfl _ _ 110 rfl w.heap.size 146 i0 _ 2 16 Tryz.underlying110 hi0 hz0 hs0 hb0 rfl (by decide) v2 nl L rfl HO2.out.1 fb fo nf fc F rfl (H.out.2.2.mono (Nat.le_refl _) HO2.out.2 (Nat.le_refl _)) (by simp only [maxLen]; omega) (by omega) HO2.out.2.size (Halt.mk ?_)))
  intro v3 w3 o3 g3
  have B3 : Below w.heap.size w w3 := HO2.out.2.grown g3 HO2.out.2.size (fun j hj => (HO2.out.1.lt hj).1)
  have HO3 : Hid (VOwn w.heap.size 146 2 w3 v3 (nl + nf) (intF (cat nl L F)) ∧ Below w.heap.size w w3) := ⟨o3, B3⟩
  clear o3 g3 B3 HO2 c1
  go_wp2_with fail
  rw [rounds_succ]
  go_wp2_with fail
  go_ret
  exact ⟨_, rfl, HO3.out.1, HO3.out.2⟩

set_option maxHeartbeats 2000000 in
set_option maxRecDepth 100000 in
theorem needs72 (y : Wy) (sa oa ma : Option Addr) (lb lo fb fo : Nat) (sc lc fc oc mc : Nat) (w : World) (hl : y.nl ≤ 1048576) (hf : y.nf ≤ 1048576) (hL : VsAt 2 0 w (some ⟨lb, lo, none⟩) y.nl (intF y.L)) (hF : VsAt 2 0 w (some ⟨fb, fo, none⟩) y.nf (intF y.F)) :
    Calls Tryz.prog 98 #[.agg #[.slice sa y.ns sc, .slice (some ⟨lb, lo, none⟩) y.nl lc, .slice (some ⟨fb, fo, none⟩) y.nf fc, .slice oa y.no oc, .slice ma y.nm mc]] w fun e w' => ∃ v, e = .returned v ∧ VOwn w.heap.size 146 2 w' v (y.nl + y.nf) (intF (cat y.nl y.L y.F)) ∧ Below w.heap.size w w' := by
  go_enter Tryz.func98, Tryz.ntmps98
  go_wp2_with fail
  have X : Box ((w.alloc (.cells #[.slice sa y.ns sc, .slice (some ⟨lb, lo, none⟩) y.nl lc, .slice (some ⟨fb, fo, none⟩) y.nf fc, .slice oa y.no oc, .slice ma y.nm mc] 112)).alloc (.cells #[.slice (some ⟨lb, lo, none⟩) y.nl lc, .slice (some ⟨fb, fo, none⟩) y.nf fc] 110)) (w.heap.size + 1) 110 #[.slice (some ⟨lb, lo, none⟩) y.nl lc, .slice (some ⟨fb, fo, none⟩) y.nf fc] := by
    have := Box.new (w.alloc (.cells #[.slice sa y.ns sc, .slice (some ⟨lb, lo, none⟩) y.nl lc, .slice (some ⟨fb, fo, none⟩) y.nf fc, .slice oa y.no oc, .slice ma y.nm mc] 112)) 110 #[.slice (some ⟨lb, lo, none⟩) y.nl lc, .slice (some ⟨fb, fo, none⟩) y.nf fc]
    simpa using this
  have B := bel2 w (.cells #[.slice sa y.ns sc, .slice (some ⟨lb, lo, none⟩) y.nl lc, .slice (some ⟨fb, fo, none⟩) y.nf fc, .slice oa y.no oc, .slice ma y.nm mc] 112) (.cells #[.slice (some ⟨lb, lo, none⟩) y.nl lc, .slice (some ⟨fb, fo, none⟩) y.nf fc] 110)
  refine (concat75 (w.heap.size + 1) lb lo y.nl lc fb fo y.nf fc y.L y.F _ hl hf X (hL.mono (Nat.le_refl _) B (Nat.le_refl _)) (hF.mono (Nat.le_refl _) B (Nat.le_refl _))).mono ?_
  rintro e w1 ⟨v, rfl, ho, hb⟩
  have HO : Hid (VOwn w.heap.size 146 2 w1 v (y.nl + y.nf) (intF (cat y.nl y.L y.F)) ∧ Below w.heap.size w w1) := ⟨ho.keep B.size fun _ _ => rfl, B.trans (hb.mono B.size)⟩
  clear ho hb X B
  go_wp2_with fail
  go_ret
  exact ⟨_, rfl, HO.out.1, HO.out.2⟩

set_option maxHeartbeats 1000000 in
theorem place68 (a : Option Addr) (n cap : Nat) (x : Int) (w : World) (hn : n ≤ 1048576) :
    Calls Tryz.prog 90 #[.slice a n cap, .int .i64 x] w fun e w' => e = .returned (.bool (inB x 0 ((n : Int) - 1))) ∧ w' = w := by
  go_enter Tryz.func90, Tryz.ntmps90
  go_wp2_with fail
  refine (within30 x 0 ((n : Int) - 1) _).mono ?_
  rintro e w1 ⟨rfl, hw⟩
  have hw := hw.symm
  subst hw
  go_wp2_with fail
  go_ret
  exact ⟨rfl, rfl⟩


end Go.Proofs.YtkeilejbelblcaaGreatDoor
