import Derived.Test.YtmcaohablpaknaaCi
import Derived.Test.YtmcaohablpaknaaCo
import Derived.Test.YtmcaohablpaknaaRr
import Derived.Test.YtmcaohablpaknaaCs
import Derived.Deep.RegionHeld3
import Derived.Deep.CutBlock
namespace Go.Proofs.Ytmcaohablpaknaa
open Go.RowKit Go.ChangeShapes Go.WideShapes

theorem VsAt.news {c : Nat} {w : World} {b n : Nat} {F : Nat → Nat → Value} (h : VsAt c 0 w (some ⟨b, 0, none⟩) n F) : ∀ j u, (vcells c n F)[j]? = some u → w.cell? ((⟨b, 0, none⟩ : Addr).add j) = some u := by
  intro j u hj
  have hl : j < n * c := by
    have := (List.getElem?_eq_some_iff.1 hj).1
    rwa [vcells_len] at this
  obtain ⟨k1, k2, k3⟩ := vcells_spot hl
  obtain ⟨b', off, e1, _, _, hc⟩ := h (Nat.lt_of_le_of_lt (Nat.zero_le _) k1)
  simp only [Option.some.injEq, Addr.mk.injEq] at e1
  obtain ⟨rfl, rfl, _⟩ := e1
  have h1 := hc _ k1 _ k2
  rw [← k3, vcells_at k1 k2] at hj
  rw [show 0 + j / c * c + j % c = j by omega] at h1
  have hadd : (⟨b, 0, none⟩ : Addr).add j = ⟨b, j, none⟩ := by unfold Addr.add; split <;> simp_all
  rw [hadd, h1]
  exact hj
/-- a whole slice appended to none -/
theorem wpList_vcl {P : Program} (w : World) {ops : Array Oper} {rest : List Oper} {o : Oper} {a : Act} {Q : Exit → Act → World → Prop} (hgd : o.guard = none) (s x : Operand) (t : TypeId)
    (ho : o.op = .call { callee := .builtin .append, args := #[s, x], argTypes := #[t, t] })
    (e : TypeId) (i : TypeInfo) (z : Value) (c bytes : Nat) (ht : P.underlying t = some (.slice e)) (hi : P.info? e = some i) (hz : i.zero = some z)
    (hsize : i.size = c) (hby : i.bytes = bytes) (hzs : z.cells.size = c) (hsz : 0 < c) (hs : a.eval s = .slice none 0 0)
    (b n cap : Nat) (F : Nat → Nat → Value) (hx : a.eval x = .slice (some ⟨b, 0, none⟩) n cap) (hE : VsAt c 0 w (some ⟨b, 0, none⟩) n F) (h1 : ∀ i j, (F i j).oneCell' = true)
    (h63 : n ≤ maxLen) (hbytes : n * bytes ≤ 140737488355328)
    (h : Halt (∀ v' w', VOwn w.heap.size e c w' v' n F → w.grownBy w' none → wpList P ops Q rest (a.put o.dst v') w')) : wpList P ops Q (o :: rest) a w := by
  refine wpList_append_own w hgd s x t ho w.heap.size e i z c bytes ht hi hz hsize hby hzs hsz (.slice none 0 0) 0 [] hs (World.ownsRow_nil _ _ _ _) ⟨b, 0, none⟩ n cap (vcells c n F) hx (vcells_len _ _ _) hE.news ?_ (by simpa using h63) (by simpa using hbytes) (Nat.le_refl _) ?_
  · intro u hu
    obtain ⟨k, hk, rfl⟩ := List.getElem_of_mem hu
    have hk' : k < n * c := by rwa [vcells_len] at hk
    obtain ⟨k1, k2, k3⟩ := vcells_spot hk'
    have := vcells_at (F := F) k1 k2
    rw [k3, List.getElem?_eq_getElem hk] at this
    simp only [Option.some.injEq] at this
    rw [this]
    exact h1 _ _
  · intro v' w' ho' hg' _
    refine h v' w' (VOwn.of_row (by simpa using ho')) hg'
theorem one_sec (S : Nat → Sec) (i j : Nat) : (secF S i j).oneCell' = true := by
  match j with
  | 0 | 1 | 2 | 3 | 4 => rfl
  | _ + 5 => rfl
theorem one_bool (D : Nat → Bool) (i j : Nat) : (boolF D i j).oneCell' = true := rfl
theorem below_grownN {B : Nat} {a w w' : World} (h : Below B a w) (hg : w.grownBy w' none) (hB : B ≤ w.heap.size) : Below B a w' := h.grown hg hB (fun j hj => by cases hj)
theorem Box.grownN {w w' : World} {b : Nat} {T : TypeId} {vs : Array Value} (h : Box w b T vs) (hg : w.grownBy w' none) : Box w' b T vs := h.grown hg (by simp)
theorem VOwn.grownN {B : Nat} {e : TypeId} {c : Nat} {w w' : World} {v : Value} {n : Nat} {F : Nat → Nat → Value} (h : VOwn B e c w v n F) (hg : w.grownBy w' none) : VOwn B e c w' v n F := h.keep (Nat.le_refl _) fun g hgg => hg.block g (h.lt hgg).2 (by simp)

set_option maxRecDepth 100000 in
set_option maxHeartbeats 8000000 in
theorem copied66 (ok : Bool) (sb db ns nd sc dc : Nat) (S : Nat → Sec) (D : Nat → Bool) (w : World) (hns : ns ≤ 1048576) (hnd : nd ≤ 1048576) (hS : VsAt 5 0 w (some ⟨sb, 0, none⟩) ns (secF S)) (hD : VsAt 1 0 w (some ⟨db, 0, none⟩) nd (boolF D)) :
    Calls Try.prog 66 #[.agg #[.bool ok, .slice (some ⟨sb, 0, none⟩) ns sc, .slice (some ⟨db, 0, none⟩) nd dc]] w fun e w' => ∃ sa2 sc2 da3 dc3, e = .returned (.agg #[.bool ok, .slice sa2 ns sc2, .slice da3 nd dc3]) ∧ StOwn w.heap.size w' sa2 sc2 da3 dc3 ns nd S D ∧ Below w.heap.size w w' := by
  obtain ⟨i5, p5, q5, r5, t5⟩ := info_parts infoSection
  obtain ⟨i1, p1, q1, r1, t1⟩ := info_parts infoBool
  have HE0 : Hid (VsAt 5 0 w (some ⟨sb, 0, none⟩) ns (secF S) ∧ VsAt 1 0 w (some ⟨db, 0, none⟩) nd (boolF D)) := ⟨hS, hD⟩
  clear hS hD
  have S0 : Hid (Below w.heap.size w ((w.alloc (.cells #[.bool ok, .slice (some ⟨sb, 0, none⟩) ns sc, .slice (some ⟨db, 0, none⟩) nd dc] 42)).alloc (.cells #[.bool false, .slice none 0 0, .slice none 0 0] 42)) ∧ Box ((w.alloc (.cells #[.bool ok, .slice (some ⟨sb, 0, none⟩) ns sc, .slice (some ⟨db, 0, none⟩) nd dc] 42)).alloc (.cells #[.bool false, .slice none 0 0, .slice none 0 0] 42)) w.heap.size 42 #[.bool ok, .slice (some ⟨sb, 0, none⟩) ns sc, .slice (some ⟨db, 0, none⟩) nd dc] ∧ Box ((w.alloc (.cells #[.bool ok, .slice (some ⟨sb, 0, none⟩) ns sc, .slice (some ⟨db, 0, none⟩) nd dc] 42)).alloc (.cells #[.bool false, .slice none 0 0, .slice none 0 0] 42)) (w.heap.size + 1) 42 #[.bool false, .slice none 0 0, .slice none 0 0]) := ⟨bel2 _ _ _, (Box.new _ _ _).alloc _, by have := Box.new (w.alloc (.cells #[.bool ok, .slice (some ⟨sb, 0, none⟩) ns sc, .slice (some ⟨db, 0, none⟩) nd dc] 42)) 42 #[.bool false, .slice none 0 0, .slice none 0 0]; simpa using this⟩
  go_enter Try.func66, Try.ntmps66
  go_upto_region 1 with fail
  generalize ((w.alloc (.cells #[.bool ok, .slice (some ⟨sb, 0, none⟩) ns sc, .slice (some ⟨db, 0, none⟩) nd dc] 42)).alloc (.cells #[.bool false, .slice none 0 0, .slice none 0 0] 42)) = V0 at S0 ⊢
  have a1 : V0.cell? ⟨w.heap.size, 1, none⟩ = some (.slice (some ⟨sb, 0, none⟩) ns sc) := S0.out.2.1.cell 1
  go_wp2_with (at_builtin; go_must (refine wpList_vcl _ rfl _ _ 39 rfl 84 i5 _ 5 32 Try.underlying39 p5 q5 r5 t5 rfl (by decide) rfl sb ns sc (secF S) rfl (HE0.out.1.mono (Nat.le_refl _) S0.out.1 (Nat.le_refl _)) (one_sec S) (by simp only [maxLen]; omega) (by omega) (Halt.mk ?_)))
  intro v2 w2 o2 g2
  obtain ⟨sa2, sc2, rfl⟩ := o2.val
  have H2 : Hid ((Below w.heap.size w w2 ∧ Box w2 w.heap.size 42 #[.bool ok, .slice (some ⟨sb, 0, none⟩) ns sc, .slice (some ⟨db, 0, none⟩) nd dc] ∧ Box w2 (w.heap.size + 1) 42 #[.bool false, .slice none 0 0, .slice none 0 0]) ∧ VOwn w.heap.size 84 5 w2 (.slice sa2 ns sc2) ns (secF S)) := ⟨⟨below_grownN S0.out.1 g2 S0.out.1.size, S0.out.2.1.grownN g2, S0.out.2.2.grownN g2⟩, o2.keep S0.out.1.size (fun _ _ => rfl)⟩
  clear o2 g2 S0 a1
  have a1 : w2.cell? ⟨w.heap.size, 1, none⟩ = some (.slice (some ⟨sb, 0, none⟩) ns sc) := H2.out.1.2.1.cell 1
  have a2 : w2.cell? ⟨w.heap.size, 2, none⟩ = some (.slice (some ⟨db, 0, none⟩) nd dc) := H2.out.1.2.1.cell 2
  have f1 := H2.out.1.2.1.free 1
  have e1 : w.heap.size + 1 ≠ w.heap.size := by omega
  have H3 : Hid ((Below w.heap.size w (w2.setCell ⟨w.heap.size, 1, none⟩ (.slice sa2 ns sc2)) ∧ Box (w2.setCell ⟨w.heap.size, 1, none⟩ (.slice sa2 ns sc2)) w.heap.size 42 #[.bool ok, .slice sa2 ns sc2, .slice (some ⟨db, 0, none⟩) nd dc] ∧ Box (w2.setCell ⟨w.heap.size, 1, none⟩ (.slice sa2 ns sc2)) (w.heap.size + 1) 42 #[.bool false, .slice none 0 0, .slice none 0 0]) ∧ VOwn w.heap.size 84 5 (w2.setCell ⟨w.heap.size, 1, none⟩ (.slice sa2 ns sc2)) (.slice sa2 ns sc2) ns (secF S)) := ⟨⟨H2.out.1.1.setCell (p := ⟨w.heap.size, 1, none⟩) (Nat.le_refl _) (.slice sa2 ns sc2), by
    have h9 := H2.out.1.2.1.set 1 (.slice sa2 ns sc2)
    exact h9, H2.out.1.2.2.other (p := ⟨w.heap.size, 1, none⟩) e1 _⟩, H2.out.2.set H2.out.1.2.1 (by decide) 1 _⟩
  clear H2
  go_upto_region 2 with fail
  clear a1 a2 f1
  generalize (w2.setCell ⟨w.heap.size, 1, none⟩ (.slice sa2 ns sc2)) = V2 at H3 ⊢
  have a2 : V2.cell? ⟨w.heap.size, 2, none⟩ = some (.slice (some ⟨db, 0, none⟩) nd dc) := H3.out.1.2.1.cell 2
  go_wp2_with (at_builtin; go_must (refine wpList_vcl _ rfl _ _ 40 rfl 4 i1 _ 1 1 Try.underlying40 p1 q1 r1 t1 rfl (by decide) rfl db nd dc (boolF D) rfl (HE0.out.2.mono (Nat.le_refl _) H3.out.1.1 (Nat.le_refl _)) (one_bool D) (by simp only [maxLen]; omega) (by omega) (Halt.mk ?_)))
  intro v3 w3 o3 g3
  obtain ⟨da3, dc3, rfl⟩ := o3.val
  have H4 : Hid ((Below w.heap.size w w3 ∧ Box w3 w.heap.size 42 #[.bool ok, .slice sa2 ns sc2, .slice (some ⟨db, 0, none⟩) nd dc] ∧ Box w3 (w.heap.size + 1) 42 #[.bool false, .slice none 0 0, .slice none 0 0]) ∧ StOwn w.heap.size w3 sa2 sc2 da3 dc3 ns nd S D) := ⟨⟨below_grownN H3.out.1.1 g3 H3.out.1.1.size, H3.out.1.2.1.grownN g3, H3.out.1.2.2.grownN g3⟩, ⟨H3.out.2.grownN g3, o3.keep H3.out.1.1.size (fun _ _ => rfl)⟩⟩
  clear o3 g3 H3 a2
  have a2 : w3.cell? ⟨w.heap.size, 2, none⟩ = some (.slice (some ⟨db, 0, none⟩) nd dc) := H4.out.1.2.1.cell 2
  have f2 := H4.out.1.2.1.free 2
  have H5 : Hid ((Below w.heap.size w (w3.setCell ⟨w.heap.size, 2, none⟩ (.slice da3 nd dc3)) ∧ Box (w3.setCell ⟨w.heap.size, 2, none⟩ (.slice da3 nd dc3)) w.heap.size 42 #[.bool ok, .slice sa2 ns sc2, .slice da3 nd dc3] ∧ Box (w3.setCell ⟨w.heap.size, 2, none⟩ (.slice da3 nd dc3)) (w.heap.size + 1) 42 #[.bool false, .slice none 0 0, .slice none 0 0]) ∧ StOwn w.heap.size (w3.setCell ⟨w.heap.size, 2, none⟩ (.slice da3 nd dc3)) sa2 sc2 da3 dc3 ns nd S D) := ⟨⟨H4.out.1.1.setCell (p := ⟨w.heap.size, 2, none⟩) (Nat.le_refl _) (.slice da3 nd dc3), by
    have h9 := H4.out.1.2.1.set 2 (.slice da3 nd dc3)
    exact h9, H4.out.1.2.2.other (p := ⟨w.heap.size, 2, none⟩) e1 _⟩, ⟨H4.out.2.s.set H4.out.1.2.1 (by decide) 2 _, H4.out.2.d.set H4.out.1.2.1 (by decide) 2 _⟩⟩
  clear H4
  go_upto_region 3 with fail
  clear a2 f2
  generalize (w3.setCell ⟨w.heap.size, 2, none⟩ (.slice da3 nd dc3)) = V3 at H5 ⊢
  have a0 : V3.cell? ⟨w.heap.size, 0, none⟩ = some (.bool ok) := H5.out.1.2.1.cell 0
  have a1 : V3.cell? ⟨w.heap.size, 1, none⟩ = some (.slice sa2 ns sc2) := H5.out.1.2.1.cell 1
  have a2 : V3.cell? ⟨w.heap.size, 2, none⟩ = some (.slice da3 nd dc3) := H5.out.1.2.1.cell 2
  have z0 : V3.cell? ⟨w.heap.size + 1, 0, none⟩ = some (.bool false) := H5.out.1.2.2.cell 0
  have z1 : V3.cell? ⟨w.heap.size + 1, 1, none⟩ = some (.slice none 0 0) := H5.out.1.2.2.cell 1
  have z2 : V3.cell? ⟨w.heap.size + 1, 2, none⟩ = some (.slice none 0 0) := H5.out.1.2.2.cell 2
  have q0 := H5.out.1.2.2.free 0
  have q1 := H5.out.1.2.2.free 1
  have q2 := H5.out.1.2.2.free 2
  have H6 : Hid ((Below w.heap.size w (((V3.setCell ⟨w.heap.size + 1, 0, none⟩ (.bool ok)).setCell ⟨w.heap.size + 1, 1, none⟩ (.slice sa2 ns sc2)).setCell ⟨w.heap.size + 1, 2, none⟩ (.slice da3 nd dc3)) ∧ Box (((V3.setCell ⟨w.heap.size + 1, 0, none⟩ (.bool ok)).setCell ⟨w.heap.size + 1, 1, none⟩ (.slice sa2 ns sc2)).setCell ⟨w.heap.size + 1, 2, none⟩ (.slice da3 nd dc3)) (w.heap.size + 1) 42 #[.bool ok, .slice sa2 ns sc2, .slice da3 nd dc3]) ∧ StOwn w.heap.size (((V3.setCell ⟨w.heap.size + 1, 0, none⟩ (.bool ok)).setCell ⟨w.heap.size + 1, 1, none⟩ (.slice sa2 ns sc2)).setCell ⟨w.heap.size + 1, 2, none⟩ (.slice da3 nd dc3)) sa2 sc2 da3 dc3 ns nd S D) := by
    have k1 := H5.out.1.2.2.set 0 (.bool ok)
    have k2 := k1.set 1 (.slice sa2 ns sc2)
    exact ⟨⟨((H5.out.1.1.setCell (Nat.le_add_right _ 1) _).setCell (Nat.le_add_right _ 1) _).setCell (Nat.le_add_right _ 1) _, k2.set 2 (.slice da3 nd dc3)⟩, ⟨((H5.out.2.s.set H5.out.1.2.2 (by decide) 0 _).set k1 (by decide) 1 _).set k2 (by decide) 2 _, ((H5.out.2.d.set H5.out.1.2.2 (by decide) 0 _).set k1 (by decide) 1 _).set k2 (by decide) 2 _⟩⟩
  clear H5
  go_wp2_with fail
  clear a0 a1 a2 z0 z1 z2 q0 q1 q2
  generalize (((V3.setCell ⟨w.heap.size + 1, 0, none⟩ (.bool ok)).setCell ⟨w.heap.size + 1, 1, none⟩ (.slice sa2 ns sc2)).setCell ⟨w.heap.size + 1, 2, none⟩ (.slice da3 nd dc3)) = W9 at H6 ⊢
  have z0 : W9.cell? ⟨w.heap.size + 1, 0, none⟩ = some (.bool ok) := H6.out.1.2.cell 0
  have z1 : W9.cell? ⟨w.heap.size + 1, 1, none⟩ = some (.slice sa2 ns sc2) := H6.out.1.2.cell 1
  have z2 : W9.cell? ⟨w.heap.size + 1, 2, none⟩ = some (.slice da3 nd dc3) := H6.out.1.2.cell 2
  exact bodyPost_ret (v := .agg #[.bool ok, .slice sa2 ns sc2, .slice da3 nd dc3]) (by simp [results, Try.results66, go_sem, z0, z1, z2]) rfl ⟨sa2, sc2, da3, dc3, rfl, H6.out.2, H6.out.1.1⟩

/-- what countingOf answers -/
def CntR (w w' : World) (p : Value) (sec : Int) (a : Option Addr) (n cap : Nat) (K : Nat → Nat → Int) (ok : Bool) (ns nd : Nat) (S : Nat → Sec) (D : Nat → Bool) : Prop :=
  (coB sec n K ok ns nd S D = false ∧ p = .pointer none) ∨ (coB sec n K ok ns nd S D = true ∧ ∃ c b sa sc da dc, p = .pointer (some ⟨c, 0, none⟩) ∧ w.heap.size ≤ c ∧ w.heap.size ≤ b ∧ CtIn w' c b sec a n cap K true sa sc da dc ns S D ∧ StOwn w.heap.size w' sa sc da dc ns n S D)

set_option maxRecDepth 100000 in
set_option maxHeartbeats 8000000 in
theorem cntI (sec : Int) (a : Option Addr) (n cap : Nat) (K : Nat → Nat → Int) (ok : Bool) (sb db : Nat) (ns nd sc dc : Nat) (S : Nat → Sec) (D : Nat → Bool) (w : World) (hn : n ≤ 1048576) (hns : ns ≤ 1048576) (hnd : nd ≤ 1048576) (hE : VsAt 2 0 w a n (intF K)) (hS : VsAt 5 0 w (some ⟨sb, 0, none⟩) ns (secF S)) (hD : VsAt 1 0 w (some ⟨db, 0, none⟩) nd (boolF D)) :
    Calls Try.prog 60 #[.agg #[.int .i64 sec, .slice a n cap], .agg #[.bool ok, .slice (some ⟨sb, 0, none⟩) ns sc, .slice (some ⟨db, 0, none⟩) nd dc]] w fun e w' => ∃ p, e = .returned p ∧ CntR w w' p sec a n cap K ok ns nd S D ∧ Below w.heap.size w w' := by
  obtain ⟨i5, p5, q5, r5, t5⟩ := info_parts infoSection
  obtain ⟨i1, p1, q1, r1, t1⟩ := info_parts infoBool
  have HE0 : Hid (VsAt 2 0 w a n (intF K) ∧ VsAt 5 0 w (some ⟨sb, 0, none⟩) ns (secF S) ∧ VsAt 1 0 w (some ⟨db, 0, none⟩) nd (boolF D)) := ⟨hE, hS, hD⟩
  clear hE hS hD
  go_enter Try.func60, Try.ntmps60
  go_wp2_with fail
  have B0 := bel2 w (.cells #[.int .i64 sec, .slice a n cap] 29) (.cells #[.bool ok, .slice (some ⟨sb, 0, none⟩) ns sc, .slice (some ⟨db, 0, none⟩) nd dc] 42)
  have L0 := (Box.new w 29 #[.int .i64 sec, .slice a n cap]).alloc (.cells #[.bool ok, .slice (some ⟨sb, 0, none⟩) ns sc, .slice (some ⟨db, 0, none⟩) nd dc] 42)
  have A0 := Box.new (w.alloc (.cells #[.int .i64 sec, .slice a n cap] 29)) 42 #[.bool ok, .slice (some ⟨sb, 0, none⟩) ns sc, .slice (some ⟨db, 0, none⟩) nd dc]
  rw [show (w.alloc (.cells #[.int .i64 sec, .slice a n cap] 29)).heap.size = w.heap.size + 1 by simp] at A0
  refine (layI sec a n cap K _ hn (HE0.out.1.mono (Nat.le_refl _) B0 (Nat.le_refl _))).mono ?_
  rintro e w1 ⟨rfl, hb1⟩
  have L1 := L0.mono hb1 (Nat.le_refl _)
  have A1 := A0.mono hb1 (Nat.le_refl _)
  have B1 := B0.trans (hb1.mono B0.size)
  have l0 : w1.cell? ⟨w.heap.size, 0, none⟩ = some (.int .i64 sec) := L1.cell 0
  have l1 : w1.cell? ⟨w.heap.size, 1, none⟩ = some (.slice a n cap) := L1.cell 1
  have a0 : w1.cell? ⟨w.heap.size + 1, 0, none⟩ = some (.bool ok) := A1.cell 0
  have a1 : w1.cell? ⟨w.heap.size + 1, 1, none⟩ = some (.slice (some ⟨sb, 0, none⟩) ns sc) := A1.cell 1
  have a2 : w1.cell? ⟨w.heap.size + 1, 2, none⟩ = some (.slice (some ⟨db, 0, none⟩) nd dc) := A1.cell 2
  have f1 := A1.free 1
  have HH : Hid (Box w1 w.heap.size 29 #[.int .i64 sec, .slice a n cap] ∧ Box w1 (w.heap.size + 1) 42 #[.bool ok, .slice (some ⟨sb, 0, none⟩) ns sc, .slice (some ⟨db, 0, none⟩) nd dc] ∧ Below w.heap.size w w1) := ⟨L1, A1, B1⟩
  clear L0 A0 B0 L1 A1 B1 hb1
  by_cases hok : layOk sec n K = 0
  · have hg := layGood hok
    have s1 := hg.s1
    have s2 := hg.s2
    have n120 : n ≤ 120 := hg.m
    have HG : Hid (LayGood sec n K) := hg
    have HOK : Hid (layOk sec n K = 0) := hok
    clear hg
    rw [hok]
    clear hok
    cases ok
    · have HR : Hid (coB sec n K false ns nd S D = false) := coB_false fun h => by have := h.2.1; cases this
      go_wp2_with fail
      go_ret
      exact ⟨_, rfl, .inl ⟨HR.out, rfl⟩, HH.out.2.2⟩
    · by_cases e1 : (ns : Int) = sec
      · by_cases e2 : nd = n
        · subst e2
          have e1' : ((ns : Int) != sec) = false := by simp [e1]
          have HE1 : Hid ((ns : Int) = sec) := e1
          have HF : Hid (∀ i, i < ns → secOk (deadB K nd D i) (S i) = false → coB sec nd K true ns nd S D = false) := fun i hi h => coB_false fun q => by have := q.2.2.2.2 i hi; rw [h] at this; cases this
          have HT : Hid ((∀ i, i < ns → secOk (deadB K nd D i) (S i) = true) → coB sec nd K true ns nd S D = true) := fun h => coB_true ⟨HOK.out, rfl, e1, rfl, h⟩
          have ns60 : ns ≤ 60 := by omega
          clear e1 hn
          have hs1 : w.heap.size ≤ w1.heap.size := HH.out.2.2.size
          have H4 : Hid (Box w1.drew w.heap.size 29 #[.int .i64 sec, .slice a nd cap] ∧ Box w1.drew (w.heap.size + 1) 42 #[.bool true, .slice (some ⟨sb, 0, none⟩) ns sc, .slice (some ⟨db, 0, none⟩) nd dc] ∧ Below w.heap.size w w1.drew) := ⟨HH.out.1.drew, HH.out.2.1.drew, HH.out.2.2.drew⟩
          clear HH f1
          go_wp2_with fail
          go_region_held3 (fun w' => w'.cell? ⟨w.heap.size, 0, none⟩ = some (.int .i64 sec) ∧ w'.cell? ⟨w.heap.size, 1, none⟩ = some (.slice a nd cap) ∧ w'.cell? ⟨w.heap.size + 1, 0, none⟩ = some (.bool true) ∧ w'.cell? ⟨w.heap.size + 1, 1, none⟩ = some (.slice (some ⟨sb, 0, none⟩) ns sc) ∧ w'.cell? ⟨w.heap.size + 1, 2, none⟩ = some (.slice (some ⟨db, 0, none⟩) nd dc)) (go_keep) (first
            | (go_at_call 43; refine (ringsI sec a nd cap K _ HG.out (HE0.out.1.mono (Nat.le_refl _) H4.out.2.2 (Nat.le_refl _))).mono ?_; rintro e w4 ⟨b, hbb, rfl, hR, hb5⟩; have H5 : Hid (Box w4 w.heap.size 29 #[.int .i64 sec, .slice a nd cap] ∧ Box w4 (w.heap.size + 1) 42 #[.bool true, .slice (some ⟨sb, 0, none⟩) ns sc, .slice (some ⟨db, 0, none⟩) nd dc] ∧ Below w.heap.size w w4 ∧ Rings w4 b K nd) := ⟨H4.out.1.mono hb5 (Nat.le_refl _), H4.out.2.1.mono hb5 (Nat.le_refl _), H4.out.2.2.trans (hb5.mono H4.out.2.2.size), hR⟩; have hbw : w.heap.size ≤ b := Nat.le_trans H4.out.2.2.size hbb; clear hb5 hR hbb; have m0 : w4.cell? ⟨w.heap.size, 0, none⟩ = some (.int .i64 sec) := H5.out.1.cell 0; have m1 : w4.cell? ⟨w.heap.size, 1, none⟩ = some (.slice a nd cap) := H5.out.1.cell 1; have m2 : w4.cell? ⟨w.heap.size + 1, 0, none⟩ = some (.bool true) := H5.out.2.1.cell 0; have m3 : w4.cell? ⟨w.heap.size + 1, 1, none⟩ = some (.slice (some ⟨sb, 0, none⟩) ns sc) := H5.out.2.1.cell 1; have m4 : w4.cell? ⟨w.heap.size + 1, 2, none⟩ = some (.slice (some ⟨db, 0, none⟩) nd dc) := H5.out.2.1.cell 2; have mz0 : w.heap.size < w4.heap.size := H5.out.1.lt; have mz1 : w.heap.size + 1 < w4.heap.size := H5.out.2.1.lt)
            | (go_at_call 66; refine (copied66 true sb db ns nd sc dc S D w4 (by omega) (by omega) (HE0.out.2.1.mono (Nat.le_refl _) H5.out.2.2.1 (Nat.le_refl _)) (HE0.out.2.2.mono (Nat.le_refl _) H5.out.2.2.1 (Nat.le_refl _))).mono ?_; rintro e w5 ⟨sa2, sc2, da3, dc3, rfl, hst, hb6⟩; have H55 : Hid (Box w5 w.heap.size 29 #[.int .i64 sec, .slice a nd cap] ∧ Box w5 (w.heap.size + 1) 42 #[.bool true, .slice (some ⟨sb, 0, none⟩) ns sc, .slice (some ⟨db, 0, none⟩) nd dc] ∧ Below w.heap.size w w5 ∧ StOwn w.heap.size w5 sa2 sc2 da3 dc3 ns nd S D ∧ Rings w5 b K nd) := ⟨H5.out.1.mono hb6 (Nat.le_refl _), H5.out.2.1.mono hb6 (Nat.le_refl _), H5.out.2.2.1.trans (hb6.mono H5.out.2.2.1.size), ⟨hst.s.keep H5.out.2.2.1.size (fun _ _ => rfl), hst.d.keep H5.out.2.2.1.size (fun _ _ => rfl)⟩, H5.out.2.2.2.mono hb6 (Nat.le_refl _)⟩; clear hst hb6; have n0 : w5.cell? ⟨w.heap.size, 0, none⟩ = some (.int .i64 sec) := H55.out.1.cell 0; have n1 : w5.cell? ⟨w.heap.size, 1, none⟩ = some (.slice a nd cap) := H55.out.1.cell 1; have n2 : w5.cell? ⟨w.heap.size + 1, 0, none⟩ = some (.bool true) := H55.out.2.1.cell 0; have n3 : w5.cell? ⟨w.heap.size + 1, 1, none⟩ = some (.slice (some ⟨sb, 0, none⟩) ns sc) := H55.out.2.1.cell 1; have n4 : w5.cell? ⟨w.heap.size + 1, 2, none⟩ = some (.slice (some ⟨db, 0, none⟩) nd dc) := H55.out.2.1.cell 2; have nz0 : w.heap.size < w5.heap.size := H55.out.1.lt; have nz1 : w.heap.size + 1 < w5.heap.size := H55.out.2.1.lt))
          all_goals
            have bb := bel1 w5 (.cells #[.int .i64 sec, .slice a nd cap, .map (some b), .bool true, .slice sa2 ns sc2, .slice da3 nd dc3] 93)
            have H6 : Hid (Below w.heap.size w (w5.alloc (.cells #[.int .i64 sec, .slice a nd cap, .map (some b), .bool true, .slice sa2 ns sc2, .slice da3 nd dc3] 93)) ∧ StOwn w.heap.size (w5.alloc (.cells #[.int .i64 sec, .slice a nd cap, .map (some b), .bool true, .slice sa2 ns sc2, .slice da3 nd dc3] 93)) sa2 sc2 da3 dc3 ns nd S D ∧ CtIn (w5.alloc (.cells #[.int .i64 sec, .slice a nd cap, .map (some b), .bool true, .slice sa2 ns sc2, .slice da3 nd dc3] 93)) w5.heap.size b sec a nd cap K true sa2 sc2 da3 dc3 ns S D) := ⟨H55.out.2.2.1.trans (bb.mono H55.out.2.2.1.size), H55.out.2.2.2.1.mono (Nat.le_refl _) bb (Nat.le_refl _), ⟨Box.new w5 93 _, H55.out.2.2.2.2.mono bb (Nat.le_refl _), (HE0.out.1.mono (Nat.le_refl _) H55.out.2.2.1 (Nat.le_refl _)).mono (Nat.le_refl _) bb (Nat.le_refl _), (H55.out.2.2.2.1.s.mono (Nat.zero_le _) bb (Nat.le_refl _)).vs, (H55.out.2.2.2.1.d.mono (Nat.zero_le _) bb (Nat.le_refl _)).vs⟩⟩
            have k1x : (w5.alloc (.cells #[.int .i64 sec, .slice a nd cap, .map (some b), .bool true, .slice sa2 ns sc2, .slice da3 nd dc3] 93)).cell? ⟨w.heap.size + 1, 1, none⟩ = some (.slice (some ⟨sb, 0, none⟩) ns sc) := (H55.out.2.1.alloc _).cell 1
            clear bb H4
            go_wp2_with fail
            clear m0 m1 m2 m3 m4 n0 n1 n2 n3 n4 k1x l0 l1 a0 a1 a2
            go_loopw [42] (fun i wr => ∃ k : Nat, k ≤ ns ∧ i = .int .i64 k ∧ Hid (∀ j, j < k → secOk (deadB K nd D j) (S j) = true) ∧ Hid (Below (w5.alloc (.cells #[.int .i64 sec, .slice a nd cap, .map (some b), .bool true, .slice sa2 ns sc2, .slice da3 nd dc3] 93)).heap.size (w5.alloc (.cells #[.int .i64 sec, .slice a nd cap, .map (some b), .bool true, .slice sa2 ns sc2, .slice da3 nd dc3] 93)) wr)) (fun i _ => ns - (intOf i).toNat)
            case atStart => exact ⟨0, Nat.zero_le _, rfl, fun j hj => absurd hj (Nat.not_lt_zero _), Below.refl _ _⟩
            case round =>
              obtain ⟨k, hk, rfl, hall, HBr⟩ := hrel
              by_cases hlt : k < ns
              · go_wp2_with fail
                refine (secI w5.heap.size b sec a nd cap K true sa2 sc2 da3 dc3 ns S D k _ n120 ns60 hlt (H6.out.2.2.mono HBr.out (Nat.le_refl _))).mono ?_
                rintro e w7 ⟨rfl, hb7⟩
                have HB7 : Hid (Below (w5.alloc (.cells #[.int .i64 sec, .slice a nd cap, .map (some b), .bool true, .slice sa2 ns sc2, .slice da3 nd dc3] 93)).heap.size (w5.alloc (.cells #[.int .i64 sec, .slice a nd cap, .map (some b), .bool true, .slice sa2 ns sc2, .slice da3 nd dc3] 93)) w7) := HBr.out.trans (hb7.mono HBr.out.size)
                clear hb7
                obtain ⟨d, hd⟩ : ∃ d, Hid (secOk (deadB K nd D k) (S k) = d) := ⟨_, rfl⟩
                rw [hd.out]
                cases d
                · have HR : Hid (coB sec nd K true ns nd S D = false) := HF.out k hlt hd.out
                  go_wp2_with fail
                  go_ret
                  exact ⟨_, rfl, .inl ⟨HR.out, rfl⟩, H6.out.1.trans (HB7.out.mono H6.out.1.size)⟩
                · have HA : Hid (∀ j, j < k + 1 → secOk (deadB K nd D j) (S j) = true) := fun j hj => by
                    by_cases e : j = k
                    · subst e
                      exact hd.out
                    · exact hall.out j (by omega)
                  go_wp2_with fail
                  go_roundw
                  case rel => exact ⟨k + 1, by omega, by go_num, HA, HB7⟩
                  case measure => simp [intOf]; omega
              · obtain rfl : k = ns := by omega
                have HR : Hid (coB sec nd K true k nd S D = true) := HT.out hall.out
                go_wp2_with fail
                go_ret
                exact ⟨_, rfl, .inr ⟨HR.out, w5.heap.size, b, sa2, sc2, da3, dc3, rfl, by omega, hbw, H6.out.2.2.mono HBr.out (Nat.le_refl _), H6.out.2.1.mono (Nat.le_refl _) HBr.out (Nat.le_refl _)⟩, H6.out.1.trans (HBr.out.mono H6.out.1.size)⟩
        · have HR : Hid (coB sec n K true ns nd S D = false) := coB_false fun h => e2 h.2.2.2.1
          have e1' : ((ns : Int) != sec) = false := by simp [e1]
          have e2' : ((nd : Int) != (n : Int)) = true := by simp; omega
          clear e1 e2
          go_wp2_with fail
          go_ret
          exact ⟨_, rfl, .inl ⟨HR.out, rfl⟩, HH.out.2.2⟩
      · have HR : Hid (coB sec n K true ns nd S D = false) := coB_false fun h => e1 h.2.2.1
        have e1' : ((ns : Int) != sec) = true := by simp [e1]
        clear e1
        go_wp2_with fail
        go_ret
        exact ⟨_, rfl, .inl ⟨HR.out, rfl⟩, HH.out.2.2⟩
  · have HR : Hid (coB sec n K ok ns nd S D = false) := coB_false fun h => hok h.1
    generalize layOk sec n K = r at hok
    go_wp2_with fail
    go_ret
    exact ⟨_, rfl, .inl ⟨HR.out, rfl⟩, HH.out.2.2⟩

end Go.Proofs.Ytmcaohablpaknaa
