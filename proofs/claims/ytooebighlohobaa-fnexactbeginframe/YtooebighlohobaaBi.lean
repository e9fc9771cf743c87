import Derived.Test.YtooebighlohobaaBm
import Derived.Deep.RegionHeld3
namespace Go.Proofs.Ytooebighlohobaa
open Go.RowKit

/-- how a way stands that is idle -/
def IdR (w : World) (m : Nat) (e : Ending) (w' : World) : Prop :=
  ∃ rb, e = .returned (.agg #[.int .i64 0, .int .i64 0, .slice (some ⟨rb, 0, none⟩) m m, .bool false, .int .i64 0]) ∧ w.heap.size < rb ∧ VOwn rb 4 1 w' (.slice (some ⟨rb, 0, none⟩) m m) m (boolF fun _ => false) ∧ Below w.heap.size w w'
set_option maxHeartbeats 2000000 in
theorem idle94 (m : Nat) (w : World) (hm : m ≤ 1048576) : Calls Try.prog 94 #[.agg #[], .int .i64 (m : Int)] w fun e w' => IdR w m e w' := by
  have hmk := make_rows (P := Try.prog) 38 4 _ 1 1 Try.underlying38 infoBool m (by omega) (by omega)
  simp only [Nat.mul_one] at hmk
  have HR : Hid (IdR w m (.returned (.agg #[.int .i64 0, .int .i64 0, .slice (some ⟨w.heap.size + 1 + 1, 0, none⟩) m m, .bool false, .int .i64 0])) (((w.alloc (.cells #[] 76)).alloc (.cells #[.int .i64 0, .int .i64 0, .slice (some ⟨w.heap.size + 1 + 1, 0, none⟩) m m, .bool false, .int .i64 0] 71)).alloc (.cells (mk0 (.bool false) m) 4))) := by
    have hbx : Box (((w.alloc (.cells #[] 76)).alloc (.cells #[.int .i64 0, .int .i64 0, .slice (some ⟨w.heap.size + 1 + 1, 0, none⟩) m m, .bool false, .int .i64 0] 71)).alloc (.cells (mk0 (.bool false) m) 4)) (w.heap.size + 1 + 1) 4 (mk0 (.bool false) m) := by have := Box.new ((w.alloc (.cells #[] 76)).alloc (.cells #[.int .i64 0, .int .i64 0, .slice (some ⟨w.heap.size + 1 + 1, 0, none⟩) m m, .bool false, .int .i64 0] 71)) 4 (mk0 (.bool false) m); simpa using this
    exact ⟨_, rfl, by omega, VOwn.made hbx hm, bel3 w _ _ _⟩
  have BX : Box (((w.alloc (.cells #[] 76)).alloc (.cells #[.int .i64 0, .int .i64 0, .slice (some ⟨w.heap.size + 1 + 1, 0, none⟩) m m, .bool false, .int .i64 0] 71)).alloc (.cells (mk0 (.bool false) m) 4)) (w.heap.size + 1) 71 #[.int .i64 0, .int .i64 0, .slice (some ⟨w.heap.size + 1 + 1, 0, none⟩) m m, .bool false, .int .i64 0] := by have := (Box.new (w.alloc (.cells #[] 76)) 71 #[.int .i64 0, .int .i64 0, .slice (some ⟨w.heap.size + 1 + 1, 0, none⟩) m m, .bool false, .int .i64 0]).alloc (.cells (mk0 (.bool false) m) 4); simpa using this
  have d0 : (((w.alloc (.cells #[] 76)).alloc (.cells #[.int .i64 0, .int .i64 0, .slice (some ⟨w.heap.size + 1 + 1, 0, none⟩) m m, .bool false, .int .i64 0] 71)).alloc (.cells (mk0 (.bool false) m) 4)).cell? ⟨w.heap.size + 1, 0, none⟩ = some (.int .i64 0) := BX.cell 0
  have d1 : (((w.alloc (.cells #[] 76)).alloc (.cells #[.int .i64 0, .int .i64 0, .slice (some ⟨w.heap.size + 1 + 1, 0, none⟩) m m, .bool false, .int .i64 0] 71)).alloc (.cells (mk0 (.bool false) m) 4)).cell? ⟨w.heap.size + 1, 1, none⟩ = some (.int .i64 0) := BX.cell 1
  have d2 : (((w.alloc (.cells #[] 76)).alloc (.cells #[.int .i64 0, .int .i64 0, .slice (some ⟨w.heap.size + 1 + 1, 0, none⟩) m m, .bool false, .int .i64 0] 71)).alloc (.cells (mk0 (.bool false) m) 4)).cell? ⟨w.heap.size + 1, 2, none⟩ = some (.slice (some ⟨w.heap.size + 1 + 1, 0, none⟩) m m) := BX.cell 2
  have d3 : (((w.alloc (.cells #[] 76)).alloc (.cells #[.int .i64 0, .int .i64 0, .slice (some ⟨w.heap.size + 1 + 1, 0, none⟩) m m, .bool false, .int .i64 0] 71)).alloc (.cells (mk0 (.bool false) m) 4)).cell? ⟨w.heap.size + 1, 3, none⟩ = some (.bool false) := BX.cell 3
  have d4 : (((w.alloc (.cells #[] 76)).alloc (.cells #[.int .i64 0, .int .i64 0, .slice (some ⟨w.heap.size + 1 + 1, 0, none⟩) m m, .bool false, .int .i64 0] 71)).alloc (.cells (mk0 (.bool false) m) 4)).cell? ⟨w.heap.size + 1, 4, none⟩ = some (.int .i64 0) := BX.cell 4
  clear BX
  go_enter Try.func94, Try.ntmps94
  go_wp2_with fail
  exact bodyPost_ret (v := .agg #[.int .i64 0, .int .i64 0, .slice (some ⟨w.heap.size + 1 + 1, 0, none⟩) m m, .bool false, .int .i64 0]) (by simp [results, Try.results94, go_sem, d0, d1, d2, d3, d4]) rfl HR.out

theorem nil76 (W : World) : (nilAhead 245 76 (.agg #[]) "loop.example/signalbox/impl.held").run Try.prog W = .ok (some false) W := by kernel_rfl
theorem meth76 (W : World) : (method 245 76 (.agg #[]) "loop.example/signalbox/impl.held").run Try.prog W = .ok (94, .agg #[]) W := by kernel_rfl
theorem infoState : (Try.prog.info? 115).map (fun i => (i.zero, i.size, i.bytes)) = some (some .nilIface, 1, 16) := by kernel_rfl
/-- idle ways, as they stand -/
def HdR (p : Pl) (w : World) (e : Ending) (w' : World) : Prop := ∃ (ha : Option Addr) (hc : Nat) (r : Nat → Nat), e = .returned (.slice ha p.ny hc) ∧ HsOwn w.heap.size w' (.slice ha p.ny hc) p.ny (fun i => ⟨0, 0, (p.Y i).ns, fun _ => false, false, 0⟩) r ∧ Below w.heap.size w w'
set_option maxRecDepth 100000 in
set_option maxHeartbeats 8000000 in
theorem held63 (p : Pl) (wa ya ba : Option Addr) (wc yc bc : Nat) (ov pv : Value) (ia : Option Addr) (ic : Nat) (w : World) (_ho : ov.oneCell' = true) (_hp : pv.oneCell' = true) (hs : p.small) (hny : p.ny ≤ 100) (h : PlIn 0 w p wa ya ba) (hi : VsAt 1 0 w ia p.ny (fun _ _ => .iface 76 (.agg #[]))) :
    Calls Try.prog 63 #[.agg #[.int .i64 p.sec, .slice wa p.nw wc, .slice ya p.ny yc, .slice ba p.nb bc, .int .i64 p.hold, ov, pv, .slice ia p.ny ic]] w fun e w' => HdR p w e w' := by
  have H : Hid (PlIn 0 w p wa ya ba) := h
  have HI : Hid (VsAt 1 0 w ia p.ny (fun _ _ => .iface 76 (.agg #[]))) := hi
  have HS : Hid p.small := hs
  have M0 : Hid (∃ w0, w0 = w.alloc (.cells #[.int .i64 p.sec, .slice wa p.nw wc, .slice ya p.ny yc, .slice ba p.nb bc, .int .i64 p.hold, ov, pv, .slice ia p.ny ic] 74) ∧ Box w0 w.heap.size 74 #[.int .i64 p.sec, .slice wa p.nw wc, .slice ya p.ny yc, .slice ba p.nb bc, .int .i64 p.hold, ov, pv, .slice ia p.ny ic] ∧ Below w.heap.size w w0 ∧ HsOwn (w.heap.size + 1) w0 (.slice none 0 0) 0 (fun i => ⟨0, 0, (p.Y i).ns, fun _ => false, false, 0⟩) (fun _ => 0)) := ⟨_, rfl, Box.new w 74 _, bel1 _ _, HsOwn.nil _ _ _ _⟩
  obtain ⟨i1, hi1, hz1, hs1, hb1⟩ := info_parts infoHeld
  have c7 : (w.alloc (.cells #[.int .i64 p.sec, .slice wa p.nw wc, .slice ya p.ny yc, .slice ba p.nb bc, .int .i64 p.hold, ov, pv, .slice ia p.ny ic] 74)).cell? ⟨w.heap.size, 7, none⟩ = some (.slice ia p.ny ic) := (Box.new w 74 _).cell 7
  clear h hi hs
  go_enter Try.func63, Try.ntmps63
  go_wp2_with fail
  obtain ⟨w0, hw0, k1, k2, k3⟩ := M0.out
  rw [← hw0]
  have MM : Hid (Box w0 w.heap.size 74 #[.int .i64 p.sec, .slice wa p.nw wc, .slice ya p.ny yc, .slice ba p.nb bc, .int .i64 p.hold, ov, pv, .slice ia p.ny ic] ∧ Below w.heap.size w w0 ∧ HsOwn (w.heap.size + 1) w0 (.slice none 0 0) 0 (fun i => ⟨0, 0, (p.Y i).ns, fun _ => false, false, 0⟩) (fun _ => 0) ∧ ∀ i, i < 0 → (fun _ => 0) i < w0.heap.size) := ⟨k1, k2, k3, fun i hi => absurd hi (Nat.not_lt_zero _)⟩
  clear hw0 k1 k2 k3 M0 c7
  go_loopw [3, 9] (fun v i wr => ∃ (q : Nat) (ha : Option Addr) (hc : Nat) (r : Nat → Nat), q ≤ p.ny ∧ i = .int .i64 (q : Int) ∧ v = .slice ha q hc ∧ Hid (Box wr w.heap.size 74 #[.int .i64 p.sec, .slice wa p.nw wc, .slice ya p.ny yc, .slice ba p.nb bc, .int .i64 p.hold, ov, pv, .slice ia p.ny ic] ∧ Below w.heap.size w wr ∧ HsOwn (w.heap.size + 1) wr (.slice ha q hc) q (fun i => ⟨0, 0, (p.Y i).ns, fun _ => false, false, 0⟩) r ∧ ∀ i, i < q → r i < wr.heap.size)) (fun _ i _ => p.ny - (intOf i).toNat)
  case atStart => exact ⟨0, none, 0, _, Nat.zero_le _, rfl, rfl, MM⟩
  case round =>
    obtain ⟨q, ha, hc, r, hq, rfl, rfl, M⟩ := hrel
    clear MM
    by_cases hlt : q < p.ny
    · have hq0 : (0 : Int) ≤ (q : Int) := by omega
      have hql : (q : Int) < (p.ny : Int) := by omega
      have hns := (HS.out.2.2.1 q hlt).1
      obtain ⟨b, off, hya, _, hb, hc'⟩ := H.out.wy (by omega)
      subst hya
      obtain ⟨sa, sc, la, lc, fa, fc, oa, oc, ma, mc, x00, x1, x2, x3, x4, _⟩ := hc' q hlt
      have x0 := cell_keep M.out.2.1 hb x00
      obtain ⟨b2, off2, hia, _, hb2, hc2⟩ := (HI.out.mono (Nat.le_refl _) M.out.2.1 (Nat.le_refl _)) (by omega)
      subst hia
      have y0 : wr.cell? ⟨b2, off2 + q, none⟩ = some (.iface 76 (.agg #[])) := by have := hc2 q hlt 0 (by omega); rwa [Nat.mul_one] at this
      have a2 : wr.cell? ⟨w.heap.size, 2, none⟩ = some (.slice (some ⟨b, off, none⟩) p.ny yc) := M.out.1.cell 2
      obtain ⟨m, hm⟩ : ∃ m, Hid ((p.Y q).ns = m) := ⟨_, rfl⟩
      rw [hm.out] at x0 x00 hns
      have hns' : m ≤ 1048576 := by omega
      have HRL : Hid (∀ i, i < q → r i < wr.heap.size) := M.out.2.2.2
      have HW2 : Hid (∀ w2 rb, Below wr.heap.size wr w2 → Box w2 w.heap.size 74 #[.int .i64 p.sec, .slice wa p.nw wc, .slice (some ⟨b, off, none⟩) p.ny yc, .slice ba p.nb bc, .int .i64 p.hold, ov, pv, .slice (some ⟨b2, off2, none⟩) p.ny ic] ∧ Below w.heap.size w w2 ∧ w2.cell? ⟨b, off + q * 5, none⟩ = some (.slice sa m sc) ∧ VOwn (w.heap.size + 1) 71 5 w2 (.slice ha q hc) q (hlF (fun i => ⟨0, 0, (p.Y i).ns, fun _ => false, false, 0⟩) (fun i => if i < q then r i else rb)) ∧ w.heap.size + 1 ≤ w2.heap.size) := fun w2 rb hb2 => by
        refine ⟨M.out.1.mono hb2 (Nat.le_refl _), M.out.2.1.trans (hb2.mono M.out.2.1.size), cell_keep (M.out.2.1.trans (hb2.mono M.out.2.1.size)) hb x00, (M.out.2.2.1.own.mono (Nat.le_refl _) hb2 (Nat.le_refl _)).congr fun i hi j _ => ?_, by have := M.out.1.lt; have := hb2.size; omega⟩
        simp only [hlF, hi, if_true]
      have HVS : Hid (∀ rb, (#[.int .i64 0, .int .i64 0, .slice (some ⟨rb, 0, none⟩) m m, .bool false, .int .i64 0] : Array Value).toList = (List.range 5).map (hlF (fun i => ⟨0, 0, (p.Y i).ns, fun _ => false, false, 0⟩) (fun i => if i < q then r i else rb) q)) := fun rb => by
        simp [hlF, List.range_succ, hm.out]
      have HAP : Hid (∀ w2 rb, Below wr.heap.size wr w2 → wr.heap.size ≤ rb → VOwn rb 4 1 w2 (.slice (some ⟨rb, 0, none⟩) m m) m (boolF fun _ => false) → ∀ g gc w4, VOwn (w.heap.size + 1) 71 5 w4 (.slice (some ⟨g, 0, none⟩) (q + 1) gc) (q + 1) (hlF (fun i => ⟨0, 0, (p.Y i).ns, fun _ => false, false, 0⟩) (fun i => if i < q then r i else rb)) → World.grownBy (w2.alloc (.cells #[.int .i64 0, .int .i64 0, .slice (some ⟨rb, 0, none⟩) m m, .bool false, .int .i64 0] 71)) w4 (Value.slice ha q hc).ownBlock → Box w4 w.heap.size 74 #[.int .i64 p.sec, .slice wa p.nw wc, .slice (some ⟨b, off, none⟩) p.ny yc, .slice ba p.nb bc, .int .i64 p.hold, ov, pv, .slice (some ⟨b2, off2, none⟩) p.ny ic] ∧ Below w.heap.size w w4 ∧ HsOwn (w.heap.size + 1) w4 (.slice (some ⟨g, 0, none⟩) (q + 1) gc) (q + 1) (fun i => ⟨0, 0, (p.Y i).ns, fun _ => false, false, 0⟩) (fun i => if i < q then r i else rb) ∧ ∀ i, i < q + 1 → (if i < q then r i else rb) < w4.heap.size) := fun w2 rb hb2 hrb hv g gc w4 hq4 hg4 => by
        have hba : Below wr.heap.size wr (w2.alloc (.cells #[.int .i64 0, .int .i64 0, .slice (some ⟨rb, 0, none⟩) m m, .bool false, .int .i64 0] 71)) := hb2.trans ((bel1 w2 _).mono hb2.size)
        have hown := M.out.2.2.1.mono (Nat.le_refl _) hba (Nat.le_refl _)
        have hbx := M.out.1.mono hba (Nat.le_refl _)
        have hB := M.out.2.1.trans (hba.mono M.out.2.1.size)
        have hva := hv.alloc (.cells #[.int .i64 0, .int .i64 0, .slice (some ⟨rb, 0, none⟩) m m, .bool false, .int .i64 0] 71)
        refine ⟨hbx.grown hg4 fun e => hown.own.off hbx (by decide) e rfl, hB.trans (Below.of_grown hg4 hB.size fun g e => by have := (hown.own.lt e).1; omega), hown.app hq4 hg4 (by rw [hm.out]; exact hva) (by have := M.out.1.lt; omega) (fun i hi => by have := HRL.out i hi; omega), fun i hi => ?_⟩
        have hz := hg4.size
        by_cases c : i < q
        · rw [if_pos c]
          have h1 := HRL.out i c
          have h2 := hba.size
          omega
        · rw [if_neg c]
          have := (hva.lt (g := rb) rfl).2
          omega
      have hna := nil76
      have hme := meth76
      have MD : Hid (Below wr.heap.size wr wr.drew) := (Below.refl _ _).drew
      have hql2 : q + 1 ≤ maxLen := by simp only [maxLen]; omega
      have hqb : (q + 1) * 56 ≤ 140737488355328 := by omega
      clear M hc' hc2 x1 x2 x3 x4 HRL
      go_wp2_with fail
      go_region_held3 (fun w' => w'.cell? ⟨w.heap.size, 2, none⟩ = some (.slice (some ⟨b, off, none⟩) p.ny yc) ∧ w'.cell? ⟨b, off + q * 5, none⟩ = some (.slice sa m sc)) (go_keep) (first
        | (go_at_call 94; refine (idle94 m _ hns').mono ?_; rintro e w2 ⟨rb, rfl, hrb, hv2, hb2⟩; have B2 : Below wr.heap.size wr w2 := MD.out.trans (hb2.mono MD.out.size); have B3 : Below wr.heap.size wr (w2.alloc (.cells #[.int .i64 0, .int .i64 0, .slice (some ⟨rb, 0, none⟩) m m, .bool false, .int .i64 0] 71)) := B2.trans ((bel1 w2 _).mono B2.size); have n2 : w2.cell? ⟨w.heap.size, 2, none⟩ = some (.slice (some ⟨b, off, none⟩) p.ny yc) := (HW2.out w2 rb B2).1.cell 2; have n0 := (HW2.out w2 rb B2).2.2.1; have p2 : (w2.alloc (.cells #[.int .i64 0, .int .i64 0, .slice (some ⟨rb, 0, none⟩) m m, .bool false, .int .i64 0] 71)).cell? ⟨w.heap.size, 2, none⟩ = some (.slice (some ⟨b, off, none⟩) p.ny yc) := (HW2.out _ rb B3).1.cell 2; have p0 := (HW2.out _ rb B3).2.2.1)
        | (have hB3' := B3; refine step_vapp _ (by rfl) _ _ 40 (by rfl) (w.heap.size + 1) 71 i1 _ 5 56 Try.underlying40 hi1 hz1 hs1 hb1 rfl (by omega) (.slice ha q hc) q (hlF (fun i => ⟨0, 0, (p.Y i).ns, fun _ => false, false, 0⟩) (fun i => if i < q then r i else rb)) (by rfl) (HW2.out _ rb B3).2.2.2.1 (hlF_one _ _) w2.heap.size 1 #[.int .i64 0, .int .i64 0, .slice (some ⟨rb, 0, none⟩) m m, .bool false, .int .i64 0] (by rfl) (Box.new w2 71 _) (HVS.out rb) hql2 hqb (HW2.out _ rb B3).2.2.2.2 ?_; intro g gc w4 hv4 hg4; have M4 : Hid (_ ∧ _ ∧ _ ∧ _) := HAP.out w2 rb B2 (by have h1 : wr.heap.size < rb := hrb; omega) hv2 g gc w4 hv4 ⟨hg4.os, hg4.tape, hg4.output, hg4.size, hg4.block⟩; have r2 : w4.cell? ⟨w.heap.size, 2, none⟩ = some (.slice (some ⟨b, off, none⟩) p.ny yc) := M4.out.1.cell 2; have r0 : w4.cell? ⟨b, off + q * 5, none⟩ = some (.slice sa m sc) := cell_keep M4.out.2.1 hb x00))
      all_goals
        clear HW2 HVS HAP n2 n0 p2 p0 r2 r0 B2 B3 hv2 hb2 hv4 hg4
        go_wp2_with fail
        go_roundw
        case rel => exact ⟨q + 1, _, _, _, by omega, by go_num, rfl, M4⟩
        case measure => simp [intOf]; omega
    · have hge : ¬ ((q : Int) < (p.ny : Int)) := by omega
      have hqn : q = p.ny := by omega
      have HR : Hid (HdR p w (.returned (.slice ha p.ny hc)) wr) := by
        obtain ⟨h1, h2, h3, h4⟩ := M.out
        rw [hqn] at h3
        exact ⟨ha, hc, r, rfl, ⟨h3.own.keep (by omega) fun _ _ => rfl, fun i hi => ⟨(h3.row i hi).1, by have := (h3.row i hi).2; omega⟩, h3.inj⟩, h2⟩
      clear M
      go_wp2_with fail
      go_ret
      exact HR.out

end Go.Proofs.Ytooebighlohobaa
