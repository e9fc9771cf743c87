import Derived.Test.YtooebighlohobaaBi
import Derived.Deep.RegionHeld3
namespace Go.Proofs.Ytooebighlohobaa
open Go.RowKit

/-- a list that is copied: where it lies -/
def CpAt (w : World) (c : Nat) (xa : Option Addr) (m xc : Nat) (F : Nat → Nat → Value) : Prop := (m = 0 ∧ xa = none ∧ xc = 0) ∨ ∃ b off, xa = some ⟨b, off, none⟩ ∧ b < w.heap.size ∧ ∀ i, i < m → ∀ j, j < c → w.cell? ⟨b, off + i * c + j, none⟩ = some (F i j)
theorem CpAt.mono {w w' : World} {c : Nat} {xa : Option Addr} {m xc : Nat} {F : Nat → Nat → Value} (h : CpAt w c xa m xc F) (hb : Below w.heap.size w w') : CpAt w' c xa m xc F := by
  rcases h with h | ⟨b, off, h1, h2, h3⟩
  · exact .inl h
  · exact .inr ⟨b, off, h1, Nat.lt_of_lt_of_le h2 hb.size, fun i hi j hj => cell_keep hb h2 (h3 i hi j hj)⟩
theorem CpAt.of_own {B : Nat} {e : TypeId} {c : Nat} {w : World} {a : Option Addr} {n cap : Nat} {F : Nat → Nat → Value} (h : VOwn B e c w (.slice a n cap) n F) : CpAt w c a n cap F := by
  rcases h with ⟨h1, h2⟩ | ⟨g, cp, cur, h1, h2, h3, h4, h5, h6, h7⟩
  · simp only [Value.slice.injEq] at h1
    exact .inl ⟨h2, h1.1, h1.2.2⟩
  · simp only [Value.slice.injEq] at h1
    exact .inr ⟨g, 0, h1.1, h3.lt, fun i hi j hj => by rw [h3.cell, Nat.zero_add]; exact h7 i hi j hj⟩
theorem run_copy {P : Program} (w : World) (t ty e : TypeId) (i : TypeInfo) (z : Value) (c bytes : Nat) (ht : P.underlying t = some (.slice e)) (hi : P.info? e = some i) (hz : i.zero = some z) (hsize : i.size = c) (hby : i.bytes = bytes) (hzs : z.cells.size = c) (hsz : 0 < c)
    (xa : Option Addr) (m xc : Nat) (F : Nat → Nat → Value) (h1 : ∀ i j, (F i j).oneCell' = true) (hx : CpAt w c xa m xc F) (h63 : m ≤ maxLen) (hb : m * bytes ≤ 140737488355328) :
    ∃ v' w', (Builtin.append_ #[t, t] ty #[.slice none 0 0, .slice xa m xc]).run P w = .ok v' w' ∧ VOwn w.heap.size e c w' v' m F ∧ w.grownBy w' none := by
  rcases hx with ⟨rfl, rfl, rfl⟩ | ⟨b, off, rfl, hlt, hc⟩
  · exact ⟨_, w, run_append_owned_none w 0 t ty e i c ht hi (.slice none 0 0) 0 [] (World.ownsRow_nil _ _ _ _), VOwn.nil _ _ _ _ _, ⟨rfl, rfl, rfl, Nat.le_refl _, fun _ _ _ => rfl⟩⟩
  · obtain ⟨v', w', hr, ho, hg, _⟩ := run_append_own (P := P) w w.heap.size t ty e i z c bytes ht hi hz hsize hby hzs hsz (.slice none 0 0) 0 [] (World.ownsRow_nil _ _ _ _) ⟨b, off, none⟩ m xc (vcells c m F) (vcells_len _ _ _) (fun j u hj => by
        have hk : j < m * c := by
          by_cases e : j < m * c
          · exact e
          · rw [List.getElem?_eq_none (by rw [vcells_len]; omega)] at hj
            cases hj
        obtain ⟨k1, k2, k3⟩ := vcells_spot hk
        have hadd : (⟨b, off, none⟩ : Addr).add j = ⟨b, off + j, none⟩ := by unfold Addr.add; split <;> simp_all
        rw [← k3, vcells_at k1 k2] at hj
        rw [hadd, ← k3, ← Nat.add_assoc, hc _ k1 _ k2]
        exact hj) (fun u hu => by
        simp only [vcells, List.mem_flatMap, List.mem_map] at hu
        obtain ⟨i, _, j, _, rfl⟩ := hu
        exact h1 i j) (by omega) (by rw [Nat.zero_add]; exact hb) (Nat.le_refl _)
    refine ⟨v', w', hr, VOwn.of_row ?_, hg⟩
    simpa using ho
theorem step_copy {P : Program} (w : World) {ops : Array Oper} {o : Oper} {a : Act} {K : Act → World → Prop} {Q : Exit → Act → World → Prop} {E : Prop} (hgd : o.guard = none) (s x : Operand) (t : TypeId)
    (ho : o.op = .call { callee := .builtin .append, args := #[s, x], argTypes := #[t, t] })
    (e : TypeId) (i : TypeInfo) (z : Value) (c bytes : Nat) (ht : P.underlying t = some (.slice e)) (hi : P.info? e = some i) (hz : i.zero = some z)
    (hsize : i.size = c) (hby : i.bytes = bytes) (hzs : z.cells.size = c) (hsz : 0 < c) (hs : a.eval s = .slice none 0 0)
    (xa : Option Addr) (m xc : Nat) (F : Nat → Nat → Value) (hx : a.eval x = .slice xa m xc) (h1 : ∀ i j, (F i j).oneCell' = true) (hc : CpAt w c xa m xc F) (h63 : m ≤ maxLen) (hb : m * bytes ≤ 140737488355328)
    (h : ∀ va vc w', VOwn w.heap.size e c w' (.slice va m vc) m F → w.grownBy w' none → K (a.put o.dst (.slice va m vc)) w') :
    if Region.wanted o (yielded ops a.tmps) = true then Oper.wp P o a w K Q else E := by
  have hw : Region.wanted o (yielded ops a.tmps) = true := by simp [Region.wanted, hgd]
  rw [if_pos hw]
  obtain ⟨v', w', hr, h2, h3⟩ := run_copy (P := P) w t o.type e i z c bytes ht hi hz hsize hby hzs hsz xa m xc F h1 hc h63 hb
  obtain ⟨va, vc, rfl⟩ := h2.val
  unfold Oper.wp execOp
  simp only [ho, resolve, invoke, builtin, Sem.run_bind, Sem.run_pure, Result.andThen_ok, List.map_toArray, List.map_cons, List.map_nil, hs, hx, hr]
  exact h va vc w' h2 h3
/-- the desk as an answer -/
def DkR (p : Pl) (n np : Nat) (w : World) (e : Ending) (w' : World) : Prop := FmR w (⟨true, n, fun _ => false, np, fun _ _ => 1, p.ny, (fun i => ⟨0, 0, (p.Y i).ns, fun _ => false, false, 0⟩)⟩ : Fm) e w'
set_option maxRecDepth 100000 in
set_option maxHeartbeats 8000000 in
theorem frame37 (p : Pl) (wa ya ba : Option Addr) (wc yc bc : Nat) (oa : Option Addr) (n oc : Nat) (pa : Option Addr) (np pc : Nat) (ia : Option Addr) (ic : Nat) (w : World) (hs : p.small) (hny : p.ny ≤ 100) (hn : n ≤ 60) (hnp : np ≤ 40) (h : PlIn 0 w p wa ya ba) (ho : CpAt w 1 oa n oc (boolF fun _ => false)) (hp : CpAt w 2 pa np pc (intF fun _ _ => 1)) (hi : VsAt 1 0 w ia p.ny (fun _ _ => .iface 76 (.agg #[]))) :
    Calls Try.prog 37 #[.agg #[.int .i64 p.sec, .slice wa p.nw wc, .slice ya p.ny yc, .slice ba p.nb bc, .int .i64 p.hold, .slice oa n oc, .slice pa np pc, .slice ia p.ny ic]] w fun e w' => DkR p n np w e w' := by
  have H : Hid (PlIn 0 w p wa ya ba ∧ CpAt w 1 oa n oc (boolF fun _ => false) ∧ CpAt w 2 pa np pc (intF fun _ _ => 1) ∧ VsAt 1 0 w ia p.ny (fun _ _ => .iface 76 (.agg #[]))) := ⟨h, ho, hp, hi⟩
  have HS : Hid p.small := hs
  have M0 : Hid (∃ w0, w0 = (w.alloc (.cells #[.int .i64 p.sec, .slice wa p.nw wc, .slice ya p.ny yc, .slice ba p.nb bc, .int .i64 p.hold, .slice oa n oc, .slice pa np pc, .slice ia p.ny ic] 74)).alloc (.cells #[.bool false, .slice none 0 0, .slice none 0 0, .slice none 0 0] 42) ∧ Box w0 w.heap.size 74 #[.int .i64 p.sec, .slice wa p.nw wc, .slice ya p.ny yc, .slice ba p.nb bc, .int .i64 p.hold, .slice oa n oc, .slice pa np pc, .slice ia p.ny ic] ∧ Box w0 (w.heap.size + 1) 42 #[.bool false, .slice none 0 0, .slice none 0 0, .slice none 0 0] ∧ Below w.heap.size w w0) := ⟨_, rfl, (Box.new w 74 _).alloc _, by have := Box.new (w.alloc (.cells #[.int .i64 p.sec, .slice wa p.nw wc, .slice ya p.ny yc, .slice ba p.nb bc, .int .i64 p.hold, .slice oa n oc, .slice pa np pc, .slice ia p.ny ic] 74)) 42 #[.bool false, .slice none 0 0, .slice none 0 0, .slice none 0 0]; simpa using this, bel2 w _ _⟩
  obtain ⟨i0, hi0, hz0, hs0, hb0⟩ := info_parts infoPoint
  obtain ⟨i2, hi2, hz2, hs2, hb2⟩ := info_parts infoBool
  clear h ho hp hi hs
  go_enter Try.func37, Try.ntmps37
  go_wp2_with fail
  obtain ⟨w0, hw0, k1, k2, k3⟩ := M0.out
  rw [← hw0]
  have M1 : Hid (Box w0 w.heap.size 74 #[.int .i64 p.sec, .slice wa p.nw wc, .slice ya p.ny yc, .slice ba p.nb bc, .int .i64 p.hold, .slice oa n oc, .slice pa np pc, .slice ia p.ny ic] ∧ Box w0 (w.heap.size + 1) 42 #[.bool false, .slice none 0 0, .slice none 0 0, .slice none 0 0] ∧ Below w.heap.size w w0) := ⟨k1, k2, k3⟩
  clear hw0 k1 k2 k3 M0
  have a0 : w0.cell? ⟨w.heap.size, 0, none⟩ = some (.int .i64 p.sec) := M1.out.1.cell 0
  have a1 : w0.cell? ⟨w.heap.size, 1, none⟩ = some (.slice wa p.nw wc) := M1.out.1.cell 1
  have a2 : w0.cell? ⟨w.heap.size, 2, none⟩ = some (.slice ya p.ny yc) := M1.out.1.cell 2
  have a3 : w0.cell? ⟨w.heap.size, 3, none⟩ = some (.slice ba p.nb bc) := M1.out.1.cell 3
  have a4 : w0.cell? ⟨w.heap.size, 4, none⟩ = some (.int .i64 p.hold) := M1.out.1.cell 4
  have a5 : w0.cell? ⟨w.heap.size, 5, none⟩ = some (.slice oa n oc) := M1.out.1.cell 5
  have a6 : w0.cell? ⟨w.heap.size, 6, none⟩ = some (.slice pa np pc) := M1.out.1.cell 6
  have a7 : w0.cell? ⟨w.heap.size, 7, none⟩ = some (.slice ia p.ny ic) := M1.out.1.cell 7
  have HG : Hid (∀ W, Below w0.heap.size w0 W → Box W w.heap.size 74 #[.int .i64 p.sec, .slice wa p.nw wc, .slice ya p.ny yc, .slice ba p.nb bc, .int .i64 p.hold, .slice oa n oc, .slice pa np pc, .slice ia p.ny ic] ∧ Box W (w.heap.size + 1) 42 #[.bool false, .slice none 0 0, .slice none 0 0, .slice none 0 0] ∧ Below w.heap.size w W) := fun W hb => ⟨M1.out.1.mono hb (Nat.le_refl _), M1.out.2.1.mono hb (Nat.le_refl _), M1.out.2.2.trans (hb.mono M1.out.2.2.size)⟩
  have HC : Hid (∀ W, Below w0.heap.size w0 W → PlIn 0 W p wa ya ba ∧ CpAt W 1 oa n oc (boolF fun _ => false) ∧ CpAt W 2 pa np pc (intF fun _ _ => 1) ∧ VsAt 1 0 W ia p.ny (fun _ _ => .iface 76 (.agg #[]))) := fun W hb => by
    have hB := (HG.out W hb).2.2
    exact ⟨H.out.1.mono (Nat.le_refl _) hB (Nat.le_refl _), H.out.2.1.mono hB, H.out.2.2.1.mono hB, H.out.2.2.2.mono (Nat.le_refl _) hB (Nat.le_refl _)⟩
  have B0 : Hid (Below w0.heap.size w0 w0.drew) := (Below.refl _ _).drew
  have zz : w.heap.size + 1 < w0.heap.size := M1.out.2.1.lt
  go_wp2_with fail
  go_region_held3 (fun w' => w'.cell? ⟨w.heap.size, 0, none⟩ = some (.int .i64 p.sec) ∧ w'.cell? ⟨w.heap.size, 1, none⟩ = some (.slice wa p.nw wc) ∧ w'.cell? ⟨w.heap.size, 2, none⟩ = some (.slice ya p.ny yc) ∧ w'.cell? ⟨w.heap.size, 3, none⟩ = some (.slice ba p.nb bc) ∧ w'.cell? ⟨w.heap.size, 4, none⟩ = some (.int .i64 p.hold) ∧ w'.cell? ⟨w.heap.size, 5, none⟩ = some (.slice oa n oc) ∧ w'.cell? ⟨w.heap.size, 6, none⟩ = some (.slice pa np pc) ∧ w'.cell? ⟨w.heap.size, 7, none⟩ = some (.slice ia p.ny ic)) (go_keep) (first
    | (go_at_call 63; refine (held63 p wa ya ba wc yc bc (.slice oa n oc) (.slice pa np pc) ia ic _ rfl rfl HS.out hny (HC.out _ B2).1 (HC.out _ B2).2.2.2).mono ?_; rintro e w3 ⟨ha, hc, r, rfl, hh3, hb3⟩; have B3 : Below w0.heap.size w0 w3 := B2.trans (hb3.mono B2.size); have q0 : w3.cell? ⟨w.heap.size, 0, none⟩ = some (.int .i64 p.sec) := (HG.out _ B3).1.cell 0; have q1 : w3.cell? ⟨w.heap.size, 1, none⟩ = some (.slice wa p.nw wc) := (HG.out _ B3).1.cell 1; have q2 : w3.cell? ⟨w.heap.size, 2, none⟩ = some (.slice ya p.ny yc) := (HG.out _ B3).1.cell 2; have q3 : w3.cell? ⟨w.heap.size, 3, none⟩ = some (.slice ba p.nb bc) := (HG.out _ B3).1.cell 3; have q4 : w3.cell? ⟨w.heap.size, 4, none⟩ = some (.int .i64 p.hold) := (HG.out _ B3).1.cell 4; have q5 : w3.cell? ⟨w.heap.size, 5, none⟩ = some (.slice oa n oc) := (HG.out _ B3).1.cell 5; have q6 : w3.cell? ⟨w.heap.size, 6, none⟩ = some (.slice pa np pc) := (HG.out _ B3).1.cell 6; have q7 : w3.cell? ⟨w.heap.size, 7, none⟩ = some (.slice ia p.ny ic) := (HG.out _ B3).1.cell 7; have z0 : w3.cell? ⟨w.heap.size + 1, 0, none⟩ = some (.bool false) := (HG.out _ B3).2.1.cell 0; have y0 := (HG.out _ B3).2.1.free 0; have z1 : w3.cell? ⟨w.heap.size + 1, 1, none⟩ = some (.slice none 0 0) := (HG.out _ B3).2.1.cell 1; have y1 := (HG.out _ B3).2.1.free 1; have z2 : w3.cell? ⟨w.heap.size + 1, 2, none⟩ = some (.slice none 0 0) := (HG.out _ B3).2.1.cell 2; have y2 := (HG.out _ B3).2.1.free 2; have z3 : w3.cell? ⟨w.heap.size + 1, 3, none⟩ = some (.slice none 0 0) := (HG.out _ B3).2.1.cell 3; have y3 := (HG.out _ B3).2.1.free 3)
    | (refine step_copy _ (by rfl) _ _ 38 (by rfl) 4 i2 _ 1 1 Try.underlying38 hi2 hz2 hs2 hb2 rfl (by omega) (by rfl) oa n oc (boolF fun _ => false) (by rfl) (fun _ _ => rfl) (HC.out _ B0.out).2.1 (by simp only [maxLen]; omega) (by omega) ?_; intro va1 vc1 w1 hv1 hg1; have B1 : Below w0.heap.size w0 w1 := B0.out.trans (Below.of_grown hg1 (Nat.le_refl _) (fun g e => (nomatch e))); have b0 : w1.cell? ⟨w.heap.size, 0, none⟩ = some (.int .i64 p.sec) := (HG.out _ B1).1.cell 0; have b1 : w1.cell? ⟨w.heap.size, 1, none⟩ = some (.slice wa p.nw wc) := (HG.out _ B1).1.cell 1; have b2 : w1.cell? ⟨w.heap.size, 2, none⟩ = some (.slice ya p.ny yc) := (HG.out _ B1).1.cell 2; have b3 : w1.cell? ⟨w.heap.size, 3, none⟩ = some (.slice ba p.nb bc) := (HG.out _ B1).1.cell 3; have b4 : w1.cell? ⟨w.heap.size, 4, none⟩ = some (.int .i64 p.hold) := (HG.out _ B1).1.cell 4; have b5 : w1.cell? ⟨w.heap.size, 5, none⟩ = some (.slice oa n oc) := (HG.out _ B1).1.cell 5; have b6 : w1.cell? ⟨w.heap.size, 6, none⟩ = some (.slice pa np pc) := (HG.out _ B1).1.cell 6; have b7 : w1.cell? ⟨w.heap.size, 7, none⟩ = some (.slice ia p.ny ic) := (HG.out _ B1).1.cell 7)
    | (have hB1 := B1; refine step_copy _ (by rfl) _ _ 39 (by rfl) 69 i0 _ 2 16 Try.underlying39 hi0 hz0 hs0 hb0 rfl (by omega) (by rfl) pa np pc (intF fun _ _ => 1) (by rfl) (fun _ _ => rfl) (HC.out _ B1).2.2.1 (by simp only [maxLen]; omega) (by omega) ?_; intro va2 vc2 w2 hv2 hg2; have B2 : Below w0.heap.size w0 w2 := B1.trans (Below.of_grown hg2 B1.size (fun g e => (nomatch e))); have c0 : w2.cell? ⟨w.heap.size, 0, none⟩ = some (.int .i64 p.sec) := (HG.out _ B2).1.cell 0; have c1 : w2.cell? ⟨w.heap.size, 1, none⟩ = some (.slice wa p.nw wc) := (HG.out _ B2).1.cell 1; have c2 : w2.cell? ⟨w.heap.size, 2, none⟩ = some (.slice ya p.ny yc) := (HG.out _ B2).1.cell 2; have c3 : w2.cell? ⟨w.heap.size, 3, none⟩ = some (.slice ba p.nb bc) := (HG.out _ B2).1.cell 3; have c4 : w2.cell? ⟨w.heap.size, 4, none⟩ = some (.int .i64 p.hold) := (HG.out _ B2).1.cell 4; have c5 : w2.cell? ⟨w.heap.size, 5, none⟩ = some (.slice oa n oc) := (HG.out _ B2).1.cell 5; have c6 : w2.cell? ⟨w.heap.size, 6, none⟩ = some (.slice pa np pc) := (HG.out _ B2).1.cell 6; have c7 : w2.cell? ⟨w.heap.size, 7, none⟩ = some (.slice ia p.ny ic) := (HG.out _ B2).1.cell 7))
  all_goals
    have HZ : Hid (∀ W, Fr (fun b => b = w.heap.size + 1) w3 W → DkR p n np w (.returned (.agg #[.bool true, .slice va1 n vc1, .slice va2 np vc2, .slice ha p.ny hc])) W) := fun W hf => by
      obtain ⟨_, k2, k3⟩ := HG.out _ B3
      have K : ∀ b T cur, Box w3 b T cur → T ≠ 42 → W.heap[b]? = w3.heap[b]? := fun b T cur hb hT => hf.block b hb.lt fun e => by subst e; exact hb.ne k2 hT rfl
      have o3 := (hv1.grown' hg2 (fun _ _ e => (nomatch e))).mono (Nat.le_refl _) hb3 (Nat.le_refl _)
      have p3 := hv2.mono (Nat.le_refl _) hb3 (Nat.le_refl _)
      have h3 := hh3.by_ fun b T cur hb hT => K b T cur hb (by rcases hT with rfl | rfl <;> decide)
      have e1 : w.heap.size ≤ w0.drew.heap.size := M1.out.2.2.size
      have e2 : w.heap.size ≤ w1.heap.size := Nat.le_trans e1 hg1.size
      have e3 : w.heap.size ≤ w2.heap.size := Nat.le_trans e2 hg2.size
      refine ⟨_, _, _, _, _, _, r, rfl, ⟨(o3.by_ fun b cur hb => K b 4 cur hb (by decide)).keep e1 fun _ _ => rfl, (p3.by_ fun b cur hb => K b 69 cur hb (by decide)).keep e2 fun _ _ => rfl, ⟨h3.own.keep e3 fun _ _ => rfl, fun i hi => ⟨(h3.row i hi).1, by have := (h3.row i hi).2; omega⟩, h3.inj⟩, fun g hg i hi => ?_⟩, k3.trans (hf.below k3.size fun k hk => by omega)⟩
      have h4 := (hv1.lt hg).2
      have h5 := (hh3.row i hi).2
      have h6 := hg2.size
      omega
    have HF0 : Hid (Fr (fun b => b = w.heap.size + 1) w3 w3) := Fr.refl _ _
    clear hv1 hv2 hh3 hg1 hg2 hb3 B1 B2 B3 HC HG
    go_wp2_with fail
    refine bodyPost_ret (v := .agg #[.bool true, .slice va1 n vc1, .slice va2 np vc2, .slice ha p.ny hc]) (by simp [results, Try.results37, go_sem, z0, z1, z2, z3]) rfl ?_
    exact HZ.out _ ((((HF0.out.cells rfl 0 _).cells rfl 1 _).cells rfl 2 _).cells rfl 3 _)

end Go.Proofs.Ytooebighlohobaa
