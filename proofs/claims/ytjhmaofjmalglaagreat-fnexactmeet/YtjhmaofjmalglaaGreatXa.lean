import Derived.Test.YtjhmaofjmalglaaGreatWg
import Derived.Test.YtjhmaofjmalglaaGreatTu
import Derived.Deep.AppendLies
namespace Go.Proofs.YtjhmaofjmalglaaGreat
open Go.RowKit Go.Lib

def CpAt (w : World) (c : Nat) (xa : Option Addr) (m xc : Nat) (F : Nat → Nat → Value) : Prop := (m = 0 ∧ xa = none ∧ xc = 0) ∨ ∃ b off, xa = some ⟨b, off, none⟩ ∧ b < w.heap.size ∧ ∀ i, i < m → ∀ j, j < c → w.cell? ⟨b, off + i * c + j, none⟩ = some (F i j)
theorem CpAt.mono {w w' : World} {c : Nat} {xa : Option Addr} {m xc : Nat} {F : Nat → Nat → Value} (h : CpAt w c xa m xc F) (hb : Below w.heap.size w w') : CpAt w' c xa m xc F := by
  rcases h with h | ⟨b, off, h1, h2, h3⟩
  · exact .inl h
  · exact .inr ⟨b, off, h1, Nat.lt_of_lt_of_le h2 hb.size, fun i hi j hj => cell_keep hb h2 (h3 i hi j hj)⟩
theorem CpAt.of_own {B : Nat} {e : TypeId} {c : Nat} {w : World} {a : Option Addr} {n cap : Nat} {F : Nat → Nat → Value} (h : VOwn B e c w (.slice a n cap) n F) : CpAt w c a n cap F := by
  rcases h with ⟨h1, h2⟩ | ⟨g, cp, cur, h1, h2, h3, h4, h5, h6, h7⟩
  · simp only [Value.slice.injEq] at h1
    exact .inl ⟨h2, h1.1, h1.2.2⟩
  · simp only [Value.slice.injEq] at h1
    exact .inr ⟨g, 0, h1.1, h3.lt, fun i hi j hj => by rw [h3.cell, Nat.zero_add]; exact h7 i hi j hj⟩
theorem run_copy {P : Program} (w : World) (t ty e : TypeId) (i : TypeInfo) (z : Value) (c bytes : Nat) (ht : P.underlying t = some (.slice e)) (hi : P.info? e = some i) (hz : i.zero = some z) (hsize : i.size = c) (hby : i.bytes = bytes) (hzs : z.cells.size = c) (hsz : 0 < c)
    (xa : Option Addr) (m xc : Nat) (F : Nat → Nat → Value) (h1 : ∀ i j, (F i j).oneCell' = true) (hx : CpAt w c xa m xc F) (h63 : m ≤ maxLen) (hb : m * bytes ≤ 140737488355328) :
    ∃ v' w', (Builtin.append_ #[t, t] ty #[.slice none 0 0, .slice xa m xc]).run P w = .ok v' w' ∧ VOwn w.heap.size e c w' v' m F ∧ w.grownBy w' none := by
  rcases hx with ⟨rfl, rfl, rfl⟩ | ⟨b, off, rfl, hlt, hc⟩
  · exact ⟨_, w, run_append_owned_none w 0 t ty e i c ht hi (.slice none 0 0) 0 [] (World.ownsRow_nil _ _ _ _), VOwn.nil _ _ _ _ _, ⟨rfl, rfl, rfl, Nat.le_refl _, fun _ _ _ => rfl⟩⟩
  · obtain ⟨v', w', hr, ho, hg, _⟩ := run_append_own (P := P) w w.heap.size t ty e i z c bytes ht hi hz hsize hby hzs hsz (.slice none 0 0) 0 [] (World.ownsRow_nil _ _ _ _) ⟨b, off, none⟩ m xc (vcells c m F) (vcells_len _ _ _) (fun j u hj => by
        have hk : j < m * c := by
          by_cases e : j < m * c
          · exact e
          · rw [List.getElem?_eq_none (by rw [vcells_len]; omega)] at hj
            cases hj
        obtain ⟨k1, k2, k3⟩ := vcells_spot hk
        have hadd : (⟨b, off, none⟩ : Addr).add j = ⟨b, off + j, none⟩ := by unfold Addr.add; split <;> simp_all
        rw [← k3, vcells_at k1 k2] at hj
        rw [hadd, ← k3, ← Nat.add_assoc, hc _ k1 _ k2]
        exact hj) (fun u hu => by
        simp only [vcells, List.mem_flatMap, List.mem_map] at hu
        obtain ⟨i, _, j, _, rfl⟩ := hu
        exact h1 i j) (by omega) (by rw [Nat.zero_add]; exact hb) (Nat.le_refl _)
    refine ⟨v', w', hr, VOwn.of_row ?_, hg⟩
    simpa using ho
theorem step_copy {P : Program} (w : World) {ops : Array Oper} {o : Oper} {a : Act} {K : Act → World → Prop} {Q : Exit → Act → World → Prop} {E : Prop} (hgd : o.guard = none) (s x : Operand) (t : TypeId)
    (ho : o.op = .call { callee := .builtin .append, args := #[s, x], argTypes := #[t, t] })
    (e : TypeId) (i : TypeInfo) (z : Value) (c bytes : Nat) (ht : P.underlying t = some (.slice e)) (hi : P.info? e = some i) (hz : i.zero = some z)
    (hsize : i.size = c) (hby : i.bytes = bytes) (hzs : z.cells.size = c) (hsz : 0 < c) (hs : a.eval s = .slice none 0 0)
    (xa : Option Addr) (m xc : Nat) (F : Nat → Nat → Value) (hx : a.eval x = .slice xa m xc) (h1 : ∀ i j, (F i j).oneCell' = true) (hc : CpAt w c xa m xc F) (h63 : m ≤ maxLen) (hb : m * bytes ≤ 140737488355328)
    (h : ∀ va vc w', VOwn w.heap.size e c w' (.slice va m vc) m F → w.grownBy w' none → K (a.put o.dst (.slice va m vc)) w') :
    if Region.wanted o (yielded ops a.tmps) = true then Oper.wp P o a w K Q else E := by
  have hw : Region.wanted o (yielded ops a.tmps) = true := by simp [Region.wanted, hgd]
  rw [if_pos hw]
  obtain ⟨v', w', hr, h2, h3⟩ := run_copy (P := P) w t o.type e i z c bytes ht hi hz hsize hby hzs hsz xa m xc F h1 hc h63 hb
  obtain ⟨va, vc, rfl⟩ := h2.val
  unfold Oper.wp execOp
  simp only [ho, resolve, invoke, builtin, Sem.run_bind, Sem.run_pure, Result.andThen_ok, List.map_toArray, List.map_cons, List.map_nil, hs, hx, hr]
  exact h va vc w' h2 h3
theorem step_vapp {P : Program} (w : World) {ops : Array Oper} {o : Oper} {a : Act} {K : Act → World → Prop} {Q : Exit → Act → World → Prop} {E : Prop} (hgd : o.guard = none) (s x : Operand) (t : TypeId)
    (ho : o.op = .call { callee := .builtin .append, args := #[s, x], argTypes := #[t, t] })
    (B : Nat) (e : TypeId) (i : TypeInfo) (z : Value) (c bytes : Nat) (ht : P.underlying t = some (.slice e)) (hi : P.info? e = some i) (hz : i.zero = some z)
    (hsize : i.size = c) (hby : i.bytes = bytes) (hzs : z.cells.size = c) (hsz : 0 < c)
    (v : Value) (n : Nat) (F : Nat → Nat → Value) (hs : a.eval s = v) (hown : VOwn B e c w v n F) (h1 : ∀ i j, (F i j).oneCell' = true)
    (q cap : Nat) (vs : Array Value) (hx : a.eval x = .slice (some ⟨q, 0, none⟩) 1 cap) (hb : Box w q e vs) (hvs : vs.toList = (List.range c).map (F n))
    (h63 : n + 1 ≤ maxLen) (hbytes : (n + 1) * bytes ≤ 140737488355328) (hbase : B ≤ w.heap.size)
    (h : ∀ g gc w', VOwn B e c w' (.slice (some ⟨g, 0, none⟩) (n + 1) gc) (n + 1) F → w.grownBy w' v.ownBlock → K (a.put o.dst (.slice (some ⟨g, 0, none⟩) (n + 1) gc)) w') :
    if Region.wanted o (yielded ops a.tmps) = true then Oper.wp P o a w K Q else E := by
  refine step_append_lies w hgd s x t ho B e i z c bytes ht hi hz hsize hby hzs hsz v n (vcells c n F) hs hown.row ⟨q, 0, none⟩ 1 cap ((List.range c).map (F n)) hx (by simp) ?_ ?_ (by omega) h63 hbytes hbase w.heap.size rfl ?_
  · intro j u hj
    rw [← hvs] at hj
    have hadd : (⟨q, 0, none⟩ : Addr).add j = ⟨q, j, none⟩ := by unfold Addr.add; split <;> simp_all
    rw [hadd, hb.cell]
    simpa using hj
  · intro u hu
    obtain ⟨j, _, rfl⟩ := List.mem_map.1 hu
    exact h1 _ _
  · intro g gc w' ho' hg' _ _
    rw [← vcells_succ] at ho'
    exact h g gc w' (VOwn.of_row ho') hg'
theorem below_grownN {B : Nat} {a w w' : World} (h : Below B a w) (hg : w.grownBy w' none) (hB : B ≤ w.heap.size) : Below B a w' := h.grown hg hB (fun j hj => by cases hj)
theorem Box.grownN {w w' : World} {b : Nat} {T : TypeId} {vs : Array Value} (h : Box w b T vs) (hg : w.grownBy w' none) : Box w' b T vs := h.grown hg (by simp)
theorem VOwn.grownN {B : Nat} {e : TypeId} {c : Nat} {w w' : World} {v : Value} {n : Nat} {F : Nat → Nat → Value} (h : VOwn B e c w v n F) (hg : w.grownBy w' none) : VOwn B e c w' v n F := h.keep (Nat.le_refl _) fun g hgg => hg.block g (h.lt hgg).2 (by simp)
def tdF (v : Nv) (fp fa fw lg : Int) (nb : Nat) (B : Nat → Nat → Int) (c : Nat) : Int := if trainF v fp fa fw lg nb B = true then (if c = 0 then ahP fp B nb else if c = 1 then tlA v fp fa fw lg nb B else if c = 2 then -(ahW fw B nb) else lg) else 0
def tdN (v : Nv) (fp fa fw lg : Int) (nb : Nat) (B : Nat → Nat → Int) : Nat := if trainF v fp fa fw lg nb B = true then nb - noF v fp fa fw B else 0
/-- what Turned answers: its back lies in a list of its own -/
def TdR (w : World) (v : Nv) (fp fa fw lg : Int) (nb : Nat) (B : Nat → Nat → Int) (e : Ending) (w' : World) : Prop := ∃ a c, e = .returned (.agg #[.int .i64 (tdF v fp fa fw lg nb B 0), .int .i64 (tdF v fp fa fw lg nb B 1), .int .i64 (tdF v fp fa fw lg nb B 2), .int .i64 (tdF v fp fa fw lg nb B 3), .slice a (tdN v fp fa fw lg nb B) c]) ∧ VOwn w.heap.size 74 2 w' (.slice a (tdN v fp fa fw lg nb B) c) (tdN v fp fa fw lg nb B) (intF (bkF fp fw nb B)) ∧ Below w.heap.size w w'
theorem td_yes {w : World} {v : Nv} {fp fa fw lg : Int} {nb : Nat} {B : Nat → Nat → Int} {e : Ending} {w' : World} {a : Option Addr} {c : Nat} (h : trainF v fp fa fw lg nb B = true) (he : e = .returned (.agg #[.int .i64 (ahP fp B nb), .int .i64 (tlA v fp fa fw lg nb B), .int .i64 (-(ahW fw B nb)), .int .i64 lg, .slice a (nb - noF v fp fa fw B) c])) (ho : VOwn w.heap.size 74 2 w' (.slice a (nb - noF v fp fa fw B) c) (nb - noF v fp fa fw B) (intF (bkF fp fw nb B))) (hb : Below w.heap.size w w') : TdR w v fp fa fw lg nb B e w' := by
  have e0 : tdF v fp fa fw lg nb B 0 = ahP fp B nb := if_pos h
  have e1 : tdF v fp fa fw lg nb B 1 = tlA v fp fa fw lg nb B := if_pos h
  have e2 : tdF v fp fa fw lg nb B 2 = -(ahW fw B nb) := if_pos h
  have e3 : tdF v fp fa fw lg nb B 3 = lg := if_pos h
  have e4 : tdN v fp fa fw lg nb B = nb - noF v fp fa fw B := if_pos h
  exact ⟨a, c, by rw [e0, e1, e2, e3, e4]; exact he, by rw [e4]; exact ho, hb⟩
theorem td_no {w : World} {v : Nv} {fp fa fw lg : Int} {nb : Nat} {B : Nat → Nat → Int} {e : Ending} {w' : World} (h : trainF v fp fa fw lg nb B = false) (he : e = .returned (.agg #[.int .i64 0, .int .i64 0, .int .i64 0, .int .i64 0, .slice none 0 0])) (hb : Below w.heap.size w w') : TdR w v fp fa fw lg nb B e w' := by
  have hh : ¬ trainF v fp fa fw lg nb B = true := by rw [h]; decide
  have e0 : tdF v fp fa fw lg nb B 0 = 0 := if_neg hh
  have e1 : tdF v fp fa fw lg nb B 1 = 0 := if_neg hh
  have e2 : tdF v fp fa fw lg nb B 2 = 0 := if_neg hh
  have e3 : tdF v fp fa fw lg nb B 3 = 0 := if_neg hh
  have e4 : tdN v fp fa fw lg nb B = 0 := if_neg hh
  exact ⟨none, 0, by rw [e0, e1, e2, e3, e4]; exact he, by rw [e4]; exact VOwn.nil _ _ _ _ _, hb⟩
theorem tr_ok {v : Nv} {fp fa fw lg : Int} {nb : Nat} {B : Nat → Nat → Int} (h : trainF v fp fa fw lg nb B = true) : v.Ok ∧ Trn v fp fa fw lg nb B := by
  have h0 := h
  rw [trainF, Bool.and_eq_true, decide_eq_true_eq] at h0
  exact ⟨nvOk h0.1, trn_of h0.2⟩
theorem infoStepZ : (Tryz.prog.info? 74).map (fun i => (i.zero, i.size, i.bytes)) = some (some (.agg #[.int .i64 0, .int .i64 0]), 2, 16) := by kernel_rfl
set_option maxRecDepth 100000 in
set_option maxHeartbeats 8000000 in
theorem train43 (y0 y1 y2 y3 : Int) (ya : Option Addr) (yn yc M : Nat) (F : Nat → Nat → Int) (w : World) (hn : yn ≤ 1048576) (ho : VOwn M 74 2 w (.slice ya yn yc) yn (intF F)) :
    Calls Tryz.prog 48 #[.agg #[.int .i64 y0, .int .i64 y1, .int .i64 y2, .int .i64 y3, .slice ya yn yc]] w fun e w' => ∃ za zc, e = .returned (.agg #[.int .i64 y0, .int .i64 y1, .int .i64 y2, .int .i64 y3, .slice za yn zc]) ∧ VOwn w.heap.size 74 2 w' (.slice za yn zc) yn (intF F) ∧ Below w.heap.size w w' := by
  obtain ⟨i0, hi0, hz0, hs0, hb0⟩ := info_parts infoStepZ
  have H : Hid (CpAt w 2 ya yn yc (intF F)) := CpAt.of_own ho
  clear ho
  have S0 : Hid (Below w.heap.size w ((w.alloc (.cells #[.int .i64 y0, .int .i64 y1, .int .i64 y2, .int .i64 y3, .slice ya yn yc] 90)).alloc (.cells #[.int .i64 0, .int .i64 0, .int .i64 0, .int .i64 0, .slice none 0 0] 33)) ∧ Box ((w.alloc (.cells #[.int .i64 y0, .int .i64 y1, .int .i64 y2, .int .i64 y3, .slice ya yn yc] 90)).alloc (.cells #[.int .i64 0, .int .i64 0, .int .i64 0, .int .i64 0, .slice none 0 0] 33)) (w.heap.size) 90 #[.int .i64 y0, .int .i64 y1, .int .i64 y2, .int .i64 y3, .slice ya yn yc] ∧ Box ((w.alloc (.cells #[.int .i64 y0, .int .i64 y1, .int .i64 y2, .int .i64 y3, .slice ya yn yc] 90)).alloc (.cells #[.int .i64 0, .int .i64 0, .int .i64 0, .int .i64 0, .slice none 0 0] 33)) (w.heap.size + 1) 33 #[.int .i64 0, .int .i64 0, .int .i64 0, .int .i64 0, .slice none 0 0]) := ⟨bel2 _ _ _, (Box.new _ _ _).alloc _, by have := Box.new (w.alloc (.cells #[.int .i64 y0, .int .i64 y1, .int .i64 y2, .int .i64 y3, .slice ya yn yc] 90)) 33 #[.int .i64 0, .int .i64 0, .int .i64 0, .int .i64 0, .slice none 0 0]; simpa using this⟩
  go_enter Tryz.func48, Tryz.ntmps48
  go_upto_region 1 with fail
  generalize ((w.alloc (.cells #[.int .i64 y0, .int .i64 y1, .int .i64 y2, .int .i64 y3, .slice ya yn yc] 90)).alloc (.cells #[.int .i64 0, .int .i64 0, .int .i64 0, .int .i64 0, .slice none 0 0] 33)) = V0 at S0 ⊢
  have MD : Hid (Below w.heap.size w V0.drew ∧ Box V0.drew (w.heap.size) 90 #[.int .i64 y0, .int .i64 y1, .int .i64 y2, .int .i64 y3, .slice ya yn yc] ∧ Box V0.drew (w.heap.size + 1) 33 #[.int .i64 0, .int .i64 0, .int .i64 0, .int .i64 0, .slice none 0 0]) := ⟨S0.out.1.drew, S0.out.2.1.drew, S0.out.2.2.drew⟩
  have a0 : V0.cell? ⟨w.heap.size, 0, none⟩ = some (.int .i64 y0) := S0.out.2.1.cell 0
  have a1 : V0.cell? ⟨w.heap.size, 1, none⟩ = some (.int .i64 y1) := S0.out.2.1.cell 1
  have a2 : V0.cell? ⟨w.heap.size, 2, none⟩ = some (.int .i64 y2) := S0.out.2.1.cell 2
  have a3 : V0.cell? ⟨w.heap.size, 3, none⟩ = some (.int .i64 y3) := S0.out.2.1.cell 3
  have a4 : V0.cell? ⟨w.heap.size, 4, none⟩ = some (.slice ya yn yc) := S0.out.2.1.cell 4
  clear S0
  go_wp2_with fail
  refine wp_region_held_drew (S := (fun wx : World => wx.cell? ⟨w.heap.size, 0, none⟩ = some (.int .i64 y0) ∧ wx.cell? ⟨w.heap.size, 1, none⟩ = some (.int .i64 y1) ∧ wx.cell? ⟨w.heap.size, 2, none⟩ = some (.int .i64 y2) ∧ wx.cell? ⟨w.heap.size, 3, none⟩ = some (.int .i64 y3) ∧ wx.cell? ⟨w.heap.size, 4, none⟩ = some (.slice ya yn yc))) (by kernel_rfl) ?_ (fun hHeld => ?_)
  · exact ⟨a0, a1, a2, a3, a4⟩
  generalize V0.drew = VD at MD hHeld ⊢
  clear a0 a1 a2 a3 a4
  refine tk 0 ?_
  refine tk 1 ?_
  refine tk 2 ?_
  refine tk 3 ?_
  refine tk 4 ?_
  refine tk 5 ?_
  refine rl 6 fun K hK => ?_
  refine step_copy VD rfl _ _ 31 rfl 74 i0 _ 2 16 Tryz.underlying31 hi0 hz0 hs0 hb0 rfl (by decide) rfl ya yn yc (intF F) rfl (fun _ _ => rfl) (H.out.mono MD.out.1) (by simp only [maxLen]; omega) (by omega) ?_
  intro za zc w2 ho2 hg2
  have M2 : Hid ((Below w.heap.size w w2 ∧ Box w2 (w.heap.size) 90 #[.int .i64 y0, .int .i64 y1, .int .i64 y2, .int .i64 y3, .slice ya yn yc] ∧ Box w2 (w.heap.size + 1) 33 #[.int .i64 0, .int .i64 0, .int .i64 0, .int .i64 0, .slice none 0 0]) ∧ VOwn w.heap.size 74 2 w2 (.slice za yn zc) yn (intF F)) := ⟨⟨below_grownN MD.out.1 hg2 MD.out.1.size, MD.out.2.1.grownN hg2, MD.out.2.2.grownN hg2⟩, ho2.keep MD.out.1.size (fun _ _ => rfl)⟩
  clear ho2 hg2 MD hHeld
  simp only [Act.put, List.setIfInBounds_toArray, List.set_cons_zero, List.set_cons_succ]
  refine hK.out _ _ ?_ (fun hHeld => ?_)
  · exact ⟨M2.out.1.2.1.cell 0, M2.out.1.2.1.cell 1, M2.out.1.2.1.cell 2, M2.out.1.2.1.cell 3, M2.out.1.2.1.cell 4⟩
  clear hK K
  refine tk 7 ?_
  have z0 : w2.cell? ⟨w.heap.size + 1, 0, none⟩ = some (.int .i64 0) := M2.out.1.2.2.cell 0
  have z1 : w2.cell? ⟨w.heap.size + 1, 1, none⟩ = some (.int .i64 0) := M2.out.1.2.2.cell 1
  have z2 : w2.cell? ⟨w.heap.size + 1, 2, none⟩ = some (.int .i64 0) := M2.out.1.2.2.cell 2
  have z3 : w2.cell? ⟨w.heap.size + 1, 3, none⟩ = some (.int .i64 0) := M2.out.1.2.2.cell 3
  have z4 : w2.cell? ⟨w.heap.size + 1, 4, none⟩ = some (.slice none 0 0) := M2.out.1.2.2.cell 4
  have q0 := M2.out.1.2.2.free 0
  have q1 := M2.out.1.2.2.free 1
  have q2 := M2.out.1.2.2.free 2
  have q3 := M2.out.1.2.2.free 3
  have q4 := M2.out.1.2.2.free 4
  have e1 : w.heap.size ≠ w.heap.size + 1 := by omega
  have M3 : Hid ((Below w.heap.size w (((((w2.setCell ⟨w.heap.size + 1, 0, none⟩ (.int .i64 y0)).setCell ⟨w.heap.size + 1, 1, none⟩ (.int .i64 y1)).setCell ⟨w.heap.size + 1, 2, none⟩ (.int .i64 y2)).setCell ⟨w.heap.size + 1, 3, none⟩ (.int .i64 y3)).setCell ⟨w.heap.size + 1, 4, none⟩ (.slice za yn zc)) ∧ Box (((((w2.setCell ⟨w.heap.size + 1, 0, none⟩ (.int .i64 y0)).setCell ⟨w.heap.size + 1, 1, none⟩ (.int .i64 y1)).setCell ⟨w.heap.size + 1, 2, none⟩ (.int .i64 y2)).setCell ⟨w.heap.size + 1, 3, none⟩ (.int .i64 y3)).setCell ⟨w.heap.size + 1, 4, none⟩ (.slice za yn zc)) w.heap.size 90 #[.int .i64 y0, .int .i64 y1, .int .i64 y2, .int .i64 y3, .slice ya yn yc] ∧ Box (((((w2.setCell ⟨w.heap.size + 1, 0, none⟩ (.int .i64 y0)).setCell ⟨w.heap.size + 1, 1, none⟩ (.int .i64 y1)).setCell ⟨w.heap.size + 1, 2, none⟩ (.int .i64 y2)).setCell ⟨w.heap.size + 1, 3, none⟩ (.int .i64 y3)).setCell ⟨w.heap.size + 1, 4, none⟩ (.slice za yn zc)) (w.heap.size + 1) 33 #[.int .i64 y0, .int .i64 y1, .int .i64 y2, .int .i64 y3, .slice za yn zc]) ∧ VOwn w.heap.size 74 2 (((((w2.setCell ⟨w.heap.size + 1, 0, none⟩ (.int .i64 y0)).setCell ⟨w.heap.size + 1, 1, none⟩ (.int .i64 y1)).setCell ⟨w.heap.size + 1, 2, none⟩ (.int .i64 y2)).setCell ⟨w.heap.size + 1, 3, none⟩ (.int .i64 y3)).setCell ⟨w.heap.size + 1, 4, none⟩ (.slice za yn zc)) (.slice za yn zc) yn (intF F)) := ⟨⟨(((((M2.out.1.1.setCell (Nat.le_add_right _ 1) _).setCell (Nat.le_add_right _ 1) _).setCell (Nat.le_add_right _ 1) _).setCell (Nat.le_add_right _ 1) _).setCell (Nat.le_add_right _ 1) _), (((((M2.out.1.2.1.other e1 _).other e1 _).other e1 _).other e1 _).other e1 _), by
    have h9 := (((((M2.out.1.2.2.set 0 (.int .i64 y0)).set 1 (.int .i64 y1)).set 2 (.int .i64 y2)).set 3 (.int .i64 y3)).set 4 (.slice za yn zc))
    exact h9⟩, (((((M2.out.2.set M2.out.1.2.2 (by decide) 0 _).set (M2.out.1.2.2.set 0 (.int .i64 y0)) (by decide) 1 _).set ((M2.out.1.2.2.set 0 (.int .i64 y0)).set 1 (.int .i64 y1)) (by decide) 2 _).set (((M2.out.1.2.2.set 0 (.int .i64 y0)).set 1 (.int .i64 y1)).set 2 (.int .i64 y2)) (by decide) 3 _).set ((((M2.out.1.2.2.set 0 (.int .i64 y0)).set 1 (.int .i64 y1)).set 2 (.int .i64 y2)).set 3 (.int .i64 y3)) (by decide) 4 _)⟩
  clear M2
  refine rl 8 fun K hK => ?_
  go_simp
  refine hK.out _ _ ?_ (fun hHeld => ?_)
  · exact ⟨M3.out.1.2.1.cell 0, M3.out.1.2.1.cell 1, M3.out.1.2.1.cell 2, M3.out.1.2.1.cell 3, M3.out.1.2.1.cell 4⟩
  clear hK K hHeld z0 z1 z2 z3 z4 q0 q1 q2 q3 q4
  refine wpAnyH_done (by kernel_rfl) ?_ _
  generalize (((((w2.setCell ⟨w.heap.size + 1, 0, none⟩ (.int .i64 y0)).setCell ⟨w.heap.size + 1, 1, none⟩ (.int .i64 y1)).setCell ⟨w.heap.size + 1, 2, none⟩ (.int .i64 y2)).setCell ⟨w.heap.size + 1, 3, none⟩ (.int .i64 y3)).setCell ⟨w.heap.size + 1, 4, none⟩ (.slice za yn zc)) = W9 at M3 ⊢
  have z0 : W9.cell? ⟨w.heap.size + 1, 0, none⟩ = some (.int .i64 y0) := M3.out.1.2.2.cell 0
  have z1 : W9.cell? ⟨w.heap.size + 1, 1, none⟩ = some (.int .i64 y1) := M3.out.1.2.2.cell 1
  have z2 : W9.cell? ⟨w.heap.size + 1, 2, none⟩ = some (.int .i64 y2) := M3.out.1.2.2.cell 2
  have z3 : W9.cell? ⟨w.heap.size + 1, 3, none⟩ = some (.int .i64 y3) := M3.out.1.2.2.cell 3
  have z4 : W9.cell? ⟨w.heap.size + 1, 4, none⟩ = some (.slice za yn zc) := M3.out.1.2.2.cell 4
  go_wp2_with fail
  exact bodyPost_ret (v := .agg #[.int .i64 y0, .int .i64 y1, .int .i64 y2, .int .i64 y3, .slice za yn zc]) (by simp [results, Tryz.results48, go_sem, z0, z1, z2, z3, z4]) rfl ⟨za, zc, rfl, M3.out.2, M3.out.1.1⟩

end Go.Proofs.YtjhmaofjmalglaaGreat
