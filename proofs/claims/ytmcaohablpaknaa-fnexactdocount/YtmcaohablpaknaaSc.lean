import Derived.Test.YtmcaohablpaknaaWn
import Derived.Test.YtmcaohablpaknaaBg
namespace Go.Proofs.Ytmcaohablpaknaa
open Go.RowKit Go.ChangeShapes Go.WideShapes

/-- one struct appended to a slice of one's own -/
theorem wpList_vapp {P : Program} (w : World) {ops : Array Oper} {rest : List Oper} {o : Oper} {a : Act} {Q : Exit → Act → World → Prop} (hgd : o.guard = none) (s x : Operand) (t : TypeId)
    (ho : o.op = .call { callee := .builtin .append, args := #[s, x], argTypes := #[t, t] })
    (B : Nat) (e : TypeId) (i : TypeInfo) (z : Value) (c bytes : Nat) (ht : P.underlying t = some (.slice e)) (hi : P.info? e = some i) (hz : i.zero = some z)
    (hsize : i.size = c) (hby : i.bytes = bytes) (hzs : z.cells.size = c) (hsz : 0 < c)
    (v : Value) (n : Nat) (F : Nat → Nat → Value) (hs : a.eval s = v) (hown : VOwn B e c w v n F) (h1 : ∀ i j, (F i j).oneCell' = true)
    (q cap : Nat) (vs : Array Value) (hx : a.eval x = .slice (some ⟨q, 0, none⟩) 1 cap) (hb : Box w q e vs) (hvs : vs.toList = (List.range c).map (F n))
    (h63 : n + 1 ≤ maxLen) (hbytes : (n + 1) * bytes ≤ 140737488355328) (hbase : B ≤ w.heap.size)
    (h : Halt (∀ v' w', VOwn B e c w' v' (n + 1) F → w.grownBy w' v.ownBlock → wpList P ops Q rest (a.put o.dst v') w')) : wpList P ops Q (o :: rest) a w := by
  refine wpList_append_own w hgd s x t ho B e i z c bytes ht hi hz hsize hby hzs hsz v n (vcells c n F) hs hown.row ⟨q, 0, none⟩ 1 cap ((List.range c).map (F n)) hx (by simp) ?_ ?_ h63 hbytes hbase ?_
  · intro j u hj
    rw [← hvs] at hj
    have hadd : (⟨q, 0, none⟩ : Addr).add j = ⟨q, j, none⟩ := by unfold Addr.add; split <;> simp_all
    rw [hadd, hb.cell]
    simpa using hj
  · intro u hu
    obtain ⟨j, _, rfl⟩ := List.mem_map.1 hu
    exact h1 _ _
  · intro v' w' ho' hg' _
    rw [← vcells_succ] at ho'
    exact h v' w' (VOwn.of_row ho') hg'

set_option maxRecDepth 10000 in
set_option maxHeartbeats 8000000 in
theorem copyS (ok : Bool) (sa da : Option Addr) (ns nd sc dc : Nat) (S : Nat → Sec) (D : Nat → Bool) (w : World) (hn : ns ≤ 1048576) (hm : nd ≤ 1048576) (hE : VsAt 5 0 w sa ns (secF S)) (hD : VsAt 1 0 w da nd (boolF D)) :
    Calls Try.prog 54 #[.agg #[.bool ok, .slice sa ns sc, .slice da nd dc]] w fun e w' => ∃ sa' sc' da' dc', e = .returned (.agg #[.bool ok, .slice sa' ns sc', .slice da' nd dc']) ∧ StOwn w.heap.size w' sa' sc' da' dc' ns nd S D ∧ Below w.heap.size w w' := by
  obtain ⟨i5, p5, q5, r5, t5⟩ := info_parts infoSection
  obtain ⟨i1, p1, q1, r1, t1⟩ := info_parts infoBool
  have HE : Hid (VsAt 5 0 w sa ns (secF S) ∧ VsAt 1 0 w da nd (boolF D)) := ⟨hE, hD⟩
  clear hE hD
  go_enter Try.func54, Try.ntmps54
  go_wp2_with fail
  have B0 := bel3 w (.cells #[.bool ok, .slice sa ns sc, .slice da nd dc] 42) (.cells #[.bool false, .slice none 0 0, .slice none 0 0] 42) (.cells #[.bool ok, .slice none 0 0, .slice none 0 0] 42)
  have P0 := ((Box.newq w 42 #[.bool ok, .slice sa ns sc, .slice da nd dc] rfl).alloc (.cells #[.bool false, .slice none 0 0, .slice none 0 0] 42)).alloc (.cells #[.bool ok, .slice none 0 0, .slice none 0 0] 42)
  have R0 := (Box.newq (w.alloc (.cells #[.bool ok, .slice sa ns sc, .slice da nd dc] 42)) 42 #[.bool false, .slice none 0 0, .slice none 0 0] (q := w.heap.size + 1) (by simp)).alloc (.cells #[.bool ok, .slice none 0 0, .slice none 0 0] 42)
  have O0 := Box.newq ((w.alloc (.cells #[.bool ok, .slice sa ns sc, .slice da nd dc] 42)).alloc (.cells #[.bool false, .slice none 0 0, .slice none 0 0] 42)) 42 #[.bool ok, .slice none 0 0, .slice none 0 0] (q := w.heap.size + 1 + 1) (by simp)
  have HS : Hid (Below w.heap.size w (((w.alloc (.cells #[.bool ok, .slice sa ns sc, .slice da nd dc] 42)).alloc (.cells #[.bool false, .slice none 0 0, .slice none 0 0] 42)).alloc (.cells #[.bool ok, .slice none 0 0, .slice none 0 0] 42)) ∧ Box (((w.alloc (.cells #[.bool ok, .slice sa ns sc, .slice da nd dc] 42)).alloc (.cells #[.bool false, .slice none 0 0, .slice none 0 0] 42)).alloc (.cells #[.bool ok, .slice none 0 0, .slice none 0 0] 42)) w.heap.size 42 #[.bool ok, .slice sa ns sc, .slice da nd dc] ∧ Box (((w.alloc (.cells #[.bool ok, .slice sa ns sc, .slice da nd dc] 42)).alloc (.cells #[.bool false, .slice none 0 0, .slice none 0 0] 42)).alloc (.cells #[.bool ok, .slice none 0 0, .slice none 0 0] 42)) (w.heap.size + 1) 42 #[.bool false, .slice none 0 0, .slice none 0 0] ∧ Box (((w.alloc (.cells #[.bool ok, .slice sa ns sc, .slice da nd dc] 42)).alloc (.cells #[.bool false, .slice none 0 0, .slice none 0 0] 42)).alloc (.cells #[.bool ok, .slice none 0 0, .slice none 0 0] 42)) (w.heap.size + 1 + 1) 42 #[.bool ok, .slice none 0 0, .slice none 0 0]) := ⟨B0, P0, R0, O0⟩
  clear B0 P0 R0 O0
  go_loopw [14] (fun i wr => ∃ k : Nat, k ≤ ns ∧ i = .int .i64 k ∧ ∃ va vc, Hid (Below w.heap.size w wr ∧ Box wr w.heap.size 42 #[.bool ok, .slice sa ns sc, .slice da nd dc] ∧ Box wr (w.heap.size + 1) 42 #[.bool false, .slice none 0 0, .slice none 0 0] ∧ Box wr (w.heap.size + 1 + 1) 42 #[.bool ok, .slice va k vc, .slice none 0 0] ∧ VOwn w.heap.size 84 5 wr (.slice va k vc) k (secF S))) (fun i _ => ns - (intOf i).toNat)
  case atStart => exact ⟨0, Nat.zero_le _, rfl, none, 0, HS.out.1, HS.out.2.1, HS.out.2.2.1, HS.out.2.2.2, VOwn.nil _ _ _ _ _⟩
  case round =>
    obtain ⟨k, hk, rfl, va, vc, HR⟩ := hrel
    by_cases hlt : k < ns
    · obtain ⟨b, off, rfl, _, hb, hc⟩ := (HE.out.1.mono (Nat.le_refl _) HR.out.1 (Nat.le_refl _)) (by omega)
      have c0 : wr.cell? ⟨b, off + k * 5, none⟩ = some (.int .i64 (S k).told) := hc k hlt 0 (by omega)
      have c1 : wr.cell? ⟨b, off + k * 5 + 1, none⟩ = some (.int .i64 (S k).count) := hc k hlt 1 (by omega)
      have c2 : wr.cell? ⟨b, off + k * 5 + 2, none⟩ = some (.bool (S k).lost) := hc k hlt 2 (by omega)
      have c3 : wr.cell? ⟨b, off + k * 5 + 3, none⟩ = some (.bool (S k).sweep) := hc k hlt 3 (by omega)
      have c4 : wr.cell? ⟨b, off + k * 5 + 4, none⟩ = some (.int .i64 (S k).last) := hc k hlt 4 (by omega)
      have y1 : wr.cell? ⟨w.heap.size + 1 + 1, 1, none⟩ = some (.slice va k vc) := HR.out.2.2.2.1.cell 1
      have fy := HR.out.2.2.2.1.free 1
      have zo : w.heap.size + 1 + 1 < wr.heap.size := HR.out.2.2.2.1.lt
      have zw := HR.out.1.size
      clear hc
      obtain ⟨x, hx⟩ : ∃ x, Hid (S k = x) := ⟨_, rfl⟩
      rw [hx.out] at c0 c1 c2 c3 c4
      obtain ⟨x0, xc, xl, xs, xa⟩ := x
      have hvs : ((#[.int .i64 x0, .int .i64 xc, .bool xl, .bool xs, .int .i64 xa] : Array Value)).toList = (List.range 5).map (secF S k) := by
        show _ = List.map (fun j => secV (S k) j) (List.range 5)
        rw [hx.out]
        rfl
      have HV : Hid (((#[.int .i64 x0, .int .i64 xc, .bool xl, .bool xs, .int .i64 xa] : Array Value)).toList = (List.range 5).map (secF S k)) := hvs
      clear hvs
      go_wp2_with (at_builtin; go_must (refine wpList_vapp _ rfl _ _ 39 rfl w.heap.size 84 i5 _ 5 32 Try.underlying39 p5 q5 r5 t5 rfl (by decide) (.slice va k vc) k (secF S) rfl ((HR.out.2.2.2.2.alloc _).alloc _) (one_sec S) (wr.heap.size + 1) 1 #[.int .i64 x0, .int .i64 xc, .bool xl, .bool xs, .int .i64 xa] rfl (Box.newq _ 84 #[.int .i64 x0, .int .i64 xc, .bool xl, .bool xs, .int .i64 xa] (by simp)) HV.out (by simp only [maxLen]; omega) (by omega) (by simp; omega) (Halt.mk ?_)))
      intro v2 w2 o2 g2
      obtain ⟨va2, vc2, rfl⟩ := o2.val
      have hne : ∀ q T vs, Box ((wr.alloc (.cells #[.int .i64 x0, .int .i64 xc, .bool xl, .bool xs, .int .i64 xa] 84)).alloc (.cells #[.int .i64 x0, .int .i64 xc, .bool xl, .bool xs, .int .i64 xa] 84)) q T vs → T ≠ 84 → Box w2 q T vs := fun q T vs hq hT => hq.grown g2 (fun e => ((HR.out.2.2.2.2.alloc _).alloc _).off hq hT e rfl)
      have A2 := hne _ _ _ ((HR.out.2.1.alloc _).alloc _) (by decide)
      have R2 := hne _ _ _ ((HR.out.2.2.1.alloc _).alloc _) (by decide)
      have O2 := hne _ _ _ ((HR.out.2.2.2.1.alloc _).alloc _) (by decide)
      have B2 := ((HR.out.1.alloc (by omega) (.cells #[.int .i64 x0, .int .i64 xc, .bool xl, .bool xs, .int .i64 xa] 84)).alloc (by simp; omega) (.cells #[.int .i64 x0, .int .i64 xc, .bool xl, .bool xs, .int .i64 xa] 84)).grown g2 (by simp; omega) (fun j hj => (HR.out.2.2.2.2.lt hj).1)
      have y1 : w2.cell? ⟨w.heap.size + 1 + 1, 1, none⟩ = some (.slice va k vc) := O2.cell 1
      have fy := O2.free 1
      have hp : w.heap.size ≤ w.heap.size + 1 + 1 := by omega
      have HN : Hid (Below w.heap.size w (w2.setCell ⟨w.heap.size + 1 + 1, 1, none⟩ (.slice va2 (k + 1) vc2)) ∧ Box (w2.setCell ⟨w.heap.size + 1 + 1, 1, none⟩ (.slice va2 (k + 1) vc2)) w.heap.size 42 #[.bool ok, .slice (some ⟨b, off, none⟩) ns sc, .slice da nd dc] ∧ Box (w2.setCell ⟨w.heap.size + 1 + 1, 1, none⟩ (.slice va2 (k + 1) vc2)) (w.heap.size + 1) 42 #[.bool false, .slice none 0 0, .slice none 0 0] ∧ Box (w2.setCell ⟨w.heap.size + 1 + 1, 1, none⟩ (.slice va2 (k + 1) vc2)) (w.heap.size + 1 + 1) 42 #[.bool ok, .slice va2 (k + 1) vc2, .slice none 0 0] ∧ VOwn w.heap.size 84 5 (w2.setCell ⟨w.heap.size + 1 + 1, 1, none⟩ (.slice va2 (k + 1) vc2)) (.slice va2 (k + 1) vc2) (k + 1) (secF S)) := ⟨B2.setCell hp _, A2.other (by show w.heap.size ≠ w.heap.size + 1 + 1; omega) _, R2.other (by show w.heap.size + 1 ≠ w.heap.size + 1 + 1; omega) _, O2.set 1 _, o2.set O2 (by decide) 1 _⟩
      clear A2 R2 O2 B2 o2 g2 hne
      go_wp2_with fail
      go_roundw
      case rel => exact ⟨k + 1, by omega, by go_num, va2, vc2, HN⟩
      case measure => simp [intOf]; omega
    · obtain rfl : k = ns := by omega
      have a2 : wr.cell? ⟨w.heap.size, 2, none⟩ = some (.slice da nd dc) := HR.out.2.1.cell 2
      go_wp2_with fail
      clear a2
      go_loopw [28] (fun i ws => ∃ m : Nat, m ≤ nd ∧ i = .int .i64 m ∧ ∃ ua uc, Hid (Below w.heap.size w ws ∧ Box ws (w.heap.size + 1) 42 #[.bool false, .slice none 0 0, .slice none 0 0] ∧ Box ws (w.heap.size + 1 + 1) 42 #[.bool ok, .slice va k vc, .slice ua m uc] ∧ VOwn w.heap.size 84 5 ws (.slice va k vc) k (secF S) ∧ VOwn w.heap.size 4 1 ws (.slice ua m uc) m (boolF D))) (fun i _ => nd - (intOf i).toNat)
      case atStart => exact ⟨0, Nat.zero_le _, rfl, none, 0, HR.out.1, HR.out.2.2.1, HR.out.2.2.2.1, HR.out.2.2.2.2, VOwn.nil _ _ _ _ _⟩
      case round =>
        obtain ⟨m, hmm, rfl, ua, uc, HQ⟩ := hrel
        by_cases hlt2 : m < nd
        · obtain ⟨b, off, rfl, _, hb, hc⟩ := (HE.out.2.mono (Nat.le_refl _) HQ.out.1 (Nat.le_refl _)) (by omega)
          have c0 : wr.cell? ⟨b, off + m, none⟩ = some (.bool (D m)) := by have := hc m hlt2 0 (by omega); rwa [Nat.mul_one] at this
          have y2 : wr.cell? ⟨w.heap.size + 1 + 1, 2, none⟩ = some (.slice ua m uc) := HQ.out.2.2.1.cell 2
          have fy := HQ.out.2.2.1.free 2
          have zo : w.heap.size + 1 + 1 < wr.heap.size := HQ.out.2.2.1.lt
          have zw := HQ.out.1.size
          clear hc
          go_wp2_with (at_builtin; go_must (refine wpList_vapp _ rfl _ _ 40 rfl w.heap.size 4 i1 _ 1 1 Try.underlying40 p1 q1 r1 t1 rfl (by decide) (.slice ua m uc) m (boolF D) rfl (HQ.out.2.2.2.2.alloc _) (one_bool D) wr.heap.size 1 #[.bool (D m)] rfl (Box.new _ 4 #[.bool (D m)]) rfl (by simp only [maxLen]; omega) (by omega) (by simp; omega) (Halt.mk ?_)))
          intro v2 w2 o2 g2
          obtain ⟨ua2, uc2, rfl⟩ := o2.val
          have hne : ∀ q T vs, Box (wr.alloc (.cells #[.bool (D m)] 4)) q T vs → T ≠ 4 → Box w2 q T vs := fun q T vs hq hT => hq.grown g2 (fun e => (HQ.out.2.2.2.2.alloc _).off hq hT e rfl)
          have R2 := hne _ _ _ (HQ.out.2.1.alloc _) (by decide)
          have O2 := hne _ _ _ (HQ.out.2.2.1.alloc _) (by decide)
          have S2 := (HQ.out.2.2.2.1.alloc (.cells #[.bool (D m)] 4)).keep (w' := w2) (Nat.le_refl _) (fun g hg => g2.block g ((HQ.out.2.2.2.1.alloc (.cells #[.bool (D m)] 4)).lt hg).2 (fun e => (HQ.out.2.2.2.1.alloc (.cells #[.bool (D m)] 4)).ne (HQ.out.2.2.2.2.alloc (.cells #[.bool (D m)] 4)) (by decide) hg e.symm))
          have B2 := (HQ.out.1.alloc (by omega) (.cells #[.bool (D m)] 4)).grown g2 (by simp; omega) (fun j hj => (HQ.out.2.2.2.2.lt hj).1)
          have y2 : w2.cell? ⟨w.heap.size + 1 + 1, 2, none⟩ = some (.slice ua m uc) := O2.cell 2
          have fy := O2.free 2
          have hp : w.heap.size ≤ w.heap.size + 1 + 1 := by omega
          have HN : Hid (Below w.heap.size w (w2.setCell ⟨w.heap.size + 1 + 1, 2, none⟩ (.slice ua2 (m + 1) uc2)) ∧ Box (w2.setCell ⟨w.heap.size + 1 + 1, 2, none⟩ (.slice ua2 (m + 1) uc2)) (w.heap.size + 1) 42 #[.bool false, .slice none 0 0, .slice none 0 0] ∧ Box (w2.setCell ⟨w.heap.size + 1 + 1, 2, none⟩ (.slice ua2 (m + 1) uc2)) (w.heap.size + 1 + 1) 42 #[.bool ok, .slice va k vc, .slice ua2 (m + 1) uc2] ∧ VOwn w.heap.size 84 5 (w2.setCell ⟨w.heap.size + 1 + 1, 2, none⟩ (.slice ua2 (m + 1) uc2)) (.slice va k vc) k (secF S) ∧ VOwn w.heap.size 4 1 (w2.setCell ⟨w.heap.size + 1 + 1, 2, none⟩ (.slice ua2 (m + 1) uc2)) (.slice ua2 (m + 1) uc2) (m + 1) (boolF D)) := ⟨B2.setCell hp _, R2.other (by show w.heap.size + 1 ≠ w.heap.size + 1 + 1; omega) _, O2.set 2 _, S2.set O2 (by decide) 2 _, o2.set O2 (by decide) 2 _⟩
          clear R2 O2 B2 S2 o2 g2 hne
          go_wp2_with fail
          go_roundw
          case rel => exact ⟨m + 1, by omega, by go_num, ua2, uc2, HN⟩
          case measure => simp [intOf]; omega
        · obtain rfl : m = nd := by omega
          have o0 : wr.cell? ⟨w.heap.size + 1 + 1, 0, none⟩ = some (.bool ok) := HQ.out.2.2.1.cell 0
          have o1 : wr.cell? ⟨w.heap.size + 1 + 1, 1, none⟩ = some (.slice va k vc) := HQ.out.2.2.1.cell 1
          have o2 : wr.cell? ⟨w.heap.size + 1 + 1, 2, none⟩ = some (.slice ua m uc) := HQ.out.2.2.1.cell 2
          have r0 : wr.cell? ⟨w.heap.size + 1, 0, none⟩ = some (.bool false) := HQ.out.2.1.cell 0
          have r1 : wr.cell? ⟨w.heap.size + 1, 1, none⟩ = some (.slice none 0 0) := HQ.out.2.1.cell 1
          have r2 : wr.cell? ⟨w.heap.size + 1, 2, none⟩ = some (.slice none 0 0) := HQ.out.2.1.cell 2
          have f0 := HQ.out.2.1.free 0
          have f1 := HQ.out.2.1.free 1
          have f2 := HQ.out.2.1.free 2
          have hp : w.heap.size ≤ w.heap.size + 1 := by omega
          go_wp2_with fail
          refine bodyPost_ret (res42 Try.results54 rfl ((((HQ.out.2.1.set 0 (.bool ok)).set 1 (.slice va k vc)).set 2 (.slice ua m uc)))) rfl ⟨va, vc, ua, uc, rfl, ⟨?_, ?_⟩, ((HQ.out.1.setCell hp _).setCell hp _).setCell hp _⟩
          · exact ((HQ.out.2.2.2.1.set HQ.out.2.1 (by decide) 0 _).set (HQ.out.2.1.set 0 _) (by decide) 1 _).set ((HQ.out.2.1.set 0 _).set 1 _) (by decide) 2 _
          · exact ((HQ.out.2.2.2.2.set HQ.out.2.1 (by decide) 0 _).set (HQ.out.2.1.set 0 _) (by decide) 1 _).set ((HQ.out.2.1.set 0 _).set 1 _) (by decide) 2 _

end Go.Proofs.Ytmcaohablpaknaa
