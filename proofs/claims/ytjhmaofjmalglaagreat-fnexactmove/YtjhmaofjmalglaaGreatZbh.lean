import Derived.Test.YtjhmaofjmalglaaGreatZbg
import Derived.Test.YtjhmaofjmalglaaGreatZaz
import Derived.Deep.AppendLies
namespace Go.Proofs.YtjhmaofjmalglaaGreat
open Go.RowKit Go.Lib
def CpAt (w : World) (c : Nat) (xa : Option Addr) (m xc : Nat) (F : Nat → Nat → Value) : Prop := (m = 0 ∧ xa = none ∧ xc = 0) ∨ ∃ b off, xa = some ⟨b, off, none⟩ ∧ b < w.heap.size ∧ ∀ i, i < m → ∀ j, j < c → w.cell? ⟨b, off + i * c + j, none⟩ = some (F i j)
theorem CpAt.mono {w w' : World} {c : Nat} {xa : Option Addr} {m xc : Nat} {F : Nat → Nat → Value} (h : CpAt w c xa m xc F) (hb : Below w.heap.size w w') : CpAt w' c xa m xc F := by
 rcases h with h | ⟨b, off, h1, h2, h3⟩
 ·
  exact .inl h
 ·
  exact .inr ⟨b, off, h1, Nat.lt_of_lt_of_le h2 hb.size, fun i hi j hj => cell_keep hb h2 (h3 i hi j hj)⟩
theorem run_copy {P : Program} (w : World) (t ty e : TypeId) (i : TypeInfo) (z : Value) (c bytes : Nat) (ht : P.underlying t = some (.slice e)) (hi : P.info? e = some i) (hz : i.zero = some z) (hsize : i.size = c) (hby : i.bytes = bytes) (hzs : z.cells.size = c) (hsz : 0 < c)
  (xa : Option Addr) (m xc : Nat) (F : Nat → Nat → Value) (h1 : ∀ i j, (F i j).oneCell' = true) (hx : CpAt w c xa m xc F) (h63 : m ≤ maxLen) (hb : m * bytes ≤ 140737488355328) :
  ∃ v' w', (Builtin.append_ #[t, t] ty #[.slice none 0 0, .slice xa m xc]).run P w = .ok v' w' ∧ VOwn w.heap.size e c w' v' m F ∧ w.grownBy w' none := by
 rcases hx with ⟨rfl, rfl, rfl⟩ | ⟨b, off, rfl, hlt, hc⟩
 ·
  exact ⟨_, w, run_append_owned_none w 0 t ty e i c ht hi (.slice none 0 0) 0 [] (World.ownsRow_nil _ _ _ _), VOwn.nil _ _ _ _ _, ⟨rfl, rfl, rfl, Nat.le_refl _, fun _ _ _ => rfl⟩⟩
 ·
  obtain ⟨v', w', hr, ho, hg, _⟩ := run_append_own (P := P) w w.heap.size t ty e i z c bytes ht hi hz hsize hby hzs hsz (.slice none 0 0) 0 [] (World.ownsRow_nil _ _ _ _) ⟨b, off, none⟩ m xc (vcells c m F) (vcells_len _ _ _) (fun j u hj => by
    have hk : j < m * c := by
     by_cases e : j < m * c
     ·
      exact e
     ·
      rw [List.getElem?_eq_none (by rw [vcells_len]; omega)] at hj
      cases hj
    obtain ⟨k1, k2, k3⟩ := vcells_spot hk
    have hadd : (⟨b, off, none⟩ : Addr).add j = ⟨b, off + j, none⟩ := by unfold Addr.add; split <;> simp_all
    rw [← k3, vcells_at k1 k2] at hj
    rw [hadd, ← k3, ← Nat.add_assoc, hc _ k1 _ k2]
    exact hj) (fun u hu => by
    simp only [vcells, List.mem_flatMap, List.mem_map] at hu
    obtain ⟨i, _, j, _, rfl⟩ := hu
    exact h1 i j) (by omega) (by rw [Nat.zero_add]; exact hb) nr
  refine ⟨v', w', hr, VOwn.of_row ?_, hg⟩
  simpa using ho
theorem step_copy {P : Program} (w : World) {ops : Array Oper} {o : Oper} {a : Act} {K : Act → World → Prop} {Q : Exit → Act → World → Prop} {E : Prop} (hgd : o.guard = none) (s x : Operand) (t : TypeId)
  (ho : o.op = .call { callee := .builtin .append, args := #[s, x], argTypes := #[t, t] })
  (e : TypeId) (i : TypeInfo) (z : Value) (c bytes : Nat) (ht : P.underlying t = some (.slice e)) (hi : P.info? e = some i) (hz : i.zero = some z)
  (hsize : i.size = c) (hby : i.bytes = bytes) (hzs : z.cells.size = c) (hsz : 0 < c) (hs : a.eval s = .slice none 0 0)
  (xa : Option Addr) (m xc : Nat) (F : Nat → Nat → Value) (hx : a.eval x = .slice xa m xc) (h1 : ∀ i j, (F i j).oneCell' = true) (hc : CpAt w c xa m xc F) (h63 : m ≤ maxLen) (hb : m * bytes ≤ 140737488355328)
  (h : ∀ va vc w', VOwn w.heap.size e c w' (.slice va m vc) m F → w.grownBy w' none → K (a.put o.dst (.slice va m vc)) w') :
  if Region.wanted o (yielded ops a.tmps) = true then Oper.wp P o a w K Q else E := by
 have hw : Region.wanted o (yielded ops a.tmps) = true := by simp [Region.wanted, hgd]
 rw [if_pos hw]
 obtain ⟨v', w', hr, h2, h3⟩ := run_copy (P := P) w t o.type e i z c bytes ht hi hz hsize hby hzs hsz xa m xc F h1 hc h63 hb
 obtain ⟨va, vc, rfl⟩ := h2.val
 unfold Oper.wp execOp
 simp only [ho, resolve, invoke, builtin, Sem.run_bind, Sem.run_pure, Result.andThen_ok, List.map_toArray, List.map_cons, List.map_nil, hs, hx, hr]
 exact h va vc w' h2 h3
theorem step_vapp {P : Program} (w : World) {ops : Array Oper} {o : Oper} {a : Act} {K : Act → World → Prop} {Q : Exit → Act → World → Prop} {E : Prop} (hgd : o.guard = none) (s x : Operand) (t : TypeId)
  (ho : o.op = .call { callee := .builtin .append, args := #[s, x], argTypes := #[t, t] })
  (B : Nat) (e : TypeId) (i : TypeInfo) (z : Value) (c bytes : Nat) (ht : P.underlying t = some (.slice e)) (hi : P.info? e = some i) (hz : i.zero = some z)
  (hsize : i.size = c) (hby : i.bytes = bytes) (hzs : z.cells.size = c) (hsz : 0 < c)
  (v : Value) (n : Nat) (F : Nat → Nat → Value) (hs : a.eval s = v) (hown : VOwn B e c w v n F) (h1 : ∀ i j, (F i j).oneCell' = true)
  (q cap : Nat) (vs : Array Value) (hx : a.eval x = .slice (some ⟨q, 0, none⟩) 1 cap) (hb : Box w q e vs) (hvs : vs.toList = (List.range c).map (F n))
  (h63 : n + 1 ≤ maxLen) (hbytes : (n + 1) * bytes ≤ 140737488355328) (hbase : B ≤ w.heap.size)
  (h : ∀ g gc w', VOwn B e c w' (.slice (some ⟨g, 0, none⟩) (n + 1) gc) (n + 1) F → w.grownBy w' v.ownBlock → K (a.put o.dst (.slice (some ⟨g, 0, none⟩) (n + 1) gc)) w') :
  if Region.wanted o (yielded ops a.tmps) = true then Oper.wp P o a w K Q else E := by
 refine step_append_lies w hgd s x t ho B e i z c bytes ht hi hz hsize hby hzs hsz v n (vcells c n F) hs hown.row ⟨q, 0, none⟩ 1 cap ((List.range c).map (F n)) hx (by simp) ?_ ?_ (by omega) h63 hbytes hbase w.heap.size rfl ?_
 ·
  intro j u hj
  rw [← hvs] at hj
  have hadd : (⟨q, 0, none⟩ : Addr).add j = ⟨q, j, none⟩ := by unfold Addr.add; split <;> simp_all
  rw [hadd, hb.cell]
  simpa using hj
 ·
  intro u hu
  obtain ⟨j, _, rfl⟩ := List.mem_map.1 hu
  exact h1 _ _
 ·
  intro g gc w' ho' hg' _ _
  rw [← vcells_succ] at ho'
  exact h g gc w' (VOwn.of_row ho') hg'
theorem below_grownN {B : Nat} {a w w' : World} (h : Below B a w) (hg : w.grownBy w' none) (hB : B ≤ w.heap.size) : Below B a w' := h.grown hg hB (fun j hj => by cases hj)
theorem Box.grownN {w w' : World} {b : Nat} {T : TypeId} {vs : Array Value} (h : Box w b T vs) (hg : w.grownBy w' none) : Box w' b T vs := h.grown hg (by simp)
theorem VOwn.grownN {B : Nat} {e : TypeId} {c : Nat} {w w' : World} {v : Value} {n : Nat} {F : Nat → Nat → Value} (h : VOwn B e c w v n F) (hg : w.grownBy w' none) : VOwn B e c w' v n F := h.keep nr fun g hgg => hg.block g (h.lt hgg).2 (by simp)
theorem infoStepZ : (Tryz.prog.info? 74).map (fun i => (i.zero, i.size, i.bytes)) = some (some (.agg #[.int .i64 0, .int .i64 0]), 2, 16) := by kernel_rfl
end Go.Proofs.YtjhmaofjmalglaaGreat
namespace Go.Proofs.YtjhmaofjmalglaaGreat
open Go.RowKit Go.Lib
theorem infoPart : (Tryz.prog.info? 112).map (fun i => (i.zero, i.size, i.bytes)) = some (some (.agg #[.int .i64 0, .int .i64 0, .int .i64 0]), 3, 24) := by kernel_rfl
def pfA (ln wy a b : Int) : Int := if wy = 1 then a else ln - b
def pfB (ln wy a b : Int) : Int := if wy = 1 then b else ln - a
set_option maxRecDepth 100000 in
set_option maxHeartbeats 4000000 in
theorem part94 {v : Nv} (ok : v.Ok) {bt sb : Nat} {pa : Option Addr} {pc : Nat} {ja : Option Addr} {jc : Nat} (sp : Nat) (wy a b : Int) (w : World) (h : TkAt w bt sb v pa pc ja jc) (hspn : sp < v.n) (hw : wy = 1 ∨ wy = -1) (ha : 0 ≤ a ∧ a ≤ 10000000) (hb0 : 0 ≤ b ∧ b ≤ 10000000) :
  Calls Tryz.prog 137 #[.pointer (some ⟨bt, 0, none⟩), .agg #[.int .i64 (sp : Int), .int .i64 wy], .int .i64 a, .int .i64 b] w fun e w' => e = .returned (.agg #[.int .i64 (sp : Int), .int .i64 (pfA (v.P sp).ln wy a b), .int .i64 (pfB (v.P sp).ln wy a b)]) ∧ Below w.heap.size w w' := by
 have hl := ok.ln sp hspn
 have H : Hid (v.Ok ∧ TkAt w bt sb v pa pc ja jc) := ⟨ok, h⟩
 clear ok h
 rcases hw with rfl | rfl
 ·
  go_enter Tryz.func137, Tryz.ntmps137
  go_wp2_with fail
  exact bodyPost_ret (v := .agg #[.int .i64 (sp : Int), .int .i64 a, .int .i64 b]) (by simp [results, Tryz.results137, go_sem]) rfl ⟨rfl, bel2 _ _ _⟩
 ·
  have hwa : IntKind.i64.wrap ((v.P sp).ln - a) = (v.P sp).ln - a := by rw [IntKind.wrap_i64]; omega
  have hwb : IntKind.i64.wrap ((v.P sp).ln - b) = (v.P sp).ln - b := by rw [IntKind.wrap_i64]; omega
  have S0 : Hid (Below w.heap.size w ((w.alloc (.cells #[.int .i64 (sp : Int), .int .i64 (-1)] 74)).alloc (.cells #[.int .i64 0, .int .i64 0, .int .i64 0] 112)) ∧ Box ((w.alloc (.cells #[.int .i64 (sp : Int), .int .i64 (-1)] 74)).alloc (.cells #[.int .i64 0, .int .i64 0, .int .i64 0] 112)) (w.heap.size) 74 #[.int .i64 (sp : Int), .int .i64 (-1)] ∧ Box ((w.alloc (.cells #[.int .i64 (sp : Int), .int .i64 (-1)] 74)).alloc (.cells #[.int .i64 0, .int .i64 0, .int .i64 0] 112)) (w.heap.size + 1) 112 #[.int .i64 0, .int .i64 0, .int .i64 0]) := ⟨bel2 _ _ _, (Box.new _ _ _).alloc _, by have := Box.new (w.alloc (.cells #[.int .i64 (sp : Int), .int .i64 (-1)] 74)) 112 #[.int .i64 0, .int .i64 0, .int .i64 0]; simpa using this⟩
  go_enter Tryz.func137, Tryz.ntmps137
  go_upto_region 3 with fail
  generalize ((w.alloc (.cells #[.int .i64 (sp : Int), .int .i64 (-1)] 74)).alloc (.cells #[.int .i64 0, .int .i64 0, .int .i64 0] 112)) = V0 at S0 ⊢
  have MD : Hid (Below w.heap.size w V0.drew ∧ Box V0.drew (w.heap.size) 74 #[.int .i64 (sp : Int), .int .i64 (-1)] ∧ Box V0.drew (w.heap.size + 1) 112 #[.int .i64 0, .int .i64 0, .int .i64 0]) := ⟨S0.out.1.drew, S0.out.2.1.drew, S0.out.2.2.drew⟩
  have a0 := S0.out.2.1.cel 0
  have a1 := S0.out.2.1.cel 1
  have b0 := S0.out.2.2.cel 0
  have b1 := S0.out.2.2.cel 1
  have b2 := S0.out.2.2.cel 2
  go_wp2_with fail
  refine wp_region_held_drew (S := (fun wx : World => wx.cell? ⟨w.heap.size, 0, none⟩ = some (.int .i64 (sp : Int)) ∧ wx.cell? ⟨w.heap.size, 1, none⟩ = some (.int .i64 (-1)))) (by kernel_rfl) ?_ (fun hHeld => ?_)
  ·
   exact ⟨a0, a1⟩
  refine tk 0 ?_
  refine tk 1 ?_
  refine tk 2 ?_
  refine tk 3 ?_
  refine tk 5 ?_
  refine tk 7 ?_
  refine tk 8 ?_
  refine tk 10 ?_
  refine rl 4 fun K hK => ?_
  go_simp
  refine (long99 H.out.1 sp (-1) _ (H.out.2.mono MD.out.1 nr) hspn).mono ?_
  rintro e w1 ⟨rfl, hb⟩
  have M1 : Hid (Below w.heap.size w w1 ∧ Box w1 (w.heap.size) 74 #[.int .i64 (sp : Int), .int .i64 (-1)] ∧ Box w1 (w.heap.size + 1) 112 #[.int .i64 0, .int .i64 0, .int .i64 0]) := ⟨MD.out.1.trans (hb.mono MD.out.1.size), MD.out.2.1.mono hb nr, MD.out.2.2.mono hb nr⟩
  clear hb
  go_wp2_with fail
  refine hK.out _ _ ?_ (fun hHeld4 => ?_)
  ·
   exact ⟨M1.out.2.1.cell 0, M1.out.2.1.cell 1⟩
  clear hK K
  refine tk 6 ?_
  refine rl 9 fun K hK => ?_
  go_simp
  refine (long99 H.out.1 sp (-1) _ (H.out.2.mono M1.out.1 nr) hspn).mono ?_
  rintro e w2 ⟨rfl, hb⟩
  have M2 : Hid (Below w.heap.size w w2 ∧ Box w2 (w.heap.size) 74 #[.int .i64 (sp : Int), .int .i64 (-1)] ∧ Box w2 (w.heap.size + 1) 112 #[.int .i64 0, .int .i64 0, .int .i64 0]) := ⟨M1.out.1.trans (hb.mono M1.out.1.size), M1.out.2.1.mono hb nr, M1.out.2.2.mono hb nr⟩
  clear hb
  go_wp2_with fail
  refine hK.out _ _ ?_ (fun hHeld9 => ?_)
  ·
   exact ⟨M2.out.2.1.cell 0, M2.out.2.1.cell 1⟩
  clear hK K
  refine tk 11 ?_
  refine tk 12 ?_
  refine rl 13 fun K hK => ?_
  have z0 := M2.out.2.2.cel 0
  have z1 := M2.out.2.2.cel 1
  have z2 := M2.out.2.2.cel 2
  have q0 := M2.out.2.2.free 0
  have q1 := M2.out.2.2.free 1
  have q2 := M2.out.2.2.free 2
  have e1 : w.heap.size ≠ w.heap.size + 1 := by omega
  have M4 : Hid (Below w.heap.size w (((w2.setCell ⟨w.heap.size + 1, 0, none⟩ (.int .i64 (sp : Int))).setCell ⟨w.heap.size + 1, 1, none⟩ (.int .i64 ((v.P sp).ln - b))).setCell ⟨w.heap.size + 1, 2, none⟩ (.int .i64 ((v.P sp).ln - a))) ∧ Box (((w2.setCell ⟨w.heap.size + 1, 0, none⟩ (.int .i64 (sp : Int))).setCell ⟨w.heap.size + 1, 1, none⟩ (.int .i64 ((v.P sp).ln - b))).setCell ⟨w.heap.size + 1, 2, none⟩ (.int .i64 ((v.P sp).ln - a))) (w.heap.size) 74 #[.int .i64 (sp : Int), .int .i64 (-1)] ∧ Box (((w2.setCell ⟨w.heap.size + 1, 0, none⟩ (.int .i64 (sp : Int))).setCell ⟨w.heap.size + 1, 1, none⟩ (.int .i64 ((v.P sp).ln - b))).setCell ⟨w.heap.size + 1, 2, none⟩ (.int .i64 ((v.P sp).ln - a))) (w.heap.size + 1) 112 #[.int .i64 (sp : Int), .int .i64 ((v.P sp).ln - b), .int .i64 ((v.P sp).ln - a)]) := ⟨(((M2.out.1.setCell (Nat.le_add_right _ 1) _).setCell (Nat.le_add_right _ 1) _).setCell (Nat.le_add_right _ 1) _), (((M2.out.2.1.other e1 _).other e1 _).other e1 _), (((M2.out.2.2.set 0 (.int .i64 (sp : Int))).set 1 (.int .i64 ((v.P sp).ln - b))).set 2 (.int .i64 ((v.P sp).ln - a)))⟩
  go_simp
  refine hK.out _ _ ?_ (fun hHeld13 => ?_)
  ·
   exact ⟨M4.out.2.1.cell 0, M4.out.2.1.cell 1⟩
  clear hK K
  refine wpAnyH_done (by kernel_rfl) ?_ _
  clear a0 a1 b0 b1 b2 z0 z1 z2 q0 q1 q2 S0 MD M1 M2
  generalize (((w2.setCell ⟨w.heap.size + 1, 0, none⟩ (.int .i64 (sp : Int))).setCell ⟨w.heap.size + 1, 1, none⟩ (.int .i64 ((v.P sp).ln - b))).setCell ⟨w.heap.size + 1, 2, none⟩ (.int .i64 ((v.P sp).ln - a))) = W9 at M4 ⊢
  have z0 := M4.out.2.2.cel 0
  have z1 := M4.out.2.2.cel 1
  have z2 := M4.out.2.2.cel 2
  go_wp2_with fail
  exact bodyPost_ret (v := .agg #[.int .i64 (sp : Int), .int .i64 ((v.P sp).ln - b), .int .i64 ((v.P sp).ln - a)]) (by simp [results, Tryz.results137, go_sem, z0, z1, z2]) rfl ⟨rfl, M4.out.1⟩
end Go.Proofs.YtjhmaofjmalglaaGreat
