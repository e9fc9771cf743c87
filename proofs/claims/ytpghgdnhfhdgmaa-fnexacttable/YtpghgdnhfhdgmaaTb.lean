import Derived.Test.YtpghgdnhfhdgmaaCa
import Derived.Test.YtpghgdnhfhdgmaaMs
namespace Go.Proofs.Ytpghgdnhfhdgmaa
open Go.RowKit

/-- claims in a row -/
def CsAt (w : World) (a : Option Addr) (n : Nat) (R : Nat → Rt) (c : Nat → Cm) : Prop :=
  0 < n → ∃ b off, a = some ⟨b, off, none⟩ ∧ b < w.heap.size ∧ ∀ i, i < n → (w.cell? ⟨b, off + i * 12, none⟩ = some (.slice (c i).qa (R i).np (c i).qc) ∧ w.cell? ⟨b, off + i * 12 + 1, none⟩ = some (.int .u64 ((c i).p1 : Int)) ∧ w.cell? ⟨b, off + i * 12 + 2, none⟩ = some (.int .u64 ((c i).p2 : Int)) ∧ w.cell? ⟨b, off + i * 12 + 3, none⟩ = some (.slice (c i).oa (R i).no (c i).oc) ∧ w.cell? ⟨b, off + i * 12 + 4, none⟩ = some (.int .u64 ((c i).o1 : Int)) ∧ w.cell? ⟨b, off + i * 12 + 5, none⟩ = some (.int .u64 ((c i).o2 : Int)) ∧ w.cell? ⟨b, off + i * 12 + 6, none⟩ = some (.slice (c i).xa (R i).nx (c i).xc) ∧ w.cell? ⟨b, off + i * 12 + 7, none⟩ = some (.int .u64 ((c i).x1 : Int)) ∧ w.cell? ⟨b, off + i * 12 + 8, none⟩ = some (.int .u64 ((c i).x2 : Int)) ∧ w.cell? ⟨b, off + i * 12 + 9, none⟩ = some (.slice (c i).na (ndR (R i)).length (c i).nc) ∧ w.cell? ⟨b, off + i * 12 + 10, none⟩ = some (.int .u64 ((c i).n1 : Int)) ∧ w.cell? ⟨b, off + i * 12 + 11, none⟩ = some (.int .u64 ((c i).n2 : Int))) ∧ ClAt w (R i) (c i)
theorem CsAt.mono {w w' : World} {a : Option Addr} {n : Nat} {R : Nat → Rt} {c : Nat → Cm} {B : Nat} (h : CsAt w a n R c) (hb : Below B w w') (hB : w.heap.size ≤ B) : CsAt w' a n R c := by
  intro h0
  obtain ⟨b, off, h1, h2, h3⟩ := h h0
  refine ⟨b, off, h1, Nat.lt_of_lt_of_le h2 hb.size, fun i hi => ?_⟩
  obtain ⟨⟨k0, k1, k2, k3, k4, k5, k6, k7, k8, k9, k10, k11⟩, h4⟩ := h3 i hi
  have e := fun o => hb.cell (p := ⟨b, o, none⟩) (show b < B by omega)
  exact ⟨⟨(e _).trans k0, (e _).trans k1, (e _).trans k2, (e _).trans k3, (e _).trans k4, (e _).trans k5, (e _).trans k6, (e _).trans k7, (e _).trans k8, (e _).trans k9, (e _).trans k10, (e _).trans k11⟩, h4.mono hb hB⟩
theorem infoInts : (Try.prog.info? 24).map (fun i => (i.zero, i.size, i.bytes)) = some (some (.slice none 0 0), 1, 24) := by kernel_rfl

/-- the rows that are made -/
def TbTo (w : World) (B n k : Nat) (T : Nat → Nat → Int) (r : Nat → Nat) : Prop :=
  ∃ vs : Array Value, Box w B 24 vs ∧ vs.size = n ∧ ∀ i, i < k → vs[i]? = some (.slice (some ⟨r i, 0, none⟩) n n) ∧ Own (r i) 3 1 w (.slice (some ⟨r i, 0, none⟩) n n) (lsF 1 n (fun q _ => T i q)) ∧ B < r i ∧ ∀ j, j < i → r j < r i
theorem TbTo.step {w w' : World} {B n k : Nat} {T : Nat → Nat → Int} {r : Nat → Nat} {vs : Array Value} {p : Nat} (h : TbTo w B n k T r) (hk : k < n) (hB : Box w B 24 vs) (hB' : Box w' B 24 (vs.setIfInBounds k (.slice (some ⟨p, 0, none⟩) n n))) (hp : w.heap.size ≤ p) (ho : Own p 3 1 w' (.slice (some ⟨p, 0, none⟩) n n) (lsF 1 n (fun q _ => T k q)))
    (hkeep : ∀ g, g < w.heap.size → g ≠ B → w'.heap[g]? = w.heap[g]?) : TbTo w' B n (k + 1) T (fun i => if i < k then r i else p) := by
  obtain ⟨vs', h1, h2, h3⟩ := h
  have hv : vs' = vs := by
    have e1 : w.heap[B]? = some (.cells vs' 24 (0, 0)) := h1
    have e2 : w.heap[B]? = some (.cells vs 24 (0, 0)) := hB
    rw [e1] at e2
    simp only [Option.some.injEq, Obj.cells.injEq] at e2
    exact e2.1
  subst hv
  have hBl := h1.lt
  refine ⟨_, hB', by simp [h2], fun i hi => ?_⟩
  by_cases e : i = k
  · subst e
    simp only [Nat.lt_irrefl, if_false]
    refine ⟨by simp [h2, hk], ho, by omega, fun j hj => ?_⟩
    rw [if_pos hj]
    have := (h3 j hj).2.1.lt0
    omega
  · have hik : i < k := by omega
    obtain ⟨a1, a2, a3, a4⟩ := h3 i hik
    simp only [hik, if_true]
    refine ⟨by simp only [Array.getElem?_setIfInBounds, show ¬ k = i by omega, if_false]; exact a1, a2.keep (Nat.le_refl _) (fun g hg => hkeep g (a2.lt hg).2 (by simp only [Value.ownBlock, Option.some.injEq] at hg; omega)), a3, fun j hj => ?_⟩
    rw [if_pos (by omega)]
    exact a4 j hj

set_option maxRecDepth 100000 in
set_option maxHeartbeats 16000000 in
theorem table49 (a : Option Addr) (n cap : Nat) (R : Nat → Rt) (c : Nat → Cm) (w : World) (hn : n ≤ 300) (hs : ∀ i, i < n → (R i).small ∧ (R i).nl + (R i).nf ≤ 1048576) (hC : CsAt w a n R c) (hO : ∀ i, i < n → ClOk (R i) (c i)) :
    Calls Try.prog 49 #[.slice a n cap, .func (.func 48) #[] #[]] w fun e w' => ∃ b r, e = .returned (.slice (some ⟨b, 0, none⟩) n n) ∧ SsOwn w.heap.size w' (some ⟨b, 0, none⟩) n n (fun i k => exF (R i) (R k)) r ∧ Below w.heap.size w w' := by
  have HS : Hid (∀ i, i < n → (R i).small ∧ (R i).nl + (R i).nf ≤ 1048576) := hs
  have HO : Hid (∀ i, i < n → ClOk (R i) (c i)) := hO
  have HC : Hid (CsAt w a n R c) := hC
  have hmk := make_rows (P := Try.prog) 47 24 _ 24 1 Try.underlying47 infoInts n (by omega) (by omega)
  have hmk3 := make_rows (P := Try.prog) 24 3 _ 8 1 Try.underlying24 infoInt n (by omega) (by omega)
  rw [Nat.mul_one] at hmk hmk3
  clear hs hO hC
  go_enter Try.func49, Try.ntmps49
  go_wp2_with fail
  go_loopw [15] (fun i wr => ∃ (k : Nat) (r : Nat → Nat), k ≤ n ∧ i = .int .i64 k ∧ Hid (TbTo wr w.heap.size n k (fun i k => exF (R i) (R k)) r) ∧ Below w.heap.size w wr) (fun i _ => n - (intOf i).toNat)
  case atStart => exact ⟨0, fun _ => 0, Nat.zero_le _, rfl, ⟨_, Box.new w 24 _, size_madeCells _ _, fun i hi => absurd hi (Nat.not_lt_zero _)⟩, bel1 _ _⟩
  case round =>
    obtain ⟨k, r, hk, rfl, HT, hbel⟩ := hrel
    obtain ⟨wq, hwq⟩ : ∃ wq, wq = wr := ⟨_, rfl⟩
    subst hwq
    by_cases hlt : k < n
    · obtain ⟨b, off, rfl, hb, hc⟩ := (HC.out.mono hbel (Nat.le_refl _)) (by omega)
      obtain ⟨⟨c0, c1, c2, c3, c4, c5, c6, c7, c8, c9, c10, c11⟩, hcl⟩ := hc k hlt
      obtain ⟨vs, hv1, hv2, hv3⟩ := HT.out
      have x0 : wq.cell? ⟨w.heap.size, k, none⟩ = some (vs[k]'(by omega)) := (hv1.cell k).trans (Array.getElem?_eq_getElem _)
      have x1 := hv1.free k
      have hBl := hv1.lt
      have hzw := hbel.size
      have HV1 : Hid (Box wq w.heap.size 24 vs) := hv1
      have HV2 : Hid (vs.size = n) := hv2
      generalize vs[k]'(by omega) = vk at x0
      clear hc hv1 hv2 hv3 hcl
      go_wp2_with fail
      have hsz5 : (wq.setCell ⟨w.heap.size, k, none⟩ (.slice (some ⟨wq.heap.size + 1, 0, none⟩) n n)).heap.size = wq.heap.size := size_setc _ _ _
      have hB5 : Below w.heap.size w (((wq.setCell ⟨w.heap.size, k, none⟩ (.slice (some ⟨wq.heap.size + 1, 0, none⟩) n n)).alloc (.cells #[.slice (c k).qa (R k).np (c k).qc, .int .u64 ((c k).p1 : Int), .int .u64 ((c k).p2 : Int), .slice (c k).oa (R k).no (c k).oc, .int .u64 ((c k).o1 : Int), .int .u64 ((c k).o2 : Int), .slice (c k).xa (R k).nx (c k).xc, .int .u64 ((c k).x1 : Int), .int .u64 ((c k).x2 : Int), .slice (c k).na (ndR (R k)).length (c k).nc, .int .u64 ((c k).n1 : Int), .int .u64 ((c k).n2 : Int)] 90)).alloc (.cells (mk0 (.int .i64 0) n) 3)) := ((hbel.setCell (Nat.le_refl _) _).alloc (by rw [hsz5]; omega) _).alloc (by simp [hsz5]; omega) _
      have hV5 : Box (((wq.setCell ⟨w.heap.size, k, none⟩ (.slice (some ⟨wq.heap.size + 1, 0, none⟩) n n)).alloc (.cells #[.slice (c k).qa (R k).np (c k).qc, .int .u64 ((c k).p1 : Int), .int .u64 ((c k).p2 : Int), .slice (c k).oa (R k).no (c k).oc, .int .u64 ((c k).o1 : Int), .int .u64 ((c k).o2 : Int), .slice (c k).xa (R k).nx (c k).xc, .int .u64 ((c k).x1 : Int), .int .u64 ((c k).x2 : Int), .slice (c k).na (ndR (R k)).length (c k).nc, .int .u64 ((c k).n1 : Int), .int .u64 ((c k).n2 : Int)] 90)).alloc (.cells (mk0 (.int .i64 0) n) 3)) w.heap.size 24 (vs.setIfInBounds k (.slice (some ⟨wq.heap.size + 1, 0, none⟩) n n)) := ((HV1.out.set k _).alloc _).alloc _
      have hX5 : Box (((wq.setCell ⟨w.heap.size, k, none⟩ (.slice (some ⟨wq.heap.size + 1, 0, none⟩) n n)).alloc (.cells #[.slice (c k).qa (R k).np (c k).qc, .int .u64 ((c k).p1 : Int), .int .u64 ((c k).p2 : Int), .slice (c k).oa (R k).no (c k).oc, .int .u64 ((c k).o1 : Int), .int .u64 ((c k).o2 : Int), .slice (c k).xa (R k).nx (c k).xc, .int .u64 ((c k).x1 : Int), .int .u64 ((c k).x2 : Int), .slice (c k).na (ndR (R k)).length (c k).nc, .int .u64 ((c k).n1 : Int), .int .u64 ((c k).n2 : Int)] 90)).alloc (.cells (mk0 (.int .i64 0) n) 3)) wq.heap.size 90 #[.slice (c k).qa (R k).np (c k).qc, .int .u64 ((c k).p1 : Int), .int .u64 ((c k).p2 : Int), .slice (c k).oa (R k).no (c k).oc, .int .u64 ((c k).o1 : Int), .int .u64 ((c k).o2 : Int), .slice (c k).xa (R k).nx (c k).xc, .int .u64 ((c k).x1 : Int), .int .u64 ((c k).x2 : Int), .slice (c k).na (ndR (R k)).length (c k).nc, .int .u64 ((c k).n1 : Int), .int .u64 ((c k).n2 : Int)] := by
        have := (Box.new (wq.setCell ⟨w.heap.size, k, none⟩ (.slice (some ⟨wq.heap.size + 1, 0, none⟩) n n)) 90 #[.slice (c k).qa (R k).np (c k).qc, .int .u64 ((c k).p1 : Int), .int .u64 ((c k).p2 : Int), .slice (c k).oa (R k).no (c k).oc, .int .u64 ((c k).o1 : Int), .int .u64 ((c k).o2 : Int), .slice (c k).xa (R k).nx (c k).xc, .int .u64 ((c k).x1 : Int), .int .u64 ((c k).x2 : Int), .slice (c k).na (ndR (R k)).length (c k).nc, .int .u64 ((c k).n1 : Int), .int .u64 ((c k).n2 : Int)]).alloc (.cells (mk0 (.int .i64 0) n) 3)
        rwa [hsz5] at this
      have hN5 : NsTo 1 3 (((wq.setCell ⟨w.heap.size, k, none⟩ (.slice (some ⟨wq.heap.size + 1, 0, none⟩) n n)).alloc (.cells #[.slice (c k).qa (R k).np (c k).qc, .int .u64 ((c k).p1 : Int), .int .u64 ((c k).p2 : Int), .slice (c k).oa (R k).no (c k).oc, .int .u64 ((c k).o1 : Int), .int .u64 ((c k).o2 : Int), .slice (c k).xa (R k).nx (c k).xc, .int .u64 ((c k).x1 : Int), .int .u64 ((c k).x2 : Int), .slice (c k).na (ndR (R k)).length (c k).nc, .int .u64 ((c k).n1 : Int), .int .u64 ((c k).n2 : Int)] 90)).alloc (.cells (mk0 (.int .i64 0) n) 3)) (wq.heap.size + 1) n 0 (fun q _ => exF (R k) (R q)) := by
        have h9 := NsTo.new 1 3 ((wq.setCell ⟨w.heap.size, k, none⟩ (.slice (some ⟨wq.heap.size + 1, 0, none⟩) n n)).alloc (.cells #[.slice (c k).qa (R k).np (c k).qc, .int .u64 ((c k).p1 : Int), .int .u64 ((c k).p2 : Int), .slice (c k).oa (R k).no (c k).oc, .int .u64 ((c k).o1 : Int), .int .u64 ((c k).o2 : Int), .slice (c k).xa (R k).nx (c k).xc, .int .u64 ((c k).x1 : Int), .int .u64 ((c k).x2 : Int), .slice (c k).na (ndR (R k)).length (c k).nc, .int .u64 ((c k).n1 : Int), .int .u64 ((c k).n2 : Int)] 90)) (.int .i64 0) n (fun q _ => exF (R k) (R q))
        rw [Nat.mul_one] at h9
        have h10 : ((wq.setCell ⟨w.heap.size, k, none⟩ (.slice (some ⟨wq.heap.size + 1, 0, none⟩) n n)).alloc (.cells #[.slice (c k).qa (R k).np (c k).qc, .int .u64 ((c k).p1 : Int), .int .u64 ((c k).p2 : Int), .slice (c k).oa (R k).no (c k).oc, .int .u64 ((c k).o1 : Int), .int .u64 ((c k).o2 : Int), .slice (c k).xa (R k).nx (c k).xc, .int .u64 ((c k).x1 : Int), .int .u64 ((c k).x2 : Int), .slice (c k).na (ndR (R k)).length (c k).nc, .int .u64 ((c k).n1 : Int), .int .u64 ((c k).n2 : Int)] 90)).heap.size = wq.heap.size + 1 := by simp [hsz5]
        rwa [h10] at h9
      have hK5 : ∀ g, g < wq.heap.size → g ≠ w.heap.size → (((wq.setCell ⟨w.heap.size, k, none⟩ (.slice (some ⟨wq.heap.size + 1, 0, none⟩) n n)).alloc (.cells #[.slice (c k).qa (R k).np (c k).qc, .int .u64 ((c k).p1 : Int), .int .u64 ((c k).p2 : Int), .slice (c k).oa (R k).no (c k).oc, .int .u64 ((c k).o1 : Int), .int .u64 ((c k).o2 : Int), .slice (c k).xa (R k).nx (c k).xc, .int .u64 ((c k).x1 : Int), .int .u64 ((c k).x2 : Int), .slice (c k).na (ndR (R k)).length (c k).nc, .int .u64 ((c k).n1 : Int), .int .u64 ((c k).n2 : Int)] 90)).alloc (.cells (mk0 (.int .i64 0) n) 3)).heap[g]? = wq.heap[g]? := fun g h7 h8 => by
        rw [Below.heap_alloc _ _ _ (by simp [hsz5]; omega), Below.heap_alloc _ _ _ (by rw [hsz5]; exact h7), Below.heap_setCell _ _ _ _ h8]
      have hz5 : wq.heap.size + 1 + 1 ≤ (((wq.setCell ⟨w.heap.size, k, none⟩ (.slice (some ⟨wq.heap.size + 1, 0, none⟩) n n)).alloc (.cells #[.slice (c k).qa (R k).np (c k).qc, .int .u64 ((c k).p1 : Int), .int .u64 ((c k).p2 : Int), .slice (c k).oa (R k).no (c k).oc, .int .u64 ((c k).o1 : Int), .int .u64 ((c k).o2 : Int), .slice (c k).xa (R k).nx (c k).xc, .int .u64 ((c k).x1 : Int), .int .u64 ((c k).x2 : Int), .slice (c k).na (ndR (R k)).length (c k).nc, .int .u64 ((c k).n1 : Int), .int .u64 ((c k).n2 : Int)] 90)).alloc (.cells (mk0 (.int .i64 0) n) 3)).heap.size := by simp [hsz5]
      clear hsz5
      clear c0 c1 c2 c3 c4 c5 c6 c7 c8 c9 c10 c11 x0 x1
      go_loopw [28] (fun i wr => ∃ (q : Nat), q ≤ n ∧ i = .int .i64 q ∧ Hid (NsTo 1 3 wr (wq.heap.size + 1) n q (fun p _ => exF (R k) (R p))) ∧ Hid (Box wr w.heap.size 24 (vs.setIfInBounds k (.slice (some ⟨wq.heap.size + 1, 0, none⟩) n n))) ∧ Hid (Box wr wq.heap.size 90 #[.slice (c k).qa (R k).np (c k).qc, .int .u64 ((c k).p1 : Int), .int .u64 ((c k).p2 : Int), .slice (c k).oa (R k).no (c k).oc, .int .u64 ((c k).o1 : Int), .int .u64 ((c k).o2 : Int), .slice (c k).xa (R k).nx (c k).xc, .int .u64 ((c k).x1 : Int), .int .u64 ((c k).x2 : Int), .slice (c k).na (ndR (R k)).length (c k).nc, .int .u64 ((c k).n1 : Int), .int .u64 ((c k).n2 : Int)]) ∧ Hid (∀ g, g < wq.heap.size → g ≠ w.heap.size → wr.heap[g]? = wq.heap[g]?) ∧ wq.heap.size + 1 + 1 ≤ wr.heap.size ∧ Below w.heap.size w wr) (fun i _ => n - (intOf i).toNat)
      case atStart => exact ⟨0, Nat.zero_le _, rfl, hN5, hV5, hX5, hK5, hz5, hB5⟩
      case round =>
        obtain ⟨q, hq, rfl, HN, HV, HX, HKp, hzi, hbi⟩ := hrel
        clear hB5 hV5 hX5 hN5 hK5 hz5
        by_cases hlq : q < n
        · obtain ⟨b, off, he, hb, hc⟩ := (HC.out.mono hbi (Nat.le_refl _)) (by omega)
          simp only [Option.some.injEq, Addr.mk.injEq, and_true] at he
          obtain ⟨rfl, rfl⟩ := he
          obtain ⟨⟨c0, c1, c2, c3, c4, c5, c6, c7, c8, c9, c10, c11⟩, _⟩ := hc q hlq
          have hcl2 : Hid (ClAt wr (R q) (c q)) := (hc q hlq).2
          have hcl1 : Hid (ClAt wr (R k) (c k)) := (hc k hlt).2
          have x0 : wr.cell? ⟨w.heap.size, k, none⟩ = some (.slice (some ⟨wq.heap.size + 1, 0, none⟩) n n) := (HV.out.cell k).trans (by simp [HV2.out, hlt])
          obtain ⟨u0, u1, u2, u3, u4, u5, u6, u7, u8, u9, u10, u11⟩ := HX.out.twelve
          have hxl := HX.out.lt
          have hvl := HV.out.lt
          have hlt' : (k : Int) < (n : Int) := by omega
          have hlq' : (q : Int) < (n : Int) := by omega
          have ne1 : ¬ w.heap.size = wq.heap.size + 1 := by omega
          have ne2 : ¬ wq.heap.size + 1 = w.heap.size := by omega
          have ne3 : ¬ wr.heap.size = wq.heap.size + 1 := by omega
          have ne4 : ¬ wq.heap.size + 1 = wr.heap.size := by omega
          clear hc
          have HBX : Hid (Below wr.heap.size wr (wr.alloc (.cells #[.slice (c q).qa (R q).np (c q).qc, .int .u64 ((c q).p1 : Int), .int .u64 ((c q).p2 : Int), .slice (c q).oa (R q).no (c q).oc, .int .u64 ((c q).o1 : Int), .int .u64 ((c q).o2 : Int), .slice (c q).xa (R q).nx (c q).xc, .int .u64 ((c q).x1 : Int), .int .u64 ((c q).x2 : Int), .slice (c q).na (ndR (R q)).length (c q).nc, .int .u64 ((c q).n1 : Int), .int .u64 ((c q).n2 : Int)] 90)).drew) := (bel1 wr _).drew
          have HXa : Hid (Box (wr.alloc (.cells #[.slice (c q).qa (R q).np (c q).qc, .int .u64 ((c q).p1 : Int), .int .u64 ((c q).p2 : Int), .slice (c q).oa (R q).no (c q).oc, .int .u64 ((c q).o1 : Int), .int .u64 ((c q).o2 : Int), .slice (c q).xa (R q).nx (c q).xc, .int .u64 ((c q).x1 : Int), .int .u64 ((c q).x2 : Int), .slice (c q).na (ndR (R q)).length (c q).nc, .int .u64 ((c q).n1 : Int), .int .u64 ((c q).n2 : Int)] 90)).drew wq.heap.size 90 #[.slice (c k).qa (R k).np (c k).qc, .int .u64 ((c k).p1 : Int), .int .u64 ((c k).p2 : Int), .slice (c k).oa (R k).no (c k).oc, .int .u64 ((c k).o1 : Int), .int .u64 ((c k).o2 : Int), .slice (c k).xa (R k).nx (c k).xc, .int .u64 ((c k).x1 : Int), .int .u64 ((c k).x2 : Int), .slice (c k).na (ndR (R k)).length (c k).nc, .int .u64 ((c k).n1 : Int), .int .u64 ((c k).n2 : Int)]) := (HX.out.alloc _).drew
          have HYa : Hid (Box (wr.alloc (.cells #[.slice (c q).qa (R q).np (c q).qc, .int .u64 ((c q).p1 : Int), .int .u64 ((c q).p2 : Int), .slice (c q).oa (R q).no (c q).oc, .int .u64 ((c q).o1 : Int), .int .u64 ((c q).o2 : Int), .slice (c q).xa (R q).nx (c q).xc, .int .u64 ((c q).x1 : Int), .int .u64 ((c q).x2 : Int), .slice (c q).na (ndR (R q)).length (c q).nc, .int .u64 ((c q).n1 : Int), .int .u64 ((c q).n2 : Int)] 90)).drew wr.heap.size 90 #[.slice (c q).qa (R q).np (c q).qc, .int .u64 ((c q).p1 : Int), .int .u64 ((c q).p2 : Int), .slice (c q).oa (R q).no (c q).oc, .int .u64 ((c q).o1 : Int), .int .u64 ((c q).o2 : Int), .slice (c q).xa (R q).nx (c q).xc, .int .u64 ((c q).x1 : Int), .int .u64 ((c q).x2 : Int), .slice (c q).na (ndR (R q)).length (c q).nc, .int .u64 ((c q).n1 : Int), .int .u64 ((c q).n2 : Int)]) := (Box.new wr 90 _).drew
          have HVa : Hid (Box (wr.alloc (.cells #[.slice (c q).qa (R q).np (c q).qc, .int .u64 ((c q).p1 : Int), .int .u64 ((c q).p2 : Int), .slice (c q).oa (R q).no (c q).oc, .int .u64 ((c q).o1 : Int), .int .u64 ((c q).o2 : Int), .slice (c q).xa (R q).nx (c q).xc, .int .u64 ((c q).x1 : Int), .int .u64 ((c q).x2 : Int), .slice (c q).na (ndR (R q)).length (c q).nc, .int .u64 ((c q).n1 : Int), .int .u64 ((c q).n2 : Int)] 90)).drew w.heap.size 24 (vs.setIfInBounds k (.slice (some ⟨wq.heap.size + 1, 0, none⟩) n n))) := (HV.out.alloc _).drew
          have HNa : Hid (NsTo 1 3 (wr.alloc (.cells #[.slice (c q).qa (R q).np (c q).qc, .int .u64 ((c q).p1 : Int), .int .u64 ((c q).p2 : Int), .slice (c q).oa (R q).no (c q).oc, .int .u64 ((c q).o1 : Int), .int .u64 ((c q).o2 : Int), .slice (c q).xa (R q).nx (c q).xc, .int .u64 ((c q).x1 : Int), .int .u64 ((c q).x2 : Int), .slice (c q).na (ndR (R q)).length (c q).nc, .int .u64 ((c q).n1 : Int), .int .u64 ((c q).n2 : Int)] 90)).drew (wq.heap.size + 1) n q (fun p _ => exF (R k) (R p))) := HN.out.below HBX.out
          go_wp2_with fail
          go_region_held3 (fun w' => w'.cell? ⟨w.heap.size, k, none⟩ = some (.slice (some ⟨wq.heap.size + 1, 0, none⟩) n n) ∧ (w'.cell? ⟨wq.heap.size, 0, none⟩ = some (.slice (c k).qa (R k).np (c k).qc) ∧ w'.cell? ⟨wq.heap.size, 1, none⟩ = some (.int .u64 ((c k).p1 : Int)) ∧ w'.cell? ⟨wq.heap.size, 2, none⟩ = some (.int .u64 ((c k).p2 : Int)) ∧ w'.cell? ⟨wq.heap.size, 3, none⟩ = some (.slice (c k).oa (R k).no (c k).oc) ∧ w'.cell? ⟨wq.heap.size, 4, none⟩ = some (.int .u64 ((c k).o1 : Int)) ∧ w'.cell? ⟨wq.heap.size, 5, none⟩ = some (.int .u64 ((c k).o2 : Int)) ∧ w'.cell? ⟨wq.heap.size, 6, none⟩ = some (.slice (c k).xa (R k).nx (c k).xc) ∧ w'.cell? ⟨wq.heap.size, 7, none⟩ = some (.int .u64 ((c k).x1 : Int)) ∧ w'.cell? ⟨wq.heap.size, 8, none⟩ = some (.int .u64 ((c k).x2 : Int)) ∧ w'.cell? ⟨wq.heap.size, 9, none⟩ = some (.slice (c k).na (ndR (R k)).length (c k).nc) ∧ w'.cell? ⟨wq.heap.size, 10, none⟩ = some (.int .u64 ((c k).n1 : Int)) ∧ w'.cell? ⟨wq.heap.size, 11, none⟩ = some (.int .u64 ((c k).n2 : Int))) ∧ (w'.cell? ⟨wr.heap.size, 0, none⟩ = some (.slice (c q).qa (R q).np (c q).qc) ∧ w'.cell? ⟨wr.heap.size, 1, none⟩ = some (.int .u64 ((c q).p1 : Int)) ∧ w'.cell? ⟨wr.heap.size, 2, none⟩ = some (.int .u64 ((c q).p2 : Int)) ∧ w'.cell? ⟨wr.heap.size, 3, none⟩ = some (.slice (c q).oa (R q).no (c q).oc) ∧ w'.cell? ⟨wr.heap.size, 4, none⟩ = some (.int .u64 ((c q).o1 : Int)) ∧ w'.cell? ⟨wr.heap.size, 5, none⟩ = some (.int .u64 ((c q).o2 : Int)) ∧ w'.cell? ⟨wr.heap.size, 6, none⟩ = some (.slice (c q).xa (R q).nx (c q).xc) ∧ w'.cell? ⟨wr.heap.size, 7, none⟩ = some (.int .u64 ((c q).x1 : Int)) ∧ w'.cell? ⟨wr.heap.size, 8, none⟩ = some (.int .u64 ((c q).x2 : Int)) ∧ w'.cell? ⟨wr.heap.size, 9, none⟩ = some (.slice (c q).na (ndR (R q)).length (c q).nc) ∧ w'.cell? ⟨wr.heap.size, 10, none⟩ = some (.int .u64 ((c q).n1 : Int)) ∧ w'.cell? ⟨wr.heap.size, 11, none⟩ = some (.int .u64 ((c q).n2 : Int)))) (go_keep) (first
            | (go_at_call 48; refine (against48 (R k) (R q) (c k) (c q) _ (HS.out k hlt).1 (HS.out q hlq).1 (HS.out k hlt).2 (HS.out q hlq).2 (hcl1.out.mono HBX.out (Nat.le_refl _)) (hcl2.out.mono HBX.out (Nat.le_refl _)) (HO.out k hlt) (HO.out q hlq)).mono ?_; rintro e w1 ⟨rfl, hb1⟩; have m0 : w1.cell? ⟨w.heap.size, k, none⟩ = some (.slice (some ⟨wq.heap.size + 1, 0, none⟩) n n) := ((HVa.out.mono hb1 (Nat.le_refl _)).cell k).trans (by simp [HV2.out, hlt]); obtain ⟨v0, v1, v2, v3, v4, v5, v6, v7, v8, v9, v10, v11⟩ := (HXa.out.mono hb1 (Nat.le_refl _)).twelve; obtain ⟨y0, y1, y2, y3, y4, y5, y6, y7, y8, y9, y10, y11⟩ := (HYa.out.mono hb1 (Nat.le_refl _)).twelve; have hn1 := HNa.out.below hb1; obtain ⟨fN, hrN, _⟩ := hn1; have z0 := hrN.cell (i := q) (by omega); have z1 := hrN.frozen q; clear hrN))
          all_goals
            have hW := HBX.out.trans (hb1.mono HBX.out.size)
            have hWs := hW.size
            have HN1 : Hid (NsTo 1 3 (w1.setCell ⟨wq.heap.size + 1, q, none⟩ (.int .i64 (exF (R k) (R q)))) (wq.heap.size + 1) n (q + 1) (fun p _ => exF (R k) (R p))) := (HNa.out.below hb1).step (by simp)
            have HV9 : Hid (Box (w1.setCell ⟨wq.heap.size + 1, q, none⟩ (.int .i64 (exF (R k) (R q)))) w.heap.size 24 (vs.setIfInBounds k (.slice (some ⟨wq.heap.size + 1, 0, none⟩) n n))) := (HVa.out.mono hb1 (Nat.le_refl _)).other (show w.heap.size ≠ wq.heap.size + 1 by omega) _
            have HX9 : Hid (Box (w1.setCell ⟨wq.heap.size + 1, q, none⟩ (.int .i64 (exF (R k) (R q)))) wq.heap.size 90 #[.slice (c k).qa (R k).np (c k).qc, .int .u64 ((c k).p1 : Int), .int .u64 ((c k).p2 : Int), .slice (c k).oa (R k).no (c k).oc, .int .u64 ((c k).o1 : Int), .int .u64 ((c k).o2 : Int), .slice (c k).xa (R k).nx (c k).xc, .int .u64 ((c k).x1 : Int), .int .u64 ((c k).x2 : Int), .slice (c k).na (ndR (R k)).length (c k).nc, .int .u64 ((c k).n1 : Int), .int .u64 ((c k).n2 : Int)]) := (HXa.out.mono hb1 (Nat.le_refl _)).other (show wq.heap.size ≠ wq.heap.size + 1 by omega) _
            have HK9 : Hid (∀ g, g < wq.heap.size → g ≠ w.heap.size → (w1.setCell ⟨wq.heap.size + 1, q, none⟩ (.int .i64 (exF (R k) (R q)))).heap[g]? = wq.heap[g]?) := fun g h7 h8 => (Below.heap_setCell _ _ _ _ (show g ≠ wq.heap.size + 1 by omega)).trans ((hW.block g (by omega)).trans (HKp.out g h7 h8))
            have hz9 : wq.heap.size + 1 + 1 ≤ (w1.setCell ⟨wq.heap.size + 1, q, none⟩ (.int .i64 (exF (R k) (R q)))).heap.size := by rw [size_setc]; omega
            have hB9 : Below w.heap.size w (w1.setCell ⟨wq.heap.size + 1, q, none⟩ (.int .i64 (exF (R k) (R q)))) := (hbi.trans (hW.mono hbi.size)).setCell (show w.heap.size ≤ wq.heap.size + 1 by omega) _
            go_wp2_with fail
            go_roundw
            case rel => exact ⟨q + 1, by omega, by go_num, HN1, HV9, HX9, HK9, hz9, hB9⟩
            case measure => simp [intOf]; omega
        · have hqn : q = n := by omega
          have HT9 : Hid (TbTo wr w.heap.size n (k + 1) (fun i k => exF (R i) (R k)) (fun i => if i < k then r i else wq.heap.size + 1)) := by
            have h9 : NsTo 1 3 wr (wq.heap.size + 1) n (n * 1) (fun p _ => exF (R k) (R p)) := by
              rw [Nat.mul_one]
              have := HN.out
              rwa [hqn] at this
            exact HT.out.step hlt HV1.out HV.out (by omega) (h9.own (by simp [maxLen]; omega)) HKp.out
          clear HN HV HX HKp
          go_wp2_with fail
          go_roundw
          case rel => exact ⟨k + 1, _, by omega, by go_num, HT9, hbi⟩
          case measure => simp [intOf]; omega
    · obtain rfl : k = n := by omega
      go_wp2_with fail
      go_ret
      refine ⟨_, r, rfl, fun h0 => ?_, hbel⟩
      obtain ⟨vs, h1, h2, h3⟩ := HT.out
      refine ⟨w.heap.size, rfl, Nat.le_refl _, h1.lt, fun i hi => ?_⟩
      obtain ⟨a1, a2, a3, a4⟩ := h3 i hi
      exact ⟨(h1.cell i).trans a1, a2, a3, a4⟩

end Go.Proofs.Ytpghgdnhfhdgmaa
