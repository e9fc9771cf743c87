import Derived.Test.YtjhmaofjmalglaaGreatZat
import Derived.Test.YtjhmaofjmalglaaGreatZas
import Derived.Test.YtjhmaofjmalglaaGreatZab
namespace Go.Proofs.YtjhmaofjmalglaaGreat
open Go.RowKit Go.Lib
def slotOf (e : En) : Nat := e.pc.toNat * 4 + e.sd.toNat * 2
def Placed (v : Nv) (vs : Array Value) (j k : Nat) : Prop :=
 ∀ j' q', j' < v.m → q' < (v.J j').ne → (j' < j ∨ (j' = j ∧ q' < k)) → vs[slotOf ((v.J j').E q')]? = some (.int .i64 (j' : Int)) ∧ vs[slotOf ((v.J j').E q') + 1]? = some (.int .i64 (q' : Int))
theorem slot_lt {v : Nv} (ok : v.Ok) {j k : Nat} (hj : j < v.m) (hk : k < (v.J j).ne) : slotOf ((v.J j).E k) + 1 < v.n * 4 := by
 have e1 := ok.en j hj k hk
 unfold slotOf
 omega
theorem Placed.step {v : Nv} (ok : v.Ok) {vs : Array Value} {j k : Nat} (h : Placed v vs j k) (hj : j < v.m) (hk : k < (v.J j).ne) (hs : vs.size = v.n * 4) {a : Nat} (ha : a = slotOf ((v.J j).E k)) :
  Placed v ((vs.setIfInBounds a (.int .i64 (j : Int))).setIfInBounds (a + 1) (.int .i64 (k : Int))) j (k + 1) := by
 intro j' q' hj' hq' hc
 have e1 := ok.en j hj k hk
 have e2 := ok.en j' hj' q' hq'
 have hal : a + 1 < v.n * 4 := by
  rw [ha]
  exact slot_lt ok hj hk
 by_cases e : j' = j ∧ q' = k
 ·
  obtain ⟨rfl, rfl⟩ := e
  rw [← ha]
  constructor
  ·
   simp only [Array.getElem?_setIfInBounds, Array.size_setIfInBounds, show ¬ a + 1 = a by omega, if_false, if_true, hs]
   rw [if_pos (by omega)]
  ·
   simp only [Array.getElem?_setIfInBounds, Array.size_setIfInBounds, if_true, hs]
   rw [if_pos (by omega)]
 ·
  have hne : (v.J j').E q' ≠ (v.J j).E k := fun hh => e (ok.once j' q' j k hj' hq' hj hk hh)
  have hsl : slotOf ((v.J j').E q') ≠ a ∧ slotOf ((v.J j').E q') ≠ a + 1 ∧ slotOf ((v.J j').E q') + 1 ≠ a := by
   have h9 : ¬ (((v.J j').E q').pc = ((v.J j).E k).pc ∧ ((v.J j').E q').sd = ((v.J j).E k).sd) := fun ⟨a1, a2⟩ => hne (by
    cases h1 : (v.J j').E q'
    cases h2 : (v.J j).E k
    simp_all)
   rw [ha]
   unfold slotOf
   omega
  obtain ⟨g1, g2⟩ := h j' q' hj' hq' (by omega)
  constructor
  ·
   simp only [Array.getElem?_setIfInBounds, show ¬ a + 1 = slotOf ((v.J j').E q') by omega, show ¬ a = slotOf ((v.J j').E q') by omega, if_false]
   exact g1
  ·
   simp only [Array.getElem?_setIfInBounds, show ¬ a + 1 = slotOf ((v.J j').E q') + 1 by omega, show ¬ a = slotOf ((v.J j').E q') + 1 by omega, if_false]
   exact g2
def TkTo (v : Nv) (pa : Option Addr) (pc : Nat) (ja : Option Addr) (jc : Nat) (w : World) (bt sb j k : Nat) : Prop :=
 Box w bt 189 #[.slice pa v.n pc, .slice ja v.m jc, .slice none 0 0, .slice (some ⟨sb, 0, none⟩) v.n v.n] ∧ ∃ vs : Array Value, Box w sb 190 vs ∧ vs.size = v.n * 4 ∧ Placed v vs j k
theorem TkTo.mono {v : Nv} {pa : Option Addr} {pc : Nat} {ja : Option Addr} {jc : Nat} {w w' : World} {bt sb j k N : Nat} (h : TkTo v pa pc ja jc w bt sb j k) (hb : Below N w w') (hN : w.heap.size ≤ N) : TkTo v pa pc ja jc w' bt sb j k := by
 obtain ⟨h0, vs, h1, h2⟩ := h
 exact ⟨h0.mono hb hN, vs, h1.mono hb hN, h2⟩
theorem TkTo.at {v : Nv} (ok : v.Ok) {pa : Option Addr} {pc : Nat} {ja : Option Addr} {jc : Nat} {w : World} {bt sb : Nat} (h : TkTo v pa pc ja jc w bt sb v.m 0) (hP : PsAt 0 w pa v.n v.P) (hJ : JsAt 0 w ja v.m v.J) : TkAt w bt sb v pa pc ja jc := by
 obtain ⟨h0, vs, h1, h2, h6⟩ := h
 refine ⟨h0, h1.lt, fun q s hq hs => ?_, hP, hJ⟩
 obtain ⟨j, k, a1, a2, a3, a4⟩ := ok.stand ⟨(q : Int), (s : Int)⟩ (by show (0 : Int) ≤ (q : Int); omega) (by show (q : Int) < v.n; omega) (by show (s : Int) = 0 ∨ (s : Int) = 1; omega)
 obtain ⟨g1, g2⟩ := h6 j k a2 a3 (.inl a2)
 rw [a4] at g1 g2
 have hsl : slotOf ⟨(q : Int), (s : Int)⟩ = q * 4 + s * 2 := by simp [slotOf]
 rw [hsl] at g1 g2
 have hat : v.at ⟨(q : Int), (s : Int)⟩ = (j, k) := by simp [Nv.at, a1]
 rw [hat]
 exact ⟨(h1.cell _).trans g1, (h1.cell _).trans g2⟩
def TrkR (w : World) (v : Nv) (pa : Option Addr) (pc : Nat) (ja : Option Addr) (jc : Nat) (e : Ending) (w' : World) : Prop := ∃ bt sb, e = .returned (.pointer (some ⟨bt, 0, none⟩)) ∧ TkAt w' bt sb v pa pc ja jc ∧ w.heap.size ≤ bt ∧ w.heap.size ≤ sb ∧ Below w.heap.size w w'
theorem info157 : (Tryz.prog.info? 190).map (fun i => (i.zero, i.size, i.bytes)) = some (some (.agg #[.int .i64 0, .int .i64 0, .int .i64 0, .int .i64 0]), 4, 32) := by kernel_rfl
set_option maxRecDepth 100000 in
set_option maxHeartbeats 8000000 in
theorem trackOf68 {v : Nv} (ok : v.Ok) {pa : Option Addr} {pc : Nat} {ja : Option Addr} {jc : Nat} (w : World) (hP : PsAt 0 w pa v.n v.P) (hJ : JsAt 0 w ja v.m v.J) :
  Calls Tryz.prog 88 #[.agg #[.slice pa v.n pc, .slice ja v.m jc], .slice none 0 0] w fun e w' => TrkR w v pa pc ja jc e w' := by
 have H : Hid (v.Ok ∧ PsAt 0 w pa v.n v.P ∧ JsAt 0 w ja v.m v.J) := ⟨ok, hP, hJ⟩
 have hm1 := ok.m1
 have hn1 := ok.n1
 have S0 : Hid (Below w.heap.size w (w.alloc (.cells #[.slice pa v.n pc, .slice ja v.m jc] 40)) ∧ Box (w.alloc (.cells #[.slice pa v.n pc, .slice ja v.m jc] 40)) w.heap.size 40 #[.slice pa v.n pc, .slice ja v.m jc]) := ⟨bel1 _ _, Box.new _ _ _⟩
 have hmk := make_rows (P := Tryz.prog) 187 190 _ 32 4 Tryz.underlying187 info157 v.n (by omega) (by omega)
 clear ok hP hJ
 go_enter Tryz.func88, Tryz.ntmps88
 go_upto_region 1 with fail
 generalize (w.alloc (.cells #[.slice pa v.n pc, .slice ja v.m jc] 40)) = V0 at S0 ⊢
 have n0 := S0.out.2.cel 0
 have n1 := S0.out.2.cel 1
 go_wp2_with fail
 refine wp_region_held_drew (S := (fun wx : World => wx.cell? ⟨w.heap.size, 0, none⟩ = some (.slice pa v.n pc) ∧ wx.cell? ⟨w.heap.size, 1, none⟩ = some (.slice ja v.m jc))) (by kernel_rfl) ?_ (fun hHeld => ?_)
 ·
  exact ⟨n0, n1⟩
 refine tk 0 ?_
 refine tk 1 ?_
 refine tk 2 ?_
 refine tk 3 ?_
 refine tk 4 ?_
 have MS : Hid (Below w.heap.size w (V0.alloc (.cells (mk0 (.agg #[.int .i64 0, .int .i64 0, .int .i64 0, .int .i64 0]) (v.n * 4)) 190)).drew ∧ Box (V0.alloc (.cells (mk0 (.agg #[.int .i64 0, .int .i64 0, .int .i64 0, .int .i64 0]) (v.n * 4)) 190)).drew w.heap.size 40 #[.slice pa v.n pc, .slice ja v.m jc] ∧ Box (V0.alloc (.cells (mk0 (.agg #[.int .i64 0, .int .i64 0, .int .i64 0, .int .i64 0]) (v.n * 4)) 190)).drew V0.heap.size 190 (mk0 (.agg #[.int .i64 0, .int .i64 0, .int .i64 0, .int .i64 0]) (v.n * 4)) ∧ w.heap.size ≤ V0.heap.size) := ⟨(S0.out.1.alloc S0.out.1.size _).drew, (S0.out.2.alloc _).drew, (Box.new _ _ _).drew, S0.out.1.size⟩
 refine rl 5 fun K hK => ?_
 go_simp
 refine hK.out _ _ ?_ (fun hHeld5 => ?_)
 ·
  exact ⟨MS.out.2.1.cell 0, MS.out.2.1.cell 1⟩
 clear hK K
 generalize V0.heap.size = sb at MS ⊢
 generalize (V0.alloc (.cells (mk0 (.agg #[.int .i64 0, .int .i64 0, .int .i64 0, .int .i64 0]) (v.n * 4)) 190)).drew = V1 at MS hHeld5 ⊢
 refine tk 6 ?_
 have MT : Hid (Below w.heap.size w (V1.alloc (.cells #[.slice pa v.n pc, .slice ja v.m jc, .slice none 0 0, .slice (some ⟨sb, 0, none⟩) v.n v.n] 189)) ∧ Box (V1.alloc (.cells #[.slice pa v.n pc, .slice ja v.m jc, .slice none 0 0, .slice (some ⟨sb, 0, none⟩) v.n v.n] 189)) w.heap.size 40 #[.slice pa v.n pc, .slice ja v.m jc] ∧ w.heap.size ≤ sb ∧ TkTo v pa pc ja jc (V1.alloc (.cells #[.slice pa v.n pc, .slice ja v.m jc, .slice none 0 0, .slice (some ⟨sb, 0, none⟩) v.n v.n] 189)) V1.heap.size sb 0 0) := ⟨MS.out.1.alloc MS.out.1.size _, MS.out.2.1.alloc _, MS.out.2.2.2, Box.new _ _ _, (mk0 (.agg #[.int .i64 0, .int .i64 0, .int .i64 0, .int .i64 0]) (v.n * 4)), MS.out.2.2.1.alloc _, size_madeCells _ _, fun j' q' _ _ hc => absurd hc (by omega)⟩
 refine rl 7 fun K hK => ?_
 go_simp
 refine hK.out _ _ ?_ (fun hHeld7 => ?_)
 ·
  exact ⟨MT.out.2.1.cell 0, MT.out.2.1.cell 1⟩
 have HBT : Hid (w.heap.size ≤ V1.heap.size) := MS.out.1.size
 clear hK K MS n0 n1
 generalize V1.heap.size = bt at MT HBT ⊢
 generalize V1.alloc (.cells #[.slice pa v.n pc, .slice ja v.m jc, .slice none 0 0, .slice (some ⟨sb, 0, none⟩) v.n v.n] 189) = V2 at MT hHeld7 ⊢
 refine tk 8 ?_
 refine wpAnyH_done (by kernel_rfl) ?_ _
 have n1 := MT.out.2.1.cel 1
 clear hmk S0
 go_wp2_with fail
 clear n1
 go_loopw [21] (fun i wr => ∃ j : Nat, j ≤ v.m ∧ i = .int .i64 j ∧ Hid (Below w.heap.size w wr ∧ Box wr w.heap.size 40 #[.slice pa v.n pc, .slice ja v.m jc] ∧ w.heap.size ≤ sb ∧ TkTo v pa pc ja jc wr bt sb j 0)) (fun i _ => v.m - (intOf i).toNat)
 case atStart => exact ⟨0, Nat.zero_le _, rfl, MT⟩
 case round =>
  clear MT hHeld hHeld5 hHeld7
  obtain ⟨j, hj, rfl, T⟩ := hrel
  by_cases hlt : j < v.m
  ·
   obtain ⟨b, off, hje, _, hb, hc⟩ := H.out.2.2 (by omega)
   obtain ⟨ea, ec, c0, c1, c2, hE⟩ := hc j hlt
   have HE : Hid (EsAt 0 w ea (v.J j).ne (v.J j).E) := hE
   subst hje
   have T9 : Hid (Below w.heap.size w (wr.alloc (.cells #[.int .i64 (v.J j).kd, .string (v.J j).nm, .slice ea (v.J j).ne ec] 132)) ∧ Box (wr.alloc (.cells #[.int .i64 (v.J j).kd, .string (v.J j).nm, .slice ea (v.J j).ne ec] 132)) w.heap.size 40 #[.slice pa v.n pc, .slice (some ⟨b, off, none⟩) v.m jc] ∧ w.heap.size ≤ sb ∧ TkTo v pa pc (some ⟨b, off, none⟩) jc (wr.alloc (.cells #[.int .i64 (v.J j).kd, .string (v.J j).nm, .slice ea (v.J j).ne ec] 132)) bt sb j 0) := ⟨T.out.1.alloc T.out.1.size _, T.out.2.1.alloc _, T.out.2.2.1, T.out.2.2.2.mono (bel1 _ _) nr⟩
   have T9b : Hid (Box (wr.alloc (.cells #[.int .i64 (v.J j).kd, .string (v.J j).nm, .slice ea (v.J j).ne ec] 132)) wr.heap.size 132 #[.int .i64 (v.J j).kd, .string (v.J j).nm, .slice ea (v.J j).ne ec]) := Box.new _ _ _
   have c0 := cell_keep T.out.1 hb c0
   have c1 := cell_keep T.out.1 hb c1
   have c2 := cell_keep T.out.1 hb c2
   have hkd := H.out.1.kd j hlt
   have hltj : (j : Int) < (v.m : Int) := by omega
   have hj0 : (0 : Int) ≤ (j : Int) := by omega
   have m2 := T9b.out.cel 2
   clear hc hE hb T
   go_wp2_with fail
   clear c0 c1 c2 m2 T9b
   generalize wr.alloc (.cells #[.int .i64 (v.J j).kd, .string (v.J j).nm, .slice ea (v.J j).ne ec] 132) = V8 at T9 ⊢
   go_loopw [29] (fun i wr => ∃ k : Nat, k ≤ (v.J j).ne ∧ i = .int .i64 k ∧ Hid (Below w.heap.size w wr ∧ Box wr w.heap.size 40 #[.slice pa v.n pc, .slice (some ⟨b, off, none⟩) v.m jc] ∧ w.heap.size ≤ sb ∧ TkTo v pa pc (some ⟨b, off, none⟩) jc wr bt sb j k)) (fun i _ => (v.J j).ne - (intOf i).toNat)
   case atStart => exact ⟨0, Nat.zero_le _, rfl, T9⟩
   case round =>
    clear T9
    obtain ⟨k, hk, rfl, Tk⟩ := hrel
    by_cases hlk : k < (v.J j).ne
    ·
     obtain ⟨b2, off2, rfl, _, hb2, hc2⟩ := (HE.out.mono nr Tk.out.1 nr) (by omega)
     obtain ⟨d0, d1⟩ := hc2 k hlk
     obtain ⟨p0, p1, psd⟩ := H.out.1.en j hlt k hlk
     obtain ⟨pN, hpc⟩ : ∃ pN : Nat, ((v.J j).E k).pc = (pN : Int) := ⟨((v.J j).E k).pc.toNat, by omega⟩
     rw [hpc] at d0
     have hpl : pN < v.n := by omega
     have hpi : (pN : Int) < (v.n : Int) := by omega
     have hpi0 : (0 : Int) ≤ (pN : Int) := by omega
     have hkl : (k : Int) < ((v.J j).ne : Int) := by omega
     have hk0 : (0 : Int) ≤ (k : Int) := by omega
     clear hc2 p0 p1 hb2
     rcases psd with hsd | hsd
     ·
      have hsl : Hid ((pN * 4 : Nat) = slotOf ((v.J j).E k)) := by show _ = _; simp [slotOf, hpc, hsd]
      have d1' : wr.cell? ⟨b2, off2 + k * 2 + 1, none⟩ = some (.int .i64 0) := by rw [d1, hsd]
      have T9 : Hid ((Below w.heap.size w (wr.alloc (.cells #[.int .i64 (pN : Int), .int .i64 0] 76)) ∧ Box (wr.alloc (.cells #[.int .i64 (pN : Int), .int .i64 0] 76)) w.heap.size 40 #[.slice pa v.n pc, .slice (some ⟨b, off, none⟩) v.m jc] ∧ w.heap.size ≤ sb ∧ TkTo v pa pc (some ⟨b, off, none⟩) jc (wr.alloc (.cells #[.int .i64 (pN : Int), .int .i64 0] 76)) bt sb j k) ∧ Box (wr.alloc (.cells #[.int .i64 (pN : Int), .int .i64 0] 76)) wr.heap.size 76 #[.int .i64 (pN : Int), .int .i64 0]) := ⟨⟨Tk.out.1.alloc Tk.out.1.size _, Tk.out.2.1.alloc _, Tk.out.2.2.1, Tk.out.2.2.2.mono (bel1 _ _) nr⟩, Box.new _ _ _⟩
      clear d1 hsd Tk
      go_upto_region 8 with fail
      clear d0 d1'
      generalize wr.alloc (.cells #[.int .i64 (pN : Int), .int .i64 0] 76) = V9 at T9 ⊢
      generalize wr.heap.size = eq at T9 ⊢
      obtain ⟨vs, g1, g2, g3⟩ := T9.out.1.2.2.2.2
      have HPL : Hid (Placed v ((vs.setIfInBounds (pN * 4) (.int .i64 (j : Int))).setIfInBounds (pN * 4 + 1) (.int .i64 (k : Int))) j (k + 1)) := g3.step H.out.1 hlt hlk g2 hsl.out
      have x0 : V9.cell? ⟨sb, pN * 4, none⟩ = some (vs[pN * 4]'(by omega)) := (g1.cell _).trans (Array.getElem?_eq_getElem _)
      have x1 : V9.cell? ⟨sb, pN * 4 + 1, none⟩ = some (vs[pN * 4 + 1]'(by omega)) := (g1.cell _).trans (Array.getElem?_eq_getElem _)
      have y0 := g1.free (pN * 4)
      have y1 := g1.free (pN * 4 + 1)
      generalize vs[pN * 4]'(by omega) = u0 at x0
      generalize vs[pN * 4 + 1]'(by omega) = u1 at x1
      have e1 : w.heap.size ≠ sb := box_ne T9.out.1.2.1 g1 (by decide)
      have e2 : bt ≠ sb := box_ne T9.out.1.2.2.2.1 g1 (by decide)
      have e3 : eq ≠ sb := box_ne T9.out.2 g1 (by decide)
      have HSB : Hid (w.heap.size ≤ sb) := T9.out.1.2.2.1
      have TN : Hid ((Below w.heap.size w ((V9.setCell ⟨sb, pN * 4, none⟩ (.int .i64 (j : Int))).setCell ⟨sb, pN * 4 + 1, none⟩ (.int .i64 (k : Int))).drew ∧ Box ((V9.setCell ⟨sb, pN * 4, none⟩ (.int .i64 (j : Int))).setCell ⟨sb, pN * 4 + 1, none⟩ (.int .i64 (k : Int))).drew w.heap.size 40 #[.slice pa v.n pc, .slice (some ⟨b, off, none⟩) v.m jc] ∧ w.heap.size ≤ sb ∧ TkTo v pa pc (some ⟨b, off, none⟩) jc ((V9.setCell ⟨sb, pN * 4, none⟩ (.int .i64 (j : Int))).setCell ⟨sb, pN * 4 + 1, none⟩ (.int .i64 (k : Int))).drew bt sb j (k + 1)) ∧ Box ((V9.setCell ⟨sb, pN * 4, none⟩ (.int .i64 (j : Int))).setCell ⟨sb, pN * 4 + 1, none⟩ (.int .i64 (k : Int))).drew eq 76 #[.int .i64 (pN : Int), .int .i64 0]) := ⟨⟨((T9.out.1.1.setCell HSB.out _).setCell HSB.out _).drew, ((T9.out.1.2.1.other e1 _).other e1 _).drew, HSB.out, ((T9.out.1.2.2.2.1.other e2 _).other e2 _).drew, _, ((g1.set _ _).set _ _).drew, by simp [g2], HPL.out⟩, ((T9.out.2.other e3 _).other e3 _).drew⟩
      have f3 := T9.out.1.2.2.2.1.cel 3
      have q0 := T9.out.2.cel 0
      have q1 := T9.out.2.cel 1
      clear g1 g2 g3 HPL hsl T9 e1 e2 e3
      go_wp2_with fail
      refine wp_region_held_drew (S := (fun wx : World => wx.cell? ⟨bt, 3, none⟩ = some (.slice (some ⟨sb, 0, none⟩) v.n v.n) ∧ wx.cell? ⟨eq, 0, none⟩ = some (.int .i64 (pN : Int)) ∧ wx.cell? ⟨eq, 1, none⟩ = some (.int .i64 0))) (by kernel_rfl) ?_ (fun hHeld => ?_)
      ·
       exact ⟨f3, q0, q1⟩
      refine tk 0 ?_
      refine tk 1 ?_
      refine tk 2 ?_
      refine tk 3 ?_
      refine tk 4 ?_
      refine tk 5 ?_
      refine tk 6 ?_
      refine tk 7 ?_
      refine tk 8 ?_
      refine tk 9 ?_
      refine tk 10 ?_
      refine tk 11 ?_
      refine tk 12 ?_
      refine rl 13 fun K hK => ?_
      go_simp
      refine hK.out _ _ ?_ (fun hHeld13 => ?_)
      ·
       exact ⟨TN.out.1.2.2.2.1.cell 3, TN.out.2.cell 0, TN.out.2.cell 1⟩
      clear hK K
      refine wpAnyH_done (by kernel_rfl) ?_ _
      clear f3 q0 q1 x0 x1 y0 y1
      go_wp2_with fail
      go_roundw
      case rel => exact ⟨k + 1, by omega, by go_num, TN.out.1⟩
      case measure => simp [intOf]; omega
     ·
      have hsl : Hid ((pN * 4 + 2 : Nat) = slotOf ((v.J j).E k)) := by show _ = _; simp [slotOf, hpc, hsd]
      have d1' : wr.cell? ⟨b2, off2 + k * 2 + 1, none⟩ = some (.int .i64 1) := by rw [d1, hsd]
      have T9 : Hid ((Below w.heap.size w (wr.alloc (.cells #[.int .i64 (pN : Int), .int .i64 1] 76)) ∧ Box (wr.alloc (.cells #[.int .i64 (pN : Int), .int .i64 1] 76)) w.heap.size 40 #[.slice pa v.n pc, .slice (some ⟨b, off, none⟩) v.m jc] ∧ w.heap.size ≤ sb ∧ TkTo v pa pc (some ⟨b, off, none⟩) jc (wr.alloc (.cells #[.int .i64 (pN : Int), .int .i64 1] 76)) bt sb j k) ∧ Box (wr.alloc (.cells #[.int .i64 (pN : Int), .int .i64 1] 76)) wr.heap.size 76 #[.int .i64 (pN : Int), .int .i64 1]) := ⟨⟨Tk.out.1.alloc Tk.out.1.size _, Tk.out.2.1.alloc _, Tk.out.2.2.1, Tk.out.2.2.2.mono (bel1 _ _) nr⟩, Box.new _ _ _⟩
      clear d1 hsd Tk
      go_upto_region 8 with fail
      clear d0 d1'
      generalize wr.alloc (.cells #[.int .i64 (pN : Int), .int .i64 1] 76) = V9 at T9 ⊢
      generalize wr.heap.size = eq at T9 ⊢
      obtain ⟨vs, g1, g2, g3⟩ := T9.out.1.2.2.2.2
      have HPL : Hid (Placed v ((vs.setIfInBounds (pN * 4 + 2) (.int .i64 (j : Int))).setIfInBounds (pN * 4 + 2 + 1) (.int .i64 (k : Int))) j (k + 1)) := g3.step H.out.1 hlt hlk g2 hsl.out
      have x0 : V9.cell? ⟨sb, pN * 4 + 2, none⟩ = some (vs[pN * 4 + 2]'(by omega)) := (g1.cell _).trans (Array.getElem?_eq_getElem _)
      have x1 : V9.cell? ⟨sb, pN * 4 + 2 + 1, none⟩ = some (vs[pN * 4 + 2 + 1]'(by omega)) := (g1.cell _).trans (Array.getElem?_eq_getElem _)
      have y0 := g1.free (pN * 4 + 2)
      have y1 := g1.free (pN * 4 + 2 + 1)
      generalize vs[pN * 4 + 2]'(by omega) = u0 at x0
      generalize vs[pN * 4 + 2 + 1]'(by omega) = u1 at x1
      have e1 : w.heap.size ≠ sb := box_ne T9.out.1.2.1 g1 (by decide)
      have e2 : bt ≠ sb := box_ne T9.out.1.2.2.2.1 g1 (by decide)
      have e3 : eq ≠ sb := box_ne T9.out.2 g1 (by decide)
      have HSB : Hid (w.heap.size ≤ sb) := T9.out.1.2.2.1
      have TN : Hid ((Below w.heap.size w ((V9.setCell ⟨sb, pN * 4 + 2, none⟩ (.int .i64 (j : Int))).setCell ⟨sb, pN * 4 + 2 + 1, none⟩ (.int .i64 (k : Int))).drew ∧ Box ((V9.setCell ⟨sb, pN * 4 + 2, none⟩ (.int .i64 (j : Int))).setCell ⟨sb, pN * 4 + 2 + 1, none⟩ (.int .i64 (k : Int))).drew w.heap.size 40 #[.slice pa v.n pc, .slice (some ⟨b, off, none⟩) v.m jc] ∧ w.heap.size ≤ sb ∧ TkTo v pa pc (some ⟨b, off, none⟩) jc ((V9.setCell ⟨sb, pN * 4 + 2, none⟩ (.int .i64 (j : Int))).setCell ⟨sb, pN * 4 + 2 + 1, none⟩ (.int .i64 (k : Int))).drew bt sb j (k + 1)) ∧ Box ((V9.setCell ⟨sb, pN * 4 + 2, none⟩ (.int .i64 (j : Int))).setCell ⟨sb, pN * 4 + 2 + 1, none⟩ (.int .i64 (k : Int))).drew eq 76 #[.int .i64 (pN : Int), .int .i64 1]) := ⟨⟨((T9.out.1.1.setCell HSB.out _).setCell HSB.out _).drew, ((T9.out.1.2.1.other e1 _).other e1 _).drew, HSB.out, ((T9.out.1.2.2.2.1.other e2 _).other e2 _).drew, _, ((g1.set _ _).set _ _).drew, by simp [g2], HPL.out⟩, ((T9.out.2.other e3 _).other e3 _).drew⟩
      have f3 := T9.out.1.2.2.2.1.cel 3
      have q0 := T9.out.2.cel 0
      have q1 := T9.out.2.cel 1
      clear g1 g2 g3 HPL hsl T9 e1 e2 e3
      go_wp2_with fail
      refine wp_region_held_drew (S := (fun wx : World => wx.cell? ⟨bt, 3, none⟩ = some (.slice (some ⟨sb, 0, none⟩) v.n v.n) ∧ wx.cell? ⟨eq, 0, none⟩ = some (.int .i64 (pN : Int)) ∧ wx.cell? ⟨eq, 1, none⟩ = some (.int .i64 1))) (by kernel_rfl) ?_ (fun hHeld => ?_)
      ·
       exact ⟨f3, q0, q1⟩
      refine tk 0 ?_
      refine tk 1 ?_
      refine tk 2 ?_
      refine tk 3 ?_
      refine tk 4 ?_
      refine tk 5 ?_
      refine tk 6 ?_
      refine tk 7 ?_
      refine tk 8 ?_
      refine tk 9 ?_
      refine tk 10 ?_
      refine tk 11 ?_
      refine tk 12 ?_
      refine rl 13 fun K hK => ?_
      go_simp
      refine hK.out _ _ ?_ (fun hHeld13 => ?_)
      ·
       exact ⟨TN.out.1.2.2.2.1.cell 3, TN.out.2.cell 0, TN.out.2.cell 1⟩
      clear hK K
      refine wpAnyH_done (by kernel_rfl) ?_ _
      clear f3 q0 q1 x0 x1 y0 y1
      go_wp2_with fail
      go_roundw
      case rel => exact ⟨k + 1, by omega, by go_num, TN.out.1⟩
      case measure => simp [intOf]; omega
    ·
     have hkk : k = (v.J j).ne := by omega
     have hge : ¬ ((k : Int) < ((v.J j).ne : Int)) := by omega
     have TX : Hid (Below w.heap.size w wr ∧ Box wr w.heap.size 40 #[.slice pa v.n pc, .slice (some ⟨b, off, none⟩) v.m jc] ∧ w.heap.size ≤ sb ∧ TkTo v pa pc (some ⟨b, off, none⟩) jc wr bt sb (j + 1) 0) := by
      obtain ⟨h1, h2, h3, h4, vs, h5, h6, h7⟩ := Tk.out
      refine ⟨h1, h2, h3, h4, vs, h5, h6, fun j' q' hj' hq' hc => h7 j' q' hj' hq' ?_⟩
      by_cases c : j' < j
      ·
       exact Or.inl c
      ·
       have c2 : j' = j := by omega
       subst c2
       exact Or.inr ⟨rfl, by omega⟩
     go_wp2_with fail
     go_roundw
     case rel => exact ⟨j + 1, by omega, by go_num, TX⟩
     case measure => simp [intOf]; omega
  ·
   have hkk : j = v.m := by omega
   have hge : ¬ ((j : Int) < (v.m : Int)) := by omega
   have HF : Hid ((TkAt wr bt sb v pa pc ja jc ∧ w.heap.size ≤ sb) ∧ Below w.heap.size w wr) := ⟨⟨TkTo.at H.out.1 (by have := T.out.2.2.2; rwa [hkk] at this) (H.out.2.1.mono nr T.out.1 nr) (H.out.2.2.mono nr T.out.1 nr), T.out.2.2.1⟩, T.out.1⟩
   go_wp2_with fail
   go_ret
   exact ⟨bt, sb, rfl, HF.out.1.1, HBT.out, HF.out.1.2, HF.out.2⟩
end Go.Proofs.YtjhmaofjmalglaaGreat
