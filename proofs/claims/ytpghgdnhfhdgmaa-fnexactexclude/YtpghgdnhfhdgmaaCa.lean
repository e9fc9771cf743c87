import Derived.Test.YtpghgdnhfhdgmaaCl
namespace Go.Proofs.Ytpghgdnhfhdgmaa
open Go.RowKit

def TP (r s : Rt) : Prop := ∃ i, i < r.np ∧ ∃ j, j < s.np ∧ AgP (r.Q i) (s.Q j)
def TX (r s : Rt) : Prop := ∃ i, i < r.nx ∧ ∃ j, j < s.nx ∧ AgX (r.X i) (s.X j)
def TL (r s : Rt) : Prop := ∃ i, i < (ndR r).length ∧ ∃ j, j < (ndR s).length ∧ AgL (fnL (ndR r) i) (fnL (ndR s) j)
def TO (r s : Rt) : Prop := ∃ i, i < r.no ∧ ∃ j, j < s.np ∧ AgP (r.O i) (s.Q j)
open Classical in
/-- why two routes exclude each other -/
noncomputable def exF (r s : Rt) : Int := if TP r s then 1 else if TX r s then 2 else if TL r s then 3 else if TO r s ∨ TO s r then 4 else 0
theorem exF1 {r s : Rt} (h : TP r s) : exF r s = 1 := by simp [exF, h]
theorem exF2 {r s : Rt} (h : ¬ TP r s) (h2 : TX r s) : exF r s = 2 := by simp [exF, h, h2]
theorem exF3 {r s : Rt} (h : ¬ TP r s) (h2 : ¬ TX r s) (h3 : TL r s) : exF r s = 3 := by simp [exF, h, h2, h3]
theorem exF4 {r s : Rt} (h : ¬ TP r s) (h2 : ¬ TX r s) (h3 : ¬ TL r s) (h4 : TO r s ∨ TO s r) : exF r s = 4 := by simp [exF, h, h2, h3, h4]
theorem exF0 {r s : Rt} (h : ¬ TP r s) (h2 : ¬ TX r s) (h3 : ¬ TL r s) (h4 : ¬ (TO r s ∨ TO s r)) : exF r s = 0 := by simp [exF, h, h2, h3, h4]
theorem exF_in (r s : Rt) : 0 ≤ exF r s ∧ exF r s ≤ 4 := by
  unfold exF
  split
  · omega
  · split
    · omega
    · split
      · omega
      · split <;> omega

set_option maxRecDepth 100000 in
set_option maxHeartbeats 8000000 in
theorem against48 (r s : Rt) (c d : Cm) (w : World) (hr : r.small) (hs : s.small) (hrl : r.nl + r.nf ≤ 1048576) (hsl : s.nl + s.nf ≤ 1048576) (h1 : ClAt w r c) (h2 : ClAt w s d) (k1 : ClOk r c) (k2 : ClOk s d) :
    Calls Try.prog 48 #[.agg #[.slice c.qa r.np c.qc, .int .u64 (c.p1 : Int), .int .u64 (c.p2 : Int), .slice c.oa r.no c.oc, .int .u64 (c.o1 : Int), .int .u64 (c.o2 : Int), .slice c.xa r.nx c.xc, .int .u64 (c.x1 : Int), .int .u64 (c.x2 : Int), .slice c.na (ndR r).length c.nc, .int .u64 (c.n1 : Int), .int .u64 (c.n2 : Int)],
      .agg #[.slice d.qa s.np d.qc, .int .u64 (d.p1 : Int), .int .u64 (d.p2 : Int), .slice d.oa s.no d.oc, .int .u64 (d.o1 : Int), .int .u64 (d.o2 : Int), .slice d.xa s.nx d.xc, .int .u64 (d.x1 : Int), .int .u64 (d.x2 : Int), .slice d.na (ndR s).length d.nc, .int .u64 (d.n1 : Int), .int .u64 (d.n2 : Int)]] w fun e w' => e = .returned (.int .i64 (exF r s)) ∧ Below w.heap.size w w' := by
  obtain ⟨_, _, a3, a4, a5, _⟩ := hr
  obtain ⟨_, _, b3, b4, b5, _⟩ := hs
  have nr := ndR_len r
  have ns := ndR_len s
  have H1 : Hid (ClAt w r c) := h1
  have H2 : Hid (ClAt w s d) := h2
  have K1 : Hid (ClOk r c) := k1
  have K2 : Hid (ClOk s d) := k2
  clear h1 h2 k1 k2
  go_enter Try.func48, Try.ntmps48
  go_wp2_with fail
  have b0 := bel2 w (.cells #[.slice c.qa r.np c.qc, .int .u64 (c.p1 : Int), .int .u64 (c.p2 : Int), .slice c.oa r.no c.oc, .int .u64 (c.o1 : Int), .int .u64 (c.o2 : Int), .slice c.xa r.nx c.xc, .int .u64 (c.x1 : Int), .int .u64 (c.x2 : Int), .slice c.na (ndR r).length c.nc, .int .u64 (c.n1 : Int), .int .u64 (c.n2 : Int)] 90) (.cells #[.slice d.qa s.np d.qc, .int .u64 (d.p1 : Int), .int .u64 (d.p2 : Int), .slice d.oa s.no d.oc, .int .u64 (d.o1 : Int), .int .u64 (d.o2 : Int), .slice d.xa s.nx d.xc, .int .u64 (d.x1 : Int), .int .u64 (d.x2 : Int), .slice d.na (ndR s).length d.nc, .int .u64 (d.n1 : Int), .int .u64 (d.n2 : Int)] 90)
  have A0 := (Box.new w 90 #[.slice c.qa r.np c.qc, .int .u64 (c.p1 : Int), .int .u64 (c.p2 : Int), .slice c.oa r.no c.oc, .int .u64 (c.o1 : Int), .int .u64 (c.o2 : Int), .slice c.xa r.nx c.xc, .int .u64 (c.x1 : Int), .int .u64 (c.x2 : Int), .slice c.na (ndR r).length c.nc, .int .u64 (c.n1 : Int), .int .u64 (c.n2 : Int)]).alloc (.cells #[.slice d.qa s.np d.qc, .int .u64 (d.p1 : Int), .int .u64 (d.p2 : Int), .slice d.oa s.no d.oc, .int .u64 (d.o1 : Int), .int .u64 (d.o2 : Int), .slice d.xa s.nx d.xc, .int .u64 (d.x1 : Int), .int .u64 (d.x2 : Int), .slice d.na (ndR s).length d.nc, .int .u64 (d.n1 : Int), .int .u64 (d.n2 : Int)] 90)
  have X0 : Box ((w.alloc (.cells #[.slice c.qa r.np c.qc, .int .u64 (c.p1 : Int), .int .u64 (c.p2 : Int), .slice c.oa r.no c.oc, .int .u64 (c.o1 : Int), .int .u64 (c.o2 : Int), .slice c.xa r.nx c.xc, .int .u64 (c.x1 : Int), .int .u64 (c.x2 : Int), .slice c.na (ndR r).length c.nc, .int .u64 (c.n1 : Int), .int .u64 (c.n2 : Int)] 90)).alloc (.cells #[.slice d.qa s.np d.qc, .int .u64 (d.p1 : Int), .int .u64 (d.p2 : Int), .slice d.oa s.no d.oc, .int .u64 (d.o1 : Int), .int .u64 (d.o2 : Int), .slice d.xa s.nx d.xc, .int .u64 (d.x1 : Int), .int .u64 (d.x2 : Int), .slice d.na (ndR s).length d.nc, .int .u64 (d.n1 : Int), .int .u64 (d.n2 : Int)] 90)) (w.heap.size + 1) 90 #[.slice d.qa s.np d.qc, .int .u64 (d.p1 : Int), .int .u64 (d.p2 : Int), .slice d.oa s.no d.oc, .int .u64 (d.o1 : Int), .int .u64 (d.o2 : Int), .slice d.xa s.nx d.xc, .int .u64 (d.x1 : Int), .int .u64 (d.x2 : Int), .slice d.na (ndR s).length d.nc, .int .u64 (d.n1 : Int), .int .u64 (d.n2 : Int)] := by
    have := Box.new (w.alloc (.cells #[.slice c.qa r.np c.qc, .int .u64 (c.p1 : Int), .int .u64 (c.p2 : Int), .slice c.oa r.no c.oc, .int .u64 (c.o1 : Int), .int .u64 (c.o2 : Int), .slice c.xa r.nx c.xc, .int .u64 (c.x1 : Int), .int .u64 (c.x2 : Int), .slice c.na (ndR r).length c.nc, .int .u64 (c.n1 : Int), .int .u64 (c.n2 : Int)] 90)) 90 #[.slice d.qa s.np d.qc, .int .u64 (d.p1 : Int), .int .u64 (d.p2 : Int), .slice d.oa s.no d.oc, .int .u64 (d.o1 : Int), .int .u64 (d.o2 : Int), .slice d.xa s.nx d.xc, .int .u64 (d.x1 : Int), .int .u64 (d.x2 : Int), .slice d.na (ndR s).length d.nc, .int .u64 (d.n1 : Int), .int .u64 (d.n2 : Int)]
    simpa using this
  have C0 := H1.out.mono b0 (Nat.le_refl _)
  have D0 := H2.out.mono b0 (Nat.le_refl _)
  refine (againstP c.qa r.np c.qc r.Q c.p1 c.p2 d.qa s.np d.qc s.Q d.p1 d.p2 _ (by omega) (by omega) C0.q D0.q K1.out.p1 K1.out.p2 K2.out.p1 K2.out.p2 K1.out.p K2.out.p).mono ?_
  rintro e w1 ⟨t1, rfl, ht1, hb1⟩
  have B1 := b0.trans (hb1.mono b0.size)
  have A1 := A0.mono hb1 (Nat.le_refl _)
  have X1 := X0.mono hb1 (Nat.le_refl _)
  clear b0 A0 X0 hb1 C0 D0
  have HT1 : Hid (t1 = true ↔ TP r s) := ht1
  clear ht1
  cases t1 with
  | true =>
    have HV : Hid (exF r s = 1) := exF1 (HT1.out.1 rfl)
    clear A1 X1 HT1
    go_wp2_with fail
    go_ret
    exact ⟨by rw [HV.out]; rfl, B1⟩
  | false =>
    have HN1 : Hid (¬ TP r s) := fun h => by have := HT1.out.2 h; cases this
    clear HT1
    have u6 : w1.cell? ⟨w.heap.size, 6, none⟩ = some (.slice c.xa r.nx c.xc) := A1.cell 6
    have u7 : w1.cell? ⟨w.heap.size, 7, none⟩ = some (.int .u64 (c.x1 : Int)) := A1.cell 7
    have u8 : w1.cell? ⟨w.heap.size, 8, none⟩ = some (.int .u64 (c.x2 : Int)) := A1.cell 8
    have v6 : w1.cell? ⟨w.heap.size + 1, 6, none⟩ = some (.slice d.xa s.nx d.xc) := X1.cell 6
    have v7 : w1.cell? ⟨w.heap.size + 1, 7, none⟩ = some (.int .u64 (d.x1 : Int)) := X1.cell 7
    have v8 : w1.cell? ⟨w.heap.size + 1, 8, none⟩ = some (.int .u64 (d.x2 : Int)) := X1.cell 8
    have HA1 : Hid (Box w1 w.heap.size 90 _) := A1
    have HX1 : Hid (Box w1 (w.heap.size + 1) 90 _) := X1
    clear A1 X1
    go_wp2_with fail
    clear u6 u7 u8 v6 v7 v8
    refine (againstX c.xa r.nx c.xc r.X c.x1 c.x2 d.xa s.nx d.xc s.X d.x1 d.x2 _ (by omega) (by omega) (H1.out.mono B1 (Nat.le_refl _)).x (H2.out.mono B1 (Nat.le_refl _)).x K1.out.x1 K1.out.x2 K2.out.x1 K2.out.x2 K1.out.x K2.out.x).mono ?_
    rintro e w2 ⟨t2, rfl, ht2, hb2⟩
    have B2 := B1.trans (hb2.mono B1.size)
    have A2 := HA1.out.mono hb2 (Nat.le_refl _)
    have X2 := HX1.out.mono hb2 (Nat.le_refl _)
    clear HA1 HX1 hb2 B1
    have HT2 : Hid (t2 = true ↔ TX r s) := ht2
    clear ht2
    cases t2 with
    | true =>
      have HV : Hid (exF r s = 2) := exF2 HN1.out (HT2.out.1 rfl)
      clear A2 X2 HT2
      go_wp2_with fail
      go_ret
      exact ⟨by rw [HV.out]; rfl, B2⟩
    | false =>
      have HN2 : Hid (¬ TX r s) := fun h => by have := HT2.out.2 h; cases this
      clear HT2
      have u6 : w2.cell? ⟨w.heap.size, 9, none⟩ = some (.slice c.na (ndR r).length c.nc) := A2.cell 9
      have u7 : w2.cell? ⟨w.heap.size, 10, none⟩ = some (.int .u64 (c.n1 : Int)) := A2.cell 10
      have u8 : w2.cell? ⟨w.heap.size, 11, none⟩ = some (.int .u64 (c.n2 : Int)) := A2.cell 11
      have v6 : w2.cell? ⟨w.heap.size + 1, 9, none⟩ = some (.slice d.na (ndR s).length d.nc) := X2.cell 9
      have v7 : w2.cell? ⟨w.heap.size + 1, 10, none⟩ = some (.int .u64 (d.n1 : Int)) := X2.cell 10
      have v8 : w2.cell? ⟨w.heap.size + 1, 11, none⟩ = some (.int .u64 (d.n2 : Int)) := X2.cell 11
      have HA2 : Hid (Box w2 w.heap.size 90 _) := A2
      have HX2 : Hid (Box w2 (w.heap.size + 1) 90 _) := X2
      clear A2 X2
      go_wp2_with fail
      clear u6 u7 u8 v6 v7 v8
      refine (againstL c.na (ndR r).length c.nc (fnL (ndR r)) c.n1 c.n2 d.na (ndR s).length d.nc (fnL (ndR s)) d.n1 d.n2 _ (by omega) (by omega) (H1.out.mono B2 (Nat.le_refl _)).n (H2.out.mono B2 (Nat.le_refl _)).n K1.out.n1 K1.out.n2 K2.out.n1 K2.out.n2 K1.out.n K2.out.n).mono ?_
      rintro e w3 ⟨t3, rfl, ht3, hb3⟩
      have B3 := B2.trans (hb3.mono B2.size)
      have A3 := HA2.out.mono hb3 (Nat.le_refl _)
      have X3 := HX2.out.mono hb3 (Nat.le_refl _)
      clear HA2 HX2 hb3 B2
      have HT3 : Hid (t3 = true ↔ TL r s) := ht3
      clear ht3
      cases t3 with
      | true =>
        have HV : Hid (exF r s = 3) := exF3 HN1.out HN2.out (HT3.out.1 rfl)
        clear A3 X3 HT3
        go_wp2_with fail
        go_ret
        exact ⟨by rw [HV.out]; rfl, B3⟩
      | false =>
        have HN3 : Hid (¬ TL r s) := fun h => by have := HT3.out.2 h; cases this
        clear HT3
        have u6 : w3.cell? ⟨w.heap.size, 3, none⟩ = some (.slice c.oa r.no c.oc) := A3.cell 3
        have u7 : w3.cell? ⟨w.heap.size, 4, none⟩ = some (.int .u64 (c.o1 : Int)) := A3.cell 4
        have u8 : w3.cell? ⟨w.heap.size, 5, none⟩ = some (.int .u64 (c.o2 : Int)) := A3.cell 5
        have v6 : w3.cell? ⟨w.heap.size + 1, 0, none⟩ = some (.slice d.qa s.np d.qc) := X3.cell 0
        have v7 : w3.cell? ⟨w.heap.size + 1, 1, none⟩ = some (.int .u64 (d.p1 : Int)) := X3.cell 1
        have v8 : w3.cell? ⟨w.heap.size + 1, 2, none⟩ = some (.int .u64 (d.p2 : Int)) := X3.cell 2
        have HA3 : Hid (Box w3 w.heap.size 90 _) := A3
        have HX3 : Hid (Box w3 (w.heap.size + 1) 90 _) := X3
        clear A3 X3
        go_wp2_with fail
        clear u6 u7 u8 v6 v7 v8
        refine (againstP c.oa r.no c.oc r.O c.o1 c.o2 d.qa s.np d.qc s.Q d.p1 d.p2 _ (by omega) (by omega) (H1.out.mono B3 (Nat.le_refl _)).o (H2.out.mono B3 (Nat.le_refl _)).q K1.out.o1 K1.out.o2 K2.out.p1 K2.out.p2 K1.out.o K2.out.p).mono ?_
        rintro e w4 ⟨t4, rfl, ht4, hb4⟩
        have B4 := B3.trans (hb4.mono B3.size)
        have A4 := HA3.out.mono hb4 (Nat.le_refl _)
        have X4 := HX3.out.mono hb4 (Nat.le_refl _)
        clear HA3 HX3 hb4 B3
        have HT4 : Hid (t4 = true ↔ TO r s) := ht4
        clear ht4
        cases t4 with
        | true =>
          have HV : Hid (exF r s = 4) := exF4 HN1.out HN2.out HN3.out (.inl (HT4.out.1 rfl))
          clear A4 X4 HT4
          go_wp2_with fail
          go_ret
          exact ⟨by rw [HV.out]; rfl, B4⟩
        | false =>
          have HN4 : Hid (¬ TO r s) := fun h => by have := HT4.out.2 h; cases this
          clear HT4
          have u6 : w4.cell? ⟨w.heap.size + 1, 3, none⟩ = some (.slice d.oa s.no d.oc) := X4.cell 3
          have u7 : w4.cell? ⟨w.heap.size + 1, 4, none⟩ = some (.int .u64 (d.o1 : Int)) := X4.cell 4
          have u8 : w4.cell? ⟨w.heap.size + 1, 5, none⟩ = some (.int .u64 (d.o2 : Int)) := X4.cell 5
          have v6 : w4.cell? ⟨w.heap.size, 0, none⟩ = some (.slice c.qa r.np c.qc) := A4.cell 0
          have v7 : w4.cell? ⟨w.heap.size, 1, none⟩ = some (.int .u64 (c.p1 : Int)) := A4.cell 1
          have v8 : w4.cell? ⟨w.heap.size, 2, none⟩ = some (.int .u64 (c.p2 : Int)) := A4.cell 2
          clear A4 X4
          go_wp2_with fail
          clear u6 u7 u8 v6 v7 v8
          refine (againstP d.oa s.no d.oc s.O d.o1 d.o2 c.qa r.np c.qc r.Q c.p1 c.p2 _ (by omega) (by omega) (H2.out.mono B4 (Nat.le_refl _)).o (H1.out.mono B4 (Nat.le_refl _)).q K2.out.o1 K2.out.o2 K1.out.p1 K1.out.p2 K2.out.o K1.out.p).mono ?_
          rintro e w5 ⟨t5, rfl, ht5, hb5⟩
          have B5 := B4.trans (hb5.mono B4.size)
          have HT5 : Hid (t5 = true ↔ TO s r) := ht5
          clear ht5 hb5 B4
          cases t5 with
          | true =>
            have HV : Hid (exF r s = 4) := exF4 HN1.out HN2.out HN3.out (.inr (HT5.out.1 rfl))
            clear HT5
            go_wp2_with fail
            go_ret
            exact ⟨by rw [HV.out]; rfl, B5⟩
          | false =>
            have HV : Hid (exF r s = 0) := exF0 HN1.out HN2.out HN3.out (fun h => h.elim HN4.out fun h => by have := HT5.out.2 h; cases this)
            clear HT5
            go_wp2_with fail
            go_ret
            exact ⟨by rw [HV.out]; rfl, B5⟩

set_option maxRecDepth 100000 in
set_option maxHeartbeats 8000000 in
theorem exclude16 (r s : Rt) (b1 b2 b3 b4 b5 b6 d1 d2 d3 d4 d5 d6 C D : Nat) (w : World) (hr : r.small) (hs : s.small) (hrl : r.nl + r.nf ≤ 1048576) (hsl : s.nl + s.nf ≤ 1048576) (h1 : RtOwn C w r b1 b2 b3 b4 b5 b6) (h2 : RtOwn D w s d1 d2 d3 d4 d5 d6) :
    Calls Try.prog 16 #[.agg #[.int .i64 r.fr, .int .i64 r.to, .slice (some ⟨b1, 0, none⟩) r.ns r.ns, .slice (some ⟨b2, 0, none⟩) r.nl r.nl, .slice (some ⟨b3, 0, none⟩) r.nx r.nx, .slice (some ⟨b4, 0, none⟩) r.np r.np, .slice (some ⟨b5, 0, none⟩) r.no r.no, .slice (some ⟨b6, 0, none⟩) r.nf r.nf],
      .agg #[.int .i64 s.fr, .int .i64 s.to, .slice (some ⟨d1, 0, none⟩) s.ns s.ns, .slice (some ⟨d2, 0, none⟩) s.nl s.nl, .slice (some ⟨d3, 0, none⟩) s.nx s.nx, .slice (some ⟨d4, 0, none⟩) s.np s.np, .slice (some ⟨d5, 0, none⟩) s.no s.no, .slice (some ⟨d6, 0, none⟩) s.nf s.nf]] w fun e w' => e = .returned (.int .i64 (exF r s)) ∧ Below w.heap.size w w' := by
  have H1 : Hid (RtOwn C w r b1 b2 b3 b4 b5 b6) := h1
  have H2 : Hid (RtOwn D w s d1 d2 d3 d4 d5 d6) := h2
  have HR : Hid r.small := hr
  have HS : Hid s.small := hs
  clear h1 h2 hr hs
  go_enter Try.func16, Try.ntmps16
  go_wp2_with fail
  have b0 := (bel2 w (.cells #[.int .i64 r.fr, .int .i64 r.to, .slice (some ⟨b1, 0, none⟩) r.ns r.ns, .slice (some ⟨b2, 0, none⟩) r.nl r.nl, .slice (some ⟨b3, 0, none⟩) r.nx r.nx, .slice (some ⟨b4, 0, none⟩) r.np r.np, .slice (some ⟨b5, 0, none⟩) r.no r.no, .slice (some ⟨b6, 0, none⟩) r.nf r.nf] 36) (.cells #[.int .i64 s.fr, .int .i64 s.to, .slice (some ⟨d1, 0, none⟩) s.ns s.ns, .slice (some ⟨d2, 0, none⟩) s.nl s.nl, .slice (some ⟨d3, 0, none⟩) s.nx s.nx, .slice (some ⟨d4, 0, none⟩) s.np s.np, .slice (some ⟨d5, 0, none⟩) s.no s.no, .slice (some ⟨d6, 0, none⟩) s.nf s.nf] 36)).drew
  have A0 := ((Box.new w 36 #[.int .i64 r.fr, .int .i64 r.to, .slice (some ⟨b1, 0, none⟩) r.ns r.ns, .slice (some ⟨b2, 0, none⟩) r.nl r.nl, .slice (some ⟨b3, 0, none⟩) r.nx r.nx, .slice (some ⟨b4, 0, none⟩) r.np r.np, .slice (some ⟨b5, 0, none⟩) r.no r.no, .slice (some ⟨b6, 0, none⟩) r.nf r.nf]).alloc (.cells #[.int .i64 s.fr, .int .i64 s.to, .slice (some ⟨d1, 0, none⟩) s.ns s.ns, .slice (some ⟨d2, 0, none⟩) s.nl s.nl, .slice (some ⟨d3, 0, none⟩) s.nx s.nx, .slice (some ⟨d4, 0, none⟩) s.np s.np, .slice (some ⟨d5, 0, none⟩) s.no s.no, .slice (some ⟨d6, 0, none⟩) s.nf s.nf] 36)).drew
  have X0 : Box ((w.alloc (.cells #[.int .i64 r.fr, .int .i64 r.to, .slice (some ⟨b1, 0, none⟩) r.ns r.ns, .slice (some ⟨b2, 0, none⟩) r.nl r.nl, .slice (some ⟨b3, 0, none⟩) r.nx r.nx, .slice (some ⟨b4, 0, none⟩) r.np r.np, .slice (some ⟨b5, 0, none⟩) r.no r.no, .slice (some ⟨b6, 0, none⟩) r.nf r.nf] 36)).alloc (.cells #[.int .i64 s.fr, .int .i64 s.to, .slice (some ⟨d1, 0, none⟩) s.ns s.ns, .slice (some ⟨d2, 0, none⟩) s.nl s.nl, .slice (some ⟨d3, 0, none⟩) s.nx s.nx, .slice (some ⟨d4, 0, none⟩) s.np s.np, .slice (some ⟨d5, 0, none⟩) s.no s.no, .slice (some ⟨d6, 0, none⟩) s.nf s.nf] 36)).drew (w.heap.size + 1) 36 #[.int .i64 s.fr, .int .i64 s.to, .slice (some ⟨d1, 0, none⟩) s.ns s.ns, .slice (some ⟨d2, 0, none⟩) s.nl s.nl, .slice (some ⟨d3, 0, none⟩) s.nx s.nx, .slice (some ⟨d4, 0, none⟩) s.np s.np, .slice (some ⟨d5, 0, none⟩) s.no s.no, .slice (some ⟨d6, 0, none⟩) s.nf s.nf] := by
    have := Box.new (w.alloc (.cells #[.int .i64 r.fr, .int .i64 r.to, .slice (some ⟨b1, 0, none⟩) r.ns r.ns, .slice (some ⟨b2, 0, none⟩) r.nl r.nl, .slice (some ⟨b3, 0, none⟩) r.nx r.nx, .slice (some ⟨b4, 0, none⟩) r.np r.np, .slice (some ⟨b5, 0, none⟩) r.no r.no, .slice (some ⟨b6, 0, none⟩) r.nf r.nf] 36)) 36 #[.int .i64 s.fr, .int .i64 s.to, .slice (some ⟨d1, 0, none⟩) s.ns s.ns, .slice (some ⟨d2, 0, none⟩) s.nl s.nl, .slice (some ⟨d3, 0, none⟩) s.nx s.nx, .slice (some ⟨d4, 0, none⟩) s.np s.np, .slice (some ⟨d5, 0, none⟩) s.no s.no, .slice (some ⟨d6, 0, none⟩) s.nf s.nf]
    exact (by simpa using this : Box _ (w.heap.size + 1) 36 _).drew
  have R0 : Hid (RtOwn C _ r b1 b2 b3 b4 b5 b6) := H1.out.mono (Nat.le_refl _) b0 (Nat.le_refl _)
  have S0 : Hid (RtOwn D _ s d1 d2 d3 d4 d5 d6) := H2.out.mono (Nat.le_refl _) b0 (Nat.le_refl _)
  have HA0 : Hid (Box _ w.heap.size 36 _) := A0
  have HX0 : Hid (Box _ (w.heap.size + 1) 36 _) := X0
  have B0 : Hid (Below w.heap.size w _) := b0
  clear A0 X0 b0 H1 H2
  go_region_held3 (fun w' => (w'.cell? ⟨w.heap.size, 0, none⟩ = some (.int .i64 r.fr) ∧ w'.cell? ⟨w.heap.size, 1, none⟩ = some (.int .i64 r.to) ∧ w'.cell? ⟨w.heap.size, 2, none⟩ = some (.slice (some ⟨b1, 0, none⟩) r.ns r.ns) ∧ w'.cell? ⟨w.heap.size, 3, none⟩ = some (.slice (some ⟨b2, 0, none⟩) r.nl r.nl) ∧ w'.cell? ⟨w.heap.size, 4, none⟩ = some (.slice (some ⟨b3, 0, none⟩) r.nx r.nx) ∧ w'.cell? ⟨w.heap.size, 5, none⟩ = some (.slice (some ⟨b4, 0, none⟩) r.np r.np) ∧ w'.cell? ⟨w.heap.size, 6, none⟩ = some (.slice (some ⟨b5, 0, none⟩) r.no r.no) ∧ w'.cell? ⟨w.heap.size, 7, none⟩ = some (.slice (some ⟨b6, 0, none⟩) r.nf r.nf)) ∧ (w'.cell? ⟨w.heap.size + 1, 0, none⟩ = some (.int .i64 s.fr) ∧ w'.cell? ⟨w.heap.size + 1, 1, none⟩ = some (.int .i64 s.to) ∧ w'.cell? ⟨w.heap.size + 1, 2, none⟩ = some (.slice (some ⟨d1, 0, none⟩) s.ns s.ns) ∧ w'.cell? ⟨w.heap.size + 1, 3, none⟩ = some (.slice (some ⟨d2, 0, none⟩) s.nl s.nl) ∧ w'.cell? ⟨w.heap.size + 1, 4, none⟩ = some (.slice (some ⟨d3, 0, none⟩) s.nx s.nx) ∧ w'.cell? ⟨w.heap.size + 1, 5, none⟩ = some (.slice (some ⟨d4, 0, none⟩) s.np s.np) ∧ w'.cell? ⟨w.heap.size + 1, 6, none⟩ = some (.slice (some ⟨d5, 0, none⟩) s.no s.no) ∧ w'.cell? ⟨w.heap.size + 1, 7, none⟩ = some (.slice (some ⟨d6, 0, none⟩) s.nf s.nf))) (go_keep) (first
    | (go_at_call_of 47 r.fr; refine (claim47 r (some ⟨b1, 0, none⟩) (some ⟨b2, 0, none⟩) (some ⟨b3, 0, none⟩) (some ⟨b4, 0, none⟩) (some ⟨b5, 0, none⟩) (some ⟨b6, 0, none⟩) r.ns r.nl r.nx r.np r.no r.nf _ HR.out hrl (lsAt_le R0.out.l.ls (Nat.zero_le _)) (R0.out.x.ns.le (Nat.zero_le _)) (R0.out.q.ns.le (Nat.zero_le _)) (R0.out.o.ns.le (Nat.zero_le _)) (R0.out.f.ns.le (Nat.zero_le _))).mono ?_; rintro e w2 ⟨c, rfl, hc2, hk2, hb2⟩; obtain ⟨m0, m1, m2, m3, m4, m5, m6, m7⟩ := (HA0.out.mono hb2 (Nat.le_refl _)).eight; obtain ⟨n0, n1, n2, n3, n4, n5, n6, n7⟩ := (HX0.out.mono hb2 (Nat.le_refl _)).eight; have HC2 : Hid (ClAt w2 r c) := hc2; have HK2 : Hid (ClOk r c) := hk2; clear hc2 hk2)
    | (go_at_call_of 47 s.fr; refine (claim47 s (some ⟨d1, 0, none⟩) (some ⟨d2, 0, none⟩) (some ⟨d3, 0, none⟩) (some ⟨d4, 0, none⟩) (some ⟨d5, 0, none⟩) (some ⟨d6, 0, none⟩) s.ns s.nl s.nx s.np s.no s.nf _ HS.out hsl (lsAt_le (S0.out.mono (Nat.le_refl _) hb2 (Nat.le_refl _)).l.ls (Nat.zero_le _)) ((S0.out.mono (Nat.le_refl _) hb2 (Nat.le_refl _)).x.ns.le (Nat.zero_le _)) ((S0.out.mono (Nat.le_refl _) hb2 (Nat.le_refl _)).q.ns.le (Nat.zero_le _)) ((S0.out.mono (Nat.le_refl _) hb2 (Nat.le_refl _)).o.ns.le (Nat.zero_le _)) ((S0.out.mono (Nat.le_refl _) hb2 (Nat.le_refl _)).f.ns.le (Nat.zero_le _))).mono ?_; rintro e w3 ⟨d, rfl, hd3, hk3, hb3⟩; have hc3 := hb2.trans (hb3.mono hb2.size); obtain ⟨m0, m1, m2, m3, m4, m5, m6, m7⟩ := (HA0.out.mono hc3 (Nat.le_refl _)).eight; obtain ⟨n0, n1, n2, n3, n4, n5, n6, n7⟩ := (HX0.out.mono hc3 (Nat.le_refl _)).eight; have HC3 : Hid (ClAt w3 r c) := HC2.out.mono hb3 (Nat.le_refl _); have HD3 : Hid (ClAt w3 s d) := hd3; have HK3 : Hid (ClOk s d) := hk3; clear hd3 hk3)
    | (go_at_call 48; refine (against48 r s c d _ HR.out HS.out hrl hsl HC3.out HD3.out HK2.out HK3.out).mono ?_; rintro e w4 ⟨rfl, hb4⟩; have hc4 := hc3.trans (hb4.mono hc3.size); obtain ⟨m0, m1, m2, m3, m4, m5, m6, m7⟩ := (HA0.out.mono hc4 (Nat.le_refl _)).eight; obtain ⟨n0, n1, n2, n3, n4, n5, n6, n7⟩ := (HX0.out.mono hc4 (Nat.le_refl _)).eight))
  all_goals
    go_wp2_with fail
    go_ret
    exact ⟨rfl, B0.out.trans (hc4.mono B0.out.size)⟩

end Go.Proofs.Ytpghgdnhfhdgmaa
