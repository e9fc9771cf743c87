import Derived.Test.YtflomaagenjfpaaIe
import Derived.Test.YtflomaagenjfpaaRi
namespace Go.Proofs.Ytflomaagenjfpaa
open Go.RowKit

/-- what the asking comes to -/
def AgR (r : Rw) (w : World) (e : Ending) (w' : World) : Prop :=
  ∃ (y0 y1 y2 y3 : Option Addr) (m0 k0 m1 k1 m2 k2 m3 k3 : Nat) (wv sv : Value) (o4 o5 : Option Nat), e = .returned (.agg #[.slice y0 m0 k0, .slice y1 m1 k1, .slice y2 m2 k2, .slice y3 m3 k3, wv, sv]) ∧ QAt w' wv (ansN r) (wantF r (leastS r)) o4 ∧ QAt w' sv (ansN r) (leastS r) o5 ∧ (∀ g, o4 = some g → w.heap.size ≤ g) ∧ (∀ g, o5 = some g → w.heap.size ≤ g) ∧ Below w.heap.size w w'

set_option maxRecDepth 100000 in
set_option maxHeartbeats 16000000 in
theorem agreed30 (r : Rw) (xa fa oa ka : Option Addr) (xc fc oc kc : Nat) (w : World) (hs : r.small) (h : RwIn 0 w r xa fa oa ka) :
    Calls Try.prog 30 #[.agg #[.slice xa r.nn xc, .slice fa r.nf fc, .slice oa r.no oc, .slice ka r.nk kc]] w fun e w' => AgR r w e w' := by
  have H : Hid (RwIn 0 w r xa fa oa ka) := h
  have HS : Hid r.small := hs
  have HX : Hid (Box ((w.alloc (.cells #[.slice xa r.nn xc, .slice fa r.nf fc, .slice oa r.no oc, .slice ka r.nk kc] 29)).alloc (.cells #[.slice none 0 0, .slice none 0 0, .slice none 0 0, .slice none 0 0, .slice none 0 0, .slice none 0 0] 48)) w.heap.size 29 #[.slice xa r.nn xc, .slice fa r.nf fc, .slice oa r.no oc, .slice ka r.nk kc] ∧ Box ((w.alloc (.cells #[.slice xa r.nn xc, .slice fa r.nf fc, .slice oa r.no oc, .slice ka r.nk kc] 29)).alloc (.cells #[.slice none 0 0, .slice none 0 0, .slice none 0 0, .slice none 0 0, .slice none 0 0, .slice none 0 0] 48)) (w.heap.size + 1) 48 #[.slice none 0 0, .slice none 0 0, .slice none 0 0, .slice none 0 0, .slice none 0 0, .slice none 0 0] ∧ Below w.heap.size w ((w.alloc (.cells #[.slice xa r.nn xc, .slice fa r.nf fc, .slice oa r.no oc, .slice ka r.nk kc] 29)).alloc (.cells #[.slice none 0 0, .slice none 0 0, .slice none 0 0, .slice none 0 0, .slice none 0 0, .slice none 0 0] 48))) := ⟨(Box.new w 29 _).alloc _, by have := Box.new (w.alloc (.cells #[.slice xa r.nn xc, .slice fa r.nf fc, .slice oa r.no oc, .slice ka r.nk kc] 29)) 48 #[.slice none 0 0, .slice none 0 0, .slice none 0 0, .slice none 0 0, .slice none 0 0, .slice none 0 0]; simpa using this, bel2 w _ _⟩
  clear h hs
  go_enter Try.func30, Try.ntmps30
  go_wp2_with fail
  generalize ((w.alloc (.cells #[.slice xa r.nn xc, .slice fa r.nf fc, .slice oa r.no oc, .slice ka r.nk kc] 29)).alloc (.cells #[.slice none 0 0, .slice none 0 0, .slice none 0 0, .slice none 0 0, .slice none 0 0, .slice none 0 0] 48)) = w0 at HX ⊢
  refine (row9 r xa fa oa ka xc fc oc kc _ HS.out (H.out.mono (Nat.le_refl _) HX.out.2.2 (Nat.le_refl _))).mono ?_
  rintro e w1 ⟨rfl, hb1⟩
  have HX1 : Hid (Box w1 w.heap.size 29 #[.slice xa r.nn xc, .slice fa r.nf fc, .slice oa r.no oc, .slice ka r.nk kc] ∧ Box w1 (w.heap.size + 1) 48 #[.slice none 0 0, .slice none 0 0, .slice none 0 0, .slice none 0 0, .slice none 0 0, .slice none 0 0] ∧ Below w.heap.size w w1) := ⟨HX.out.1.mono hb1 (Nat.le_refl _), HX.out.2.1.mono hb1 (Nat.le_refl _), HX.out.2.2.trans (hb1.mono HX.out.2.2.size)⟩
  clear HX hb1
  have d0 : w1.cell? ⟨w.heap.size + 1, 0, none⟩ = some (.slice none 0 0) := HX1.out.2.1.cell 0
  have f0 := HX1.out.2.1.free 0
  have d1 : w1.cell? ⟨w.heap.size + 1, 1, none⟩ = some (.slice none 0 0) := HX1.out.2.1.cell 1
  have f1 := HX1.out.2.1.free 1
  have d2 : w1.cell? ⟨w.heap.size + 1, 2, none⟩ = some (.slice none 0 0) := HX1.out.2.1.cell 2
  have f2 := HX1.out.2.1.free 2
  have d3 : w1.cell? ⟨w.heap.size + 1, 3, none⟩ = some (.slice none 0 0) := HX1.out.2.1.cell 3
  have f3 := HX1.out.2.1.free 3
  have d4 : w1.cell? ⟨w.heap.size + 1, 4, none⟩ = some (.slice none 0 0) := HX1.out.2.1.cell 4
  have f4 := HX1.out.2.1.free 4
  have d5 : w1.cell? ⟨w.heap.size + 1, 5, none⟩ = some (.slice none 0 0) := HX1.out.2.1.cell 5
  have f5 := HX1.out.2.1.free 5
  by_cases h0 : rowF r = 0
  · rw [h0]
    have HN : Hid (ansN r = r.nn) := by simp [Hid, ansN, h0]
    have HG : Hid (Good r) := good_of h0
    have h60 : r.nn ≤ 60 := HG.out.1
    have hmk := make_rows (P := Try.prog) 22 3 _ 8 1 Try.underlying22 infoInt r.nn (by omega) (by omega)
    simp only [Nat.mul_one] at hmk
    clear h0 d0 d1 d2 d3 d4 d5 f0 f1 f2 f3 f4 f5
    have a0 : w1.cell? ⟨w.heap.size, 0, none⟩ = some (.slice xa r.nn xc) := HX1.out.1.cell 0
    have a1 : w1.cell? ⟨w.heap.size, 1, none⟩ = some (.slice fa r.nf fc) := HX1.out.1.cell 1
    have a2 : w1.cell? ⟨w.heap.size, 2, none⟩ = some (.slice oa r.no oc) := HX1.out.1.cell 2
    have a3 : w1.cell? ⟨w.heap.size, 3, none⟩ = some (.slice ka r.nk kc) := HX1.out.1.cell 3
    have z0 : w.heap.size < w1.heap.size := HX1.out.1.lt
    have ne0 : ¬ (w.heap.size = w1.heap.size) := by omega
    have ne1 : ¬ (w.heap.size = w1.heap.size + 1) := by omega
    have ne2 : ¬ (w.heap.size = w1.heap.size + 1 + 1) := by omega
    have ne3 : ¬ (w1.heap.size = w.heap.size) := by omega
    have ne4 : ¬ (w1.heap.size + 1 = w.heap.size) := by omega
    have ne5 : ¬ (w1.heap.size + 1 + 1 = w.heap.size) := by omega
    have HK : Hid (∀ W, Below w1.heap.size w1 W → W.cell? ⟨w.heap.size, 0, none⟩ = some (.slice xa r.nn xc) ∧ W.cell? ⟨w.heap.size, 1, none⟩ = some (.slice fa r.nf fc) ∧ W.cell? ⟨w.heap.size, 2, none⟩ = some (.slice oa r.no oc) ∧ W.cell? ⟨w.heap.size, 3, none⟩ = some (.slice ka r.nk kc)) := fun W hb => ⟨cell_keep hb z0 a0, cell_keep hb z0 a1, cell_keep hb z0 a2, cell_keep hb z0 a3⟩
    go_wp2_with fail
    rename_i Q1 K1 hK1
    have REST : ∀ (wb sb ab : Nat) (w3 : World), Hid (Below w1.heap.size w1 w3 ∧ Box w3 wb 3 (mk0 (.int .i64 0) r.nn) ∧ Box w3 sb 3 (mk0 (.int .i64 0) r.nn) ∧ Box w3 ab 48 #[.slice xa r.nn xc, .slice fa r.nf fc, .slice oa r.no oc, .slice ka r.nk kc, .slice (some ⟨wb, 0, none⟩) r.nn r.nn, .slice (some ⟨sb, 0, none⟩) r.nn r.nn] ∧ w1.heap.size ≤ wb ∧ w1.heap.size ≤ sb ∧ w1.heap.size ≤ ab ∧ wb ≠ sb ∧ ab ≠ wb ∧ ab ≠ sb) → Exit.then K1 Q1 Exit.normal ⟨#[.agg #[.slice xa r.nn xc, .slice fa r.nf fc, .slice oa r.no oc, .slice ka r.nk kc], .pointer (some ⟨w.heap.size, 0, none⟩), .pointer (some ⟨w.heap.size + 1, 0, none⟩), .pointer (some ⟨ab, 0, none⟩), undef, undef, undef, undef, undef, .agg #[.slice xa r.nn xc, .slice fa r.nf fc, .slice oa r.no oc, .slice ka r.nk kc], .int .i64 0, .bool false, undef, .agg #[.slice xa r.nn xc, .slice fa r.nf fc, .slice oa r.no oc, .slice ka r.nk kc], .pointer (some ⟨w.heap.size, 0, none⟩), .slice xa r.nn xc, .int .i64 r.nn, .slice (some ⟨wb, 0, none⟩) r.nn r.nn, .pointer (some ⟨w.heap.size, 0, none⟩), .slice xa r.nn xc, .int .i64 r.nn, .slice (some ⟨sb, 0, none⟩) r.nn r.nn, .agg #[.slice xa r.nn xc, .slice fa r.nf fc, .slice oa r.no oc, .slice ka r.nk kc, .slice (some ⟨wb, 0, none⟩) r.nn r.nn, .slice (some ⟨sb, 0, none⟩) r.nn r.nn], undef, undef, undef, undef, undef, undef, undef, undef, undef, undef, undef, undef, undef, undef, undef, undef, undef, undef, undef, undef, undef, undef, undef, undef, undef, undef, undef, undef, undef, undef, undef, undef, undef, undef, undef, undef, undef], []⟩ w3 := by
      intro wb sb ab w3 HF
      have hs1 : w.heap.size + 1 < w1.heap.size := HX1.out.2.1.lt
      have M0 : Hid (∃ (w4 : World) (qb : Nat), w4 = w3.alloc (.cells #[.slice none 0 0] 52) ∧ qb = w3.heap.size ∧ St w w4 wb sb ab qb w4.heap.size ∧ Mn w w4 r xa fa oa ka xc fc oc kc wb sb ab qb w4.heap.size (fun j => if j < 0 then lampF (r.T j) 0 else 0) (fun _ => 0) (.slice none 0 0) (idL 0) none w4) := by
        obtain ⟨k1, k2, k3, k4, k5, k6, k7, k8, k9, k10⟩ := HF.out
        have e1 := k2.lt
        have e2 := k3.lt
        have e3 := k4.lt
        have hz : (w3.alloc (.cells #[.slice none 0 0] 52)).heap.size = w3.heap.size + 1 := by simp
        have hb3 : Below w.heap.size w w3 := HX1.out.2.2.trans (k1.mono (by omega))
        refine ⟨_, _, rfl, rfl, ⟨by omega, by omega, by omega, by omega, by omega, by omega, by omega, by omega, Nat.le_refl _, k8, k9, k10, by omega, by omega, by omega⟩, ⟨⟨hb3.alloc hb3.size _, H.out, (QAt.made' k2).alloc _, ((QAt.made' k3).alloc _).congr fun j _ => (if_neg (Nat.not_lt_zero j)).symm, by omega, by omega, k8⟩, (HX1.out.1.mono k1 (Nat.le_refl _)).alloc _, (HX1.out.2.1.mono k1 (Nat.le_refl _)).alloc _, k4.alloc _, Box.new w3 52 _, QAt.nil _ _, fun g e => (nomatch e), fun g e => (nomatch e), fun g h1 h2 => by omega, Nat.le_refl _⟩⟩
      have a3' : (w3.alloc (.cells #[.slice none 0 0] 52)).cell? ⟨w.heap.size, 3, none⟩ = some (.slice ka r.nk kc) := cell_keep (bel1 _ _) (by have := HF.out.1.size; omega) (cell_keep HF.out.1 z0 a3)
      clear HF a0 a1 a2 a3 ne0 ne1 ne2 ne3 ne4 ne5 HK hmk
      go_wp2_with fail
      clear a3'
      obtain ⟨w4, qb, hw4, hqb, hst, hmn⟩ := M0.out
      rw [← hw4, ← hqb]
      have ST : Hid (St w w4 wb sb ab qb w4.heap.size) := hst
      have MN : Hid (Mn w w4 r xa fa oa ka xc fc oc kc wb sb ab qb w4.heap.size (fun j => if j < 0 then lampF (r.T j) 0 else 0) (fun _ => 0) (.slice none 0 0) (idL 0) none w4) := hmn
      clear hw4 hqb hst hmn M0
      go_loopw [26] (fun i wr => ∃ (k : Nat) (v : Value) (og : Option Nat), k ≤ r.nn ∧ i = .int .i64 k ∧ Hid (Mn w w4 r xa fa oa ka xc fc oc kc wb sb ab qb w4.heap.size (fun j => if j < k then lampF (r.T j) 0 else 0) (fun _ => 0) v (idL k) og wr)) (fun i _ => r.nn - (intOf i).toNat)
      case atStart => exact ⟨0, _, none, Nat.zero_le _, rfl, MN⟩
      case round =>
        obtain ⟨k, v, og, hk, rfl, M⟩ := hrel
        clear MN
        by_cases hlt : k < r.nn
        · have hnk : r.nk = r.nn := HG.out.2.2.2.2.2
          have hk0 : (0 : Int) ≤ (k : Int) := by omega
          have hkn : (k : Int) < (r.nn : Int) := by omega
          have hkk : (k : Int) < (r.nk : Int) := by omega
          obtain ⟨b, off, hka, _, hbw, hc⟩ := H.out.k (by omega)
          obtain ⟨ra, rc, c0, hv⟩ := hc k (by omega)
          rw [HG.out.2.2.1 k hlt] at c0 hv
          subst hka
          have HC : Hid (∀ (S W : Nat → Int) Wd, Mn w w4 r xa fa oa (some ⟨b, off, none⟩) xc fc oc kc wb sb ab qb w4.heap.size S W v (idL k) og Wd → Wd.cell? ⟨b, off + k, none⟩ = some (.slice ra ((4 : Nat)) rc) ∧ VsAt 1 0 Wd ra 4 (boolF (r.T k))) := fun S W Wd hW => ⟨cell_keep hW.ak.bel hbw c0, hv.mono (Nat.le_refl _) hW.ak.bel (Nat.le_refl _)⟩
          have cr : wr.cell? ⟨b, off + k, none⟩ = some (.slice ra ((4 : Nat)) rc) := (HC.out _ _ _ M.out).1
          obtain ⟨y, hy⟩ : ∃ y, Hid (lampF (r.T k) 0 = y) := ⟨_, rfl⟩
          clear hc c0 hv hnk hbw
          have H35 : Hid (∀ Wd, Mn w w4 r xa fa oa (some ⟨b, off, none⟩) xc fc oc kc wb sb ab qb w4.heap.size (fun j => if j < k then lampF (r.T j) 0 else 0) (fun _ => 0) v (idL k) og Wd → Calls Try.prog 35 #[.slice ra ((4 : Nat)) rc, .int .i64 0] Wd fun e w' => e = .returned (.int .i64 y) ∧ Mn w w4 r xa fa oa (some ⟨b, off, none⟩) xc fc oc kc wb sb ab qb w4.heap.size (fun j => if j < k then lampF (r.T j) 0 else 0) (fun _ => 0) v (idL k) og w') := fun Wd hW => by
            have := bright35 ra rc (r.T k) 0 Wd (by omega) (by omega) (HC.out _ _ _ hW).2
            rw [hy.out] at this
            refine this.mono ?_
            rintro e w' ⟨he, hb⟩
            subst hb
            exact ⟨he, hW⟩
          have HSW : Hid (∀ (S : Nat → Int) Wd, Mn w w4 r xa fa oa (some ⟨b, off, none⟩) xc fc oc kc wb sb ab qb w4.heap.size S (fun _ => 0) v (idL k) og Wd → Mn w w4 r xa fa oa (some ⟨b, off, none⟩) xc fc oc kc wb sb ab qb w4.heap.size S (fun _ => 0) v (idL k) og (Wd.setCell ⟨wb, k, none⟩ (.int .i64 0))) := fun S Wd hW => by
            have ha := hW.ak.setW hlt 0
            have e : updI (fun _ => (0 : Int)) k 0 = fun _ => 0 := by
              funext j
              simp [updI]
            rw [e] at ha
            exact hW.ask ST.out ha ((Fr.refl (fun b => b = wb ∨ b = sb) Wd).cells (.inl rfl) k _)
          have HSS : Hid (∀ Wd, Mn w w4 r xa fa oa (some ⟨b, off, none⟩) xc fc oc kc wb sb ab qb w4.heap.size (fun j => if j < k then lampF (r.T j) 0 else 0) (fun _ => 0) v (idL k) og Wd → Mn w w4 r xa fa oa (some ⟨b, off, none⟩) xc fc oc kc wb sb ab qb w4.heap.size (fun j => if j < (k + 1) then lampF (r.T j) 0 else 0) (fun _ => 0) v (idL k) og (Wd.setCell ⟨sb, k, none⟩ (.int .i64 y))) := fun Wd hW => by
            have ha := hW.ak.setS hlt y
            have e : updI (fun j => if j < k then lampF (r.T j) 0 else 0) k y = (fun j => if j < (k + 1) then lampF (r.T j) 0 else 0) := by
              funext j
              by_cases e : j = k
              · subst e
                rw [updI_same, if_pos (by omega), hy.out]
              · rw [updI_other _ _ e]
                by_cases e2 : j < k
                · rw [if_pos e2, if_pos (by omega)]
                · rw [if_neg e2, if_neg (by omega)]
            rw [e] at ha
            exact hW.ask ST.out ha ((Fr.refl (fun b => b = wb ∨ b = sb) Wd).cells (.inr rfl) k _)
          have MD : Hid (Mn w w4 r xa fa oa (some ⟨b, off, none⟩) xc fc oc kc wb sb ab qb w4.heap.size (fun j => if j < k then lampF (r.T j) 0 else 0) (fun _ => 0) v (idL k) og wr.drew) := M.out.drew
          have x4 : wr.cell? ⟨ab, 4, none⟩ = some (.slice (some ⟨wb, 0, none⟩) r.nn r.nn) := M.out.box.cell 4
          have x5 : wr.cell? ⟨ab, 5, none⟩ = some (.slice (some ⟨sb, 0, none⟩) r.nn r.nn) := M.out.box.cell 5
          clear M
          go_wp2_with fail
          go_region_held3 (fun w' => w'.cell? ⟨ab, 4, none⟩ = some (.slice (some ⟨wb, 0, none⟩) r.nn r.nn) ∧ w'.cell? ⟨ab, 5, none⟩ = some (.slice (some ⟨sb, 0, none⟩) r.nn r.nn)) (go_keep) (first
            | (go_at_call 35; refine (H35.out _ MD.out).mono ?_; rintro e w2 ⟨rfl, hm2⟩; have N0 : Hid (Mn w w4 r xa fa oa (some ⟨b, off, none⟩) xc fc oc kc wb sb ab qb w4.heap.size (fun j => if j < k then lampF (r.T j) 0 else 0) (fun _ => 0) v (idL k) og w2) := hm2; clear hm2; have N1 : Hid (Mn w w4 r xa fa oa (some ⟨b, off, none⟩) xc fc oc kc wb sb ab qb w4.heap.size (fun j => if j < k then lampF (r.T j) 0 else 0) (fun _ => 0) v (idL k) og (w2.setCell ⟨wb, k, none⟩ (.int .i64 0))) := HSW.out _ _ N0.out; have N2 : Hid (Mn w w4 r xa fa oa (some ⟨b, off, none⟩) xc fc oc kc wb sb ab qb w4.heap.size (fun j => if j < (k + 1) then lampF (r.T j) 0 else 0) (fun _ => 0) v (idL k) og (w2.setCell ⟨sb, k, none⟩ (.int .i64 y))) := HSS.out _ N0.out; have N3 : Hid (Mn w w4 r xa fa oa (some ⟨b, off, none⟩) xc fc oc kc wb sb ab qb w4.heap.size (fun j => if j < (k + 1) then lampF (r.T j) 0 else 0) (fun _ => 0) v (idL k) og ((w2.setCell ⟨wb, k, none⟩ (.int .i64 0)).setCell ⟨sb, k, none⟩ (.int .i64 y))) := HSS.out _ N1.out; have N4 : Hid (Mn w w4 r xa fa oa (some ⟨b, off, none⟩) xc fc oc kc wb sb ab qb w4.heap.size (fun j => if j < (k + 1) then lampF (r.T j) 0 else 0) (fun _ => 0) v (idL k) og ((w2.setCell ⟨sb, k, none⟩ (.int .i64 y)).setCell ⟨wb, k, none⟩ (.int .i64 0))) := HSW.out _ _ N2.out; have p4 : w2.cell? ⟨ab, 4, none⟩ = some (.slice (some ⟨wb, 0, none⟩) r.nn r.nn) := N0.out.box.cell 4; have p5 : w2.cell? ⟨ab, 5, none⟩ = some (.slice (some ⟨sb, 0, none⟩) r.nn r.nn) := N0.out.box.cell 5; have q4 : (w2.setCell ⟨wb, k, none⟩ (.int .i64 0)).cell? ⟨ab, 4, none⟩ = some (.slice (some ⟨wb, 0, none⟩) r.nn r.nn) := N1.out.box.cell 4; have q5 : (w2.setCell ⟨wb, k, none⟩ (.int .i64 0)).cell? ⟨ab, 5, none⟩ = some (.slice (some ⟨sb, 0, none⟩) r.nn r.nn) := N1.out.box.cell 5; have s4 : (w2.setCell ⟨sb, k, none⟩ (.int .i64 y)).cell? ⟨ab, 4, none⟩ = some (.slice (some ⟨wb, 0, none⟩) r.nn r.nn) := N2.out.box.cell 4; have s5 : (w2.setCell ⟨sb, k, none⟩ (.int .i64 y)).cell? ⟨ab, 5, none⟩ = some (.slice (some ⟨sb, 0, none⟩) r.nn r.nn) := N2.out.box.cell 5; have t4 : ((w2.setCell ⟨wb, k, none⟩ (.int .i64 0)).setCell ⟨sb, k, none⟩ (.int .i64 y)).cell? ⟨ab, 4, none⟩ = some (.slice (some ⟨wb, 0, none⟩) r.nn r.nn) := N3.out.box.cell 4; have t5 : ((w2.setCell ⟨wb, k, none⟩ (.int .i64 0)).setCell ⟨sb, k, none⟩ (.int .i64 y)).cell? ⟨ab, 5, none⟩ = some (.slice (some ⟨sb, 0, none⟩) r.nn r.nn) := N3.out.box.cell 5; have u4 : ((w2.setCell ⟨sb, k, none⟩ (.int .i64 y)).setCell ⟨wb, k, none⟩ (.int .i64 0)).cell? ⟨ab, 4, none⟩ = some (.slice (some ⟨wb, 0, none⟩) r.nn r.nn) := N4.out.box.cell 4; have u5 : ((w2.setCell ⟨sb, k, none⟩ (.int .i64 y)).setCell ⟨wb, k, none⟩ (.int .i64 0)).cell? ⟨ab, 5, none⟩ = some (.slice (some ⟨sb, 0, none⟩) r.nn r.nn) := N4.out.box.cell 5; obtain ⟨g0, g1⟩ := N0.out.ak.wq.at0 hlt; obtain ⟨g2, g3⟩ := N0.out.ak.sq.at0 hlt; obtain ⟨g4, g5⟩ := N1.out.ak.sq.at0 hlt; obtain ⟨g6, g7⟩ := N2.out.ak.wq.at0 hlt))
          clear H35 HSW HSS HC MD N0 N1 N2 N4 p4 p5 q4 q5 s4 s5 t4 t5 u4 u5 g0 g1 g2 g3 g4 g5 g6 g7 x4 x5 cr
          generalize ((w2.setCell ⟨wb, k, none⟩ (.int .i64 0)).setCell ⟨sb, k, none⟩ (.int .i64 y)) = w6 at N3 ⊢
          have N5 : Hid (Mn w w4 r xa fa oa (some ⟨b, off, none⟩) xc fc oc kc wb sb ab qb w4.heap.size (fun j => if j < (k + 1) then lampF (r.T j) 0 else 0) (fun _ => 0) v (idL k) og (w6.alloc (.cells #[.int .i64 (k : Int)] 3))) := N3.out.mono (bel1 _ _)
          have hlen : (idL k).length + [(k : Int)].length ≤ 1000000 := by
            rw [idL_len]
            simp only [List.length_cons, List.length_nil]
            omega
          go_wp2_with fail
          refine (put36 qb v (idL k) [(k : Int)] og (some ⟨w6.heap.size, 0, none⟩) 1 1 _ N5.out.qbx N5.out.ql N5.out.ogq (src1L w6 k) rfl hlen).mono ?_
          intro e w7 hp
          obtain ⟨he, v7, og7, hm7⟩ := N5.out.put ST.out hp
          subst he
          have M7 : Hid (Mn w w4 r xa fa oa (some ⟨b, off, none⟩) xc fc oc kc wb sb ab qb w4.heap.size (fun j => if j < (k + 1) then lampF (r.T j) 0 else 0) (fun _ => 0) v7 (idL (k + 1)) og7 w7) := hm7
          clear hp hm7 N5 N3 hlen
          go_wp2_with fail
          go_roundw
          case rel => exact ⟨k + 1, v7, og7, by omega, by go_num, M7⟩
          case measure => simp [intOf]; omega
        · have hnk : r.nk = r.nn := HG.out.2.2.2.2.2
          have hge : ¬ ((k : Int) < (r.nk : Int)) := by omega
          have hkn : k = r.nn := by omega
          have a0 : wr.cell? ⟨w.heap.size, 0, none⟩ = some (.slice xa r.nn xc) := M.out.bx1.cell 0
          have HB : Hid (VsAt 1 0 wr xa r.nn (oneF r.X)) := M.out.ak.rowAt.x
          clear hnk
          go_wp2_with fail
          clear a0 hge
          refine (behind37 xa r.nn xc r.X wr h60 HG.out.2.1 HB.out).mono ?_
          rintro e w5 ⟨ogs, rfl, hbh, hb5⟩
          have BH : Hid (BhAt w5 wr.heap.size r.nn r.X r.nn ogs) := hbh
          have ST5 : Hid (St w w5 wb sb ab qb wr.heap.size) := by
            obtain ⟨n1, n2, n3, n4, l1, l2, l3, l4, l5, d1, d2, d3, d4, d5, d6⟩ := ST.out
            exact ⟨n1, n2, n3, n4, M.out.ak.lt.1, M.out.ak.lt.2, M.out.box.lt, M.out.qbx.lt, hb5.size, d1, d2, d3, d4, d5, d6⟩
          have MM : Hid (TurnM w w5 r xa fa oa ka xc fc oc kc wb sb ab qb wr.heap.size w5 (Lng r.nn (fun i => lampF (r.T i) 0) (idL r.nn))) := by
            have m := M.out.mono hb5
            have hl := (Ask.begin HG.out).low
            refine ⟨_, _, v, idL r.nn, og, Turns.begin HG.out (idL r.nn) (fun i hi => (idL_mem _ _).2 (by omega)) (fun x hx => (idL_mem x _).1 hx), rfl, Lng_bound hl h60 (by rw [idL_len]; exact h60), ⟨{ m.ak with sq := m.ak.sq.congr fun j hj => if_pos (by omega) }, m.bx1, m.res, m.box, m.qbx, by have := m.ql; rw [hkn] at this; exact this, m.og1, fun g e => .inl (by have := M.out.ql; rw [e] at this; exact QAt.lt this), fun _ _ _ => rfl, Nat.le_refl _⟩⟩
          clear hbh hb5 M HB hkn hlt hk ST
          generalize wr.heap.size = bb at BH ST5 MM ⊢
          go_wp2_with fail
          go_loopw [] (fun wr => ∃ m, TurnM w w5 r xa fa oa ka xc fc oc kc wb sb ab qb bb wr m) (fun wr => leastN (TurnM w w5 r xa fa oa ka xc fc oc kc wb sb ab qb bb wr))
          case atStart => exact ⟨_, MM.out⟩
          case round =>
            obtain ⟨S, W, v, Q, og, hT, hm, hle, hmn⟩ := leastN_spec hrel
            have HT : Hid (Turns r S W Q) := hT
            have HM : Hid (Mn w w5 r xa fa oa ka xc fc oc kc wb sb ab qb bb S W v Q og wr) := hmn
            have HE : Hid (leastN (TurnM w w5 r xa fa oa ka xc fc oc kc wb sb ab qb bb wr) = Lng r.nn S Q ∧ Lng r.nn S Q ≤ 100000) := ⟨hm, by rw [← hm]; exact hle⟩
            clear hT hm hle hmn hrel MM
            go_wp2_with fail
            refine (empty38 qb v Q og wr HM.out.qbx HM.out.ql).mono ?_
            rintro e w' ⟨rfl, hw⟩
            have hw := hw.symm
            subst hw
            cases Q with
            | nil =>
              have HF : Hid (∀ w', Fr (fun b => b = w.heap.size + 1) wr w' → QAt w' (.slice (some ⟨wb, 0, none⟩) r.nn r.nn) (ansN r) (wantF r (leastS r)) (some wb) ∧ QAt w' (.slice (some ⟨sb, 0, none⟩) r.nn r.nn) (ansN r) (leastS r) (some sb) ∧ (∀ g, some wb = some g → w.heap.size ≤ g) ∧ (∀ g, some sb = some g → w.heap.size ≤ g) ∧ Below w.heap.size w w') := fun w' hf => by
                obtain ⟨hL, hW⟩ := HT.out.least
                obtain ⟨hl2, hSe⟩ := leastS_eq HT.out.low hL
                obtain ⟨n1, n2, n3, n4, l1, l2, l3, l4, l5, d1, d2, d3, d4, d5, d6⟩ := ST5.out
                have ak := HM.out.ak.fr hf (fun b hb => by omega) (by omega) (by omega)
                rw [HN.out]
                refine ⟨ak.wq.congr fun i hi => (hW i hi).trans (wantF_congr HG.out hSe hi), ak.sq.congr hSe, fun g e => ?_, fun g e => ?_, ak.bel⟩
                · simp only [Option.some.injEq] at e
                  omega
                · simp only [Option.some.injEq] at e
                  omega
              have HF0 : Hid (Fr (fun b => b = w.heap.size + 1) wr wr) := Fr.refl _ _
              have m0 : wr.cell? ⟨ab, 0, none⟩ = some (.slice xa r.nn xc) := HM.out.box.cell 0
              have m1 : wr.cell? ⟨ab, 1, none⟩ = some (.slice fa r.nf fc) := HM.out.box.cell 1
              have m2 : wr.cell? ⟨ab, 2, none⟩ = some (.slice oa r.no oc) := HM.out.box.cell 2
              have m3 : wr.cell? ⟨ab, 3, none⟩ = some (.slice ka r.nk kc) := HM.out.box.cell 3
              have m4 : wr.cell? ⟨ab, 4, none⟩ = some (.slice (some ⟨wb, 0, none⟩) r.nn r.nn) := HM.out.box.cell 4
              have m5 : wr.cell? ⟨ab, 5, none⟩ = some (.slice (some ⟨sb, 0, none⟩) r.nn r.nn) := HM.out.box.cell 5
              have d0 : wr.cell? ⟨w.heap.size + 1, 0, none⟩ = some (.slice none 0 0) := HM.out.res.cell 0
              have f0 := HM.out.res.free 0
              have d1 : wr.cell? ⟨w.heap.size + 1, 1, none⟩ = some (.slice none 0 0) := HM.out.res.cell 1
              have f1 := HM.out.res.free 1
              have d2 : wr.cell? ⟨w.heap.size + 1, 2, none⟩ = some (.slice none 0 0) := HM.out.res.cell 2
              have f2 := HM.out.res.free 2
              have d3 : wr.cell? ⟨w.heap.size + 1, 3, none⟩ = some (.slice none 0 0) := HM.out.res.cell 3
              have f3 := HM.out.res.free 3
              have d4 : wr.cell? ⟨w.heap.size + 1, 4, none⟩ = some (.slice none 0 0) := HM.out.res.cell 4
              have f4 := HM.out.res.free 4
              have d5 : wr.cell? ⟨w.heap.size + 1, 5, none⟩ = some (.slice none 0 0) := HM.out.res.cell 5
              have f5 := HM.out.res.free 5
              clear HM HT HE
              go_wp2_with fail
              refine bodyPost_ret (v := .agg #[.slice xa r.nn xc, .slice fa r.nf fc, .slice oa r.no oc, .slice ka r.nk kc, .slice (some ⟨wb, 0, none⟩) r.nn r.nn, .slice (some ⟨sb, 0, none⟩) r.nn r.nn]) (by simp [results, Try.results30, go_sem, d0, d1, d2, d3, d4, d5]) rfl ⟨_, _, _, _, _, _, _, _, _, _, _, _, _, _, some wb, some sb, rfl, ?_⟩
              exact HF.out _ ((((((HF0.out.cells rfl 0 _).cells rfl 1 _).cells rfl 2 _).cells rfl 3 _).cells rfl 4 _).cells rfl 5 _)
            | cons x Q =>
              obtain ⟨i, rfl⟩ : ∃ i : Nat, x = (i : Int) := ⟨x.toNat, by have := HT.out.din x (by simp); omega⟩
              have hi : i < r.nn := by have := HT.out.din (i : Int) (by simp); omega
              have hi0 : (0 : Int) ≤ (i : Int) := by omega
              have hin : (i : Int) < (r.nn : Int) := by omega
              go_wp2_with fail
              refine (take39 qb v (i : Int) Q og wr HM.out.qbx HM.out.ql HM.out.ogq).mono ?_
              intro e w6 hp
              obtain ⟨he, v6, hm6⟩ := HM.out.take ST5.out hp
              subst he
              have M6 : Hid (Mn w w5 r xa fa oa ka xc fc oc kc wb sb ab qb bb S W v6 Q og w6) := hm6
              clear hp hm6 HM
              have m0 : w6.cell? ⟨ab, 0, none⟩ = some (.slice xa r.nn xc) := M6.out.box.cell 0
              have m1 : w6.cell? ⟨ab, 1, none⟩ = some (.slice fa r.nf fc) := M6.out.box.cell 1
              have m2 : w6.cell? ⟨ab, 2, none⟩ = some (.slice oa r.no oc) := M6.out.box.cell 2
              have m3 : w6.cell? ⟨ab, 3, none⟩ = some (.slice ka r.nk kc) := M6.out.box.cell 3
              have m4 : w6.cell? ⟨ab, 4, none⟩ = some (.slice (some ⟨wb, 0, none⟩) r.nn r.nn) := M6.out.box.cell 4
              have m5 : w6.cell? ⟨ab, 5, none⟩ = some (.slice (some ⟨sb, 0, none⟩) r.nn r.nn) := M6.out.box.cell 5
              go_wp2_with fail
              clear m0 m1 m2 m3 m4 m5
              refine (ask40 w r xa fa oa ka xc fc oc kc wb sb S W i w6 HG.out HT.out.low hi M6.out.ak).mono ?_
              rintro e w7 ⟨rfl, hak, hfr⟩
              have M7 : Hid (Mn w w5 r xa fa oa ka xc fc oc kc wb sb ab qb bb (updI S i (showF r S i)) (updI W i (wantF r S i)) v6 Q og w7) := M6.out.ask ST5.out hak hfr
              clear hak hfr M6
              by_cases hsame : showF r S i = S i
              · have e1 : (showF r S i != S i) = false := by simp [hsame]
                rw [e1]
                have HR : Hid (TurnM w w5 r xa fa oa ka xc fc oc kc wb sb ab qb bb w7 (Lng r.nn (updI S i (showF r S i)) Q)) := ⟨_, _, v6, Q, og, HT.out.same HG.out hsame, rfl, Nat.le_of_lt (Nat.lt_of_lt_of_le (HT.out.lng_same HG.out) HE.out.2), M7.out⟩
                have HL : Hid (Lng r.nn (updI S i (showF r S i)) Q < leastN (TurnM w w5 r xa fa oa ka xc fc oc kc wb sb ab qb bb wr)) := by
                  rw [Hid, HE.out.1]
                  exact HT.out.lng_same HG.out
                clear M7 HT HE e1 hsame
                go_wp2_with fail
                go_roundw
                case rel => exact ⟨_, HR.out⟩
                case measure => exact Nat.lt_of_le_of_lt (leastN_le HR.out) HL.out
              · have e1 : (showF r S i != S i) = true := by simpa using hsame
                rw [e1]
                have hbh := BH.out.keep M7.out.sz M7.out.kb
                obtain ⟨vs, k1, k2, k3, k4, k5⟩ := hbh
                obtain ⟨vi, e2, hq⟩ := k3 i hi
                obtain ⟨a, c, hvi⟩ := QAt.val hq
                subst hvi
                have c0 : w7.cell? ⟨bb, i, none⟩ = some (.slice a (bhL r.X r.nn i).length c) := by rw [k1.cell, e2]
                have HQ : Hid (SrcAt w7 a (bhL r.X r.nn i).length c (fun j => (bhL r.X r.nn i).getD j 0)) := (QL.src hq).1
                have hML := bhL_len r.X i r.nn
                have HMM : Hid (∀ x, x ∈ bhL r.X r.nn i ↔ ∃ j : Nat, j < r.nn ∧ r.X j = (i : Int) ∧ x = (j : Int)) := fun x => bhL_mem r.X i x r.nn
                have hQl : Q.length ≤ 100000 := by
                  have := HE.out.2
                  unfold Lng at this
                  simp only [List.length_cons] at this
                  omega
                have hlen : Q.length + (bhL r.X r.nn i).length ≤ 1000000 := by omega
                clear k1 k2 k3 k4 k5 e2 hq
                have HR : Hid (∀ v8 og8 w8, Mn w w5 r xa fa oa ka xc fc oc kc wb sb ab qb bb (updI S i (showF r S i)) (updI W i (wantF r S i)) v8 (Q ++ bhL r.X r.nn i) og8 w8 → TurnM w w5 r xa fa oa ka xc fc oc kc wb sb ab qb bb w8 (Lng r.nn (updI S i (showF r S i)) (Q ++ bhL r.X r.nn i))) := fun v8 og8 w8 h8 => ⟨_, _, v8, _, og8, HT.out.more HG.out HMM.out, rfl, Nat.le_of_lt (Nat.lt_of_lt_of_le (HT.out.lng_more HG.out hML hsame) HE.out.2), h8⟩
                have HL : Hid (Lng r.nn (updI S i (showF r S i)) (Q ++ bhL r.X r.nn i) < leastN (TurnM w w5 r xa fa oa ka xc fc oc kc wb sb ab qb bb wr)) := by
                  rw [Hid, HE.out.1]
                  exact HT.out.lng_more HG.out hML hsame
                have HP : Hid (∀ e w8, PutR w7 qb (Q ++ bhL r.X r.nn i) og e w8 → e = .returned (.tuple #[]) ∧ ∃ v8 og8, Mn w w5 r xa fa oa ka xc fc oc kc wb sb ab qb bb (updI S i (showF r S i)) (updI W i (wantF r S i)) v8 (Q ++ bhL r.X r.nn i) og8 w8) := fun e w8 hp => M7.out.put ST5.out hp
                have HC : Hid (Calls Try.prog 36 #[.pointer (some ⟨qb, 0, none⟩), .slice a (bhL r.X r.nn i).length c] w7 fun e w' => PutR w7 qb (Q ++ bhL r.X r.nn i) og e w') := put36 qb v6 Q (bhL r.X r.nn i) og a (bhL r.X r.nn i).length c w7 M7.out.qbx M7.out.ql M7.out.ogq HQ.out rfl hlen
                generalize Q ++ bhL r.X r.nn i = Q2 at HR HL HP HC
                generalize (bhL r.X r.nn i).length = ml at HC c0
                clear M7 HT HE e1 hsame HQ HMM hML hQl hlen
                go_wp2_with fail
                refine HC.out.mono ?_
                intro e w8 hp
                obtain ⟨he, v8, og8, hm8⟩ := HP.out e w8 hp
                subst he
                have HR2 : Hid (TurnM w w5 r xa fa oa ka xc fc oc kc wb sb ab qb bb w8 (Lng r.nn (updI S i (showF r S i)) Q2)) := HR.out v8 og8 w8 hm8
                clear hp hm8 HR HP HC c0
                go_wp2_with fail
                go_roundw
                case rel => exact ⟨_, HR2.out⟩
                case measure => exact Nat.lt_of_le_of_lt (leastN_le HR2.out) HL.out
    go_region_held3 (fun w' => w'.cell? ⟨w.heap.size, 0, none⟩ = some (.slice xa r.nn xc) ∧ w'.cell? ⟨w.heap.size, 1, none⟩ = some (.slice fa r.nf fc) ∧ w'.cell? ⟨w.heap.size, 2, none⟩ = some (.slice oa r.no oc) ∧ w'.cell? ⟨w.heap.size, 3, none⟩ = some (.slice ka r.nk kc)) (first | (exact HK.out _ (by repeat (first | exact Below.refl _ _ | refine Below.drew ?_ | refine Below.alloc ?_ (by first | omega | (simp; omega) | (simp; done)) _ | refine Below.setCell ?_ (by first | omega | (simp; omega) | (simp; done)) _))) | go_keep) (fail)
    all_goals
      obtain ⟨t1, t2, t3, t4⟩ := three w1 _ _ _
      first
      | exact REST w1.heap.size (w1.heap.size + 1) (w1.heap.size + 1 + 1) _ ⟨t4, t1, t2, t3, by omega, by omega, by omega, by omega, by omega, by omega⟩
      | exact REST w1.heap.size (w1.heap.size + 1 + 1) (w1.heap.size + 1) _ ⟨t4, t1, t3, t2, by omega, by omega, by omega, by omega, by omega, by omega⟩
      | exact REST (w1.heap.size + 1) w1.heap.size (w1.heap.size + 1 + 1) _ ⟨t4, t2, t1, t3, by omega, by omega, by omega, by omega, by omega, by omega⟩
      | exact REST (w1.heap.size + 1) (w1.heap.size + 1 + 1) w1.heap.size _ ⟨t4, t2, t3, t1, by omega, by omega, by omega, by omega, by omega, by omega⟩
      | exact REST (w1.heap.size + 1 + 1) w1.heap.size (w1.heap.size + 1) _ ⟨t4, t3, t1, t2, by omega, by omega, by omega, by omega, by omega, by omega⟩
      | exact REST (w1.heap.size + 1 + 1) (w1.heap.size + 1) w1.heap.size _ ⟨t4, t3, t2, t1, by omega, by omega, by omega, by omega, by omega, by omega⟩
  · have hne : (rowF r != 0) = true := by simpa using h0
    have HN : Hid (ansN r = 0) := by simp [Hid, ansN, h0]
    have HR : Hid (∀ w', Fr (fun b => b = w.heap.size + 1) w1 w' → Below w.heap.size w w') := fun w' hf => HX1.out.2.2.trans (hf.below HX1.out.2.2.size fun k hk => by omega)
    have HF : Hid (Fr (fun b => b = w.heap.size + 1) w1 w1) := Fr.refl _ _
    clear h0
    go_wp2_with fail
    refine bodyPost_ret (v := .agg #[.slice none 0 0, .slice none 0 0, .slice none 0 0, .slice none 0 0, .slice none 0 0, .slice none 0 0]) (by simp [results, Try.results30, go_sem, d0, d1, d2, d3, d4, d5]) rfl ⟨_, _, _, _, _, _, _, _, _, _, _, _, _, _, none, none, rfl, by rw [HN.out]; exact QAt.nil _ _, by rw [HN.out]; exact QAt.nil _ _, fun g hg => (nomatch hg), fun g hg => (nomatch hg), ?_⟩
    exact HR.out _ ((((((HF.out.cells rfl 0 _).cells rfl 1 _).cells rfl 2 _).cells rfl 3 _).cells rfl 4 _).cells rfl 5 _)

end Go.Proofs.Ytflomaagenjfpaa
