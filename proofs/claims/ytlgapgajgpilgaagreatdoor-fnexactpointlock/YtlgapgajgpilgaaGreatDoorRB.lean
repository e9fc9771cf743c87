import Derived.Test.YtlgapgajgpilgaaGreatDoorBA
import Derived.Test.YtlgapgajgpilgaaGreatDoorGSaH5
import Derived.Test.YtlgapgajgpilgaaGreatDoorRA
import Derived.Test.YtlgapgajgpilgaaGreatDoorK19
import Derived.Test.YtlgapgajgpilgaaGreatDoorK22
import Derived.Test.YtlgapgajgpilgaaGreatDoorEq
import Derived.Test.YtlgapgajgpilgaaGreatDoorTp
namespace Go.Proofs.YtlgapgajgpilgaaGreatDoor
open Go.RowKit Go.Lib

/-- marks of numbers -/
def mkI (k : Nat) (j : Nat) : Int := ((k + j : Nat) : Int)
set_option maxHeartbeats 2000000 in
theorem mark20 (B : Nat) (a : Option Addr) (n c : Nat) (F : Nat → Int) (k : Nat) (w : World) (hn : n ≤ 1048576) (hk : k ≤ 100000000000000) (hQ : VOwn B 3 1 w (.slice a n c) n (oneF F)) :
    Calls Tryz.prog 20 #[.slice a n c, .int .i64 (k : Int)] w fun e w' => e = .returned (.int .i64 ((k + n : Nat) : Int)) ∧ VOwn B 3 1 w' (.slice a n c) n (oneF (mkI k)) ∧ Fr (fun b => (Value.slice a n c).ownBlock = some b) w w' := by
  have HQ : Hid (VOwn B 3 1 w (.slice a n c) n (oneF F)) := hQ
  clear hQ
  go_enter Tryz.func20, Tryz.ntmps20
  go_wp2_with fail
  go_loopw [1, 5] (fun l i wr => ∃ q : Nat, q ≤ n ∧ i = .int .i64 (q : Int) ∧ l = .int .i64 ((k + q : Nat) : Int) ∧ Hid (VOwn B 3 1 wr (.slice a n c) n (oneF fun j => if j < q then mkI k j else F j) ∧ Fr (fun b => (Value.slice a n c).ownBlock = some b) w wr)) (fun _ i _ => n - (intOf i).toNat)
  case atStart => exact ⟨0, Nat.zero_le _, rfl, rfl, HQ.out.congr fun j _ _ _ => by simp [oneF], Fr.refl _ _⟩
  case round =>
    obtain ⟨q, hq, rfl, rfl, M⟩ := hrel
    by_cases hlt : q < n
    · obtain ⟨g, ha, _, _⟩ := M.out.1.addr (by omega)
      subst ha
      have hq0 : (0 : Int) ≤ (q : Int) := by omega
      have hqn : (q : Int) < (n : Int) := by omega
      have d0 : wr.cell? ⟨g, q, none⟩ = some (.int .i64 (if q < q then mkI k q else F q)) := by have := M.out.1.cell hlt (j := 0) (by omega); rwa [Nat.mul_one] at this
      have d1 := M.out.1.free q
      have M2 : Hid (VOwn B 3 1 (wr.setCell ⟨g, q, none⟩ (.int .i64 ((k + q : Nat) : Int))) (.slice (some ⟨g, 0, none⟩) n c) n (oneF fun j => if j < q + 1 then mkI k j else F j) ∧ Fr (fun b => (Value.slice (some ⟨g, 0, none⟩) n c).ownBlock = some b) w (wr.setCell ⟨g, q, none⟩ (.int .i64 ((k + q : Nat) : Int)))) := by
        refine ⟨M.out.1.store1 hlt _ fun j hj => ?_, M.out.2.cells rfl _ _⟩
        unfold upd
        by_cases e : j = q
        · subst e
          simp [oneF, mkI]
        · have h1 : (j < q + 1) = (j < q) := by simp; omega
          simp [oneF, e, h1]
      clear M
      go_wp2_with fail
      go_roundw
      case rel => exact ⟨q + 1, by omega, by go_num, by go_num, M2⟩
      case measure => simp [intOf]; omega
    · have hge : ¬ ((q : Int) < (n : Int)) := by omega
      have hqn : q = n := by omega
      have HR : Hid (VOwn B 3 1 wr (.slice a n c) n (oneF (mkI k)) ∧ Fr (fun b => (Value.slice a n c).ownBlock = some b) w wr) := by
        refine ⟨M.out.1.congr fun j hj _ _ => ?_, M.out.2⟩
        have hjq : j < q := by omega
        simp [oneF, hjq]
      clear M
      go_wp2_with fail
      go_ret
      exact ⟨by first | rfl | (rw [hqn]; rfl), HR.out⟩
set_option maxHeartbeats 2000000 in
theorem held21 (a : Option Addr) (n c : Nat) (k : Nat) (w : World) (hn : n ≤ 1048576) (hk : k ≤ 100000000000000) (hQ : VsAt 1 0 w a n (oneF (mkI k))) :
    Calls Tryz.prog 21 #[.slice a n c, .int .i64 (k : Int)] w fun e w' => e = .returned (.int .i64 ((k + n : Nat) : Int)) ∧ w' = w := by
  have H : Hid (VsAt 1 0 w a n (oneF (mkI k))) := hQ
  clear hQ
  go_enter Tryz.func21, Tryz.ntmps21
  go_wp2_with fail
  go_loop [1, 5] (fun l i => ∃ q : Nat, q ≤ n ∧ i = .int .i64 (q : Int) ∧ l = .int .i64 ((k + q : Nat) : Int)) (fun _ i => n - (intOf i).toNat)
  case atStart => exact ⟨0, Nat.zero_le _, rfl, rfl⟩
  case round =>
    obtain ⟨q, hq, rfl, rfl⟩ := hrel
    by_cases hlt : q < n
    · obtain ⟨b, off, rfl, _, hb, hc⟩ := H.out (by omega)
      have c0 : w.cell? ⟨b, off + q, none⟩ = some (.int .i64 ((k + q : Nat) : Int)) := by have := hc q hlt 0 (by omega); rwa [Nat.mul_one] at this
      have hk0 : (0 : Int) ≤ (q : Int) := by omega
      have hkn : (q : Int) < (n : Int) := by omega
      clear hc
      go_wp2_with fail
      go_round
      case rel => exact ⟨q + 1, by omega, by go_num, by go_num⟩
      case measure => simp [intOf]; omega
    · have hge : ¬ ((q : Int) < (n : Int)) := by omega
      have hqn : q = n := by omega
      go_wp2_with fail
      go_ret
      exact ⟨by first | rfl | (rw [hqn]; rfl), rfl⟩

end Go.Proofs.YtlgapgajgpilgaaGreatDoor

namespace Go.Proofs.YtlgapgajgpilgaaGreatDoor
open Go.RowKit Go.Lib

theorem FmOwn.fr {B : Nat} {w w' : World} {f : Fm} {ov pv hv : Value} {r : Nat → Nat} {X : Nat → Prop} (h : FmOwn B w f ov pv hv r) (hf : Fr X w w') (h1 : ∀ g, ov.ownBlock = some g → ¬ X g) (h2 : ∀ g, pv.ownBlock = some g → ¬ X g) (h3 : ∀ g, hv.ownBlock = some g → ¬ X g) (h4 : ∀ i, i < f.nh → ¬ X (r i)) : FmOwn B w' f ov pv hv r :=
  ⟨h.o.fr hf h1, h.p.fr hf h2, ⟨h.h.own.fr hf h3, fun i hi => ⟨(h.h.row i hi).1.fr hf fun g e => by have e := own_block e; subst e; exact h4 i hi, (h.h.row i hi).2⟩, h.h.inj⟩, h.ne⟩
theorem FmOwn.fr_ge {B : Nat} {w w' : World} {f : Fm} {ov pv hv : Value} {r : Nat → Nat} {X : Nat → Prop} (h : FmOwn B w f ov pv hv r) (hf : Fr X w w') (hX : ∀ b, X b → b < B) : FmOwn B w' f ov pv hv r :=
  h.fr hf (fun g e x => by have := (h.o.lt e).1; have := hX g x; omega) (fun g e x => by have := (h.p.lt e).1; have := hX g x; omega) (fun g e x => by have := (h.h.own.lt e).1; have := hX g x; omega) (fun i hi x => by have := (h.h.row i hi).2; have := hX _ x; omega)
set_option maxRecDepth 100000 in
set_option maxHeartbeats 32000000 in
theorem law4 (p : Pl) (f : Fm) (wa ya ba : Option Addr) (wc yc bc : Nat) (oa pa ha : Option Addr) (oc pc hc : Nat) (et : TypeId) (ev : Value) (kk : Int) (w : World) (hpf : p.fits) (hff : f.fits) (hP : PlIn 0 w p wa ya ba) (hF : FmIn 0 w f oa pa ha) (he : w.cell? ⟨0, 0, none⟩ = some (.iface et ev)) (h0 : 0 < w.heap.size) :
    Calls Tryz.prog 4 #[.agg #[.int .i64 p.sec, .slice wa p.nw wc, .slice ya p.ny yc, .slice ba p.nb bc, .int .i64 p.hold], .agg #[.bool f.ok, .slice oa f.no oc, .slice pa f.np pc, .slice ha f.nh hc], .int .i64 kk] w fun e w' => e = .returned (.bool true) ∧ Below w.heap.size w w' := by
  have H : Hid (PlIn 0 w p wa ya ba ∧ FmIn 0 w f oa pa ha ∧ w.cell? ⟨0, 0, none⟩ = some (.iface et ev) ∧ 0 < w.heap.size) := ⟨hP, hF, he, h0⟩
  have S0 : Hid (Below w.heap.size w ((w.alloc (.cells #[.int .i64 p.sec, .slice wa p.nw wc, .slice ya p.ny yc, .slice ba p.nb bc, .int .i64 p.hold] 26)).alloc (.cells #[.bool f.ok, .slice oa f.no oc, .slice pa f.np pc, .slice ha f.nh hc] 31)) ∧ Box ((w.alloc (.cells #[.int .i64 p.sec, .slice wa p.nw wc, .slice ya p.ny yc, .slice ba p.nb bc, .int .i64 p.hold] 26)).alloc (.cells #[.bool f.ok, .slice oa f.no oc, .slice pa f.np pc, .slice ha f.nh hc] 31)) w.heap.size 26 #[.int .i64 p.sec, .slice wa p.nw wc, .slice ya p.ny yc, .slice ba p.nb bc, .int .i64 p.hold] ∧ Box ((w.alloc (.cells #[.int .i64 p.sec, .slice wa p.nw wc, .slice ya p.ny yc, .slice ba p.nb bc, .int .i64 p.hold] 26)).alloc (.cells #[.bool f.ok, .slice oa f.no oc, .slice pa f.np pc, .slice ha f.nh hc] 31)) (w.heap.size + 1) 31 #[.bool f.ok, .slice oa f.no oc, .slice pa f.np pc, .slice ha f.nh hc]) := ⟨bel2 _ _ _, (Box.new _ _ _).alloc _, by have := Box.new (w.alloc (.cells #[.int .i64 p.sec, .slice wa p.nw wc, .slice ya p.ny yc, .slice ba p.nb bc, .int .i64 p.hold] 26)) 31 #[.bool f.ok, .slice oa f.no oc, .slice pa f.np pc, .slice ha f.nh hc]; simpa using this⟩
  clear hP hF he h0
  go_enter Tryz.func4, Tryz.ntmps4
  go_wp2_with fail
  generalize ((w.alloc (.cells #[.int .i64 p.sec, .slice wa p.nw wc, .slice ya p.ny yc, .slice ba p.nb bc, .int .i64 p.hold] 26)).alloc (.cells #[.bool f.ok, .slice oa f.no oc, .slice pa f.np pc, .slice ha f.nh hc] 31)) = V0 at S0 ⊢
  refine (szPlan p wa ya ba wc yc bc 1048576 _ hpf (by omega) (by omega) (H.out.1.mono (Nat.le_refl _) S0.out.1 (Nat.le_refl _))).mono ?_
  rintro e w1 ⟨r, rfl, hr1, hr2, hb1⟩
  have S1 : Hid (Below w.heap.size w w1 ∧ Box w1 w.heap.size 26 #[.int .i64 p.sec, .slice wa p.nw wc, .slice ya p.ny yc, .slice ba p.nb bc, .int .i64 p.hold] ∧ Box w1 (w.heap.size + 1) 31 #[.bool f.ok, .slice oa f.no oc, .slice pa f.np pc, .slice ha f.nh hc]) := ⟨S0.out.1.trans (hb1.mono S0.out.1.size), S0.out.2.1.mono hb1 (Nat.le_refl _), S0.out.2.2.mono hb1 (Nat.le_refl _)⟩
  clear hb1 S0
  by_cases hneg : r < 0
  · clear hr2
    go_wp2_with fail
    go_ret
    exact ⟨rfl, S1.out.1⟩
  have HS : Hid p.small := hr2 (by omega)
  clear hr2
  have b0 : w1.cell? ⟨(w.heap.size + 1), 0, none⟩ = some (.bool f.ok) := S1.out.2.2.cell 0
  have b1 : w1.cell? ⟨(w.heap.size + 1), 1, none⟩ = some (.slice oa f.no oc) := S1.out.2.2.cell 1
  have b2 : w1.cell? ⟨(w.heap.size + 1), 2, none⟩ = some (.slice pa f.np pc) := S1.out.2.2.cell 2
  have b3 : w1.cell? ⟨(w.heap.size + 1), 3, none⟩ = some (.slice ha f.nh hc) := S1.out.2.2.cell 3
  go_wp2_with fail
  clear b0 b1 b2 b3
  refine (szFrame f oa pa ha oc pc hc r _ hff (by omega) (by omega) (H.out.2.1.mono (Nat.le_refl _) S1.out.1 (Nat.le_refl _))).mono ?_
  rintro e w2 ⟨r2, rfl, hr3, hr4, hb2⟩
  have S2 : Hid (Below w.heap.size w w2 ∧ Box w2 w.heap.size 26 #[.int .i64 p.sec, .slice wa p.nw wc, .slice ya p.ny yc, .slice ba p.nb bc, .int .i64 p.hold] ∧ Box w2 (w.heap.size + 1) 31 #[.bool f.ok, .slice oa f.no oc, .slice pa f.np pc, .slice ha f.nh hc]) := ⟨S1.out.1.trans (hb2.mono S1.out.1.size), S1.out.2.1.mono hb2 (Nat.le_refl _), S1.out.2.2.mono hb2 (Nat.le_refl _)⟩
  clear hb2 S1
  by_cases hneg2 : r2 < 0
  · clear hr4
    go_wp2_with fail
    go_ret
    exact ⟨rfl, S2.out.1⟩
  have HFS : Hid f.small := hr4 (by omega)
  clear hr4
  have HC : Hid (∀ W, Below w2.heap.size w2 W → Below w.heap.size w W ∧ Box W w.heap.size 26 #[.int .i64 p.sec, .slice wa p.nw wc, .slice ya p.ny yc, .slice ba p.nb bc, .int .i64 p.hold] ∧ Box W (w.heap.size + 1) 31 #[.bool f.ok, .slice oa f.no oc, .slice pa f.np pc, .slice ha f.nh hc]) := fun W hB => ⟨S2.out.1.trans (hB.mono S2.out.1.size), S2.out.2.1.mono hB (Nat.le_refl _), S2.out.2.2.mono hB (Nat.le_refl _)⟩
  have HTP : Hid (∀ W, Below w2.heap.size w2 W → Calls Tryz.prog 10 #[.agg #[.int .i64 p.sec, .slice wa p.nw wc, .slice ya p.ny yc, .slice ba p.nb bc, .int .i64 p.hold]] W fun e w' => ∃ wb yb bb lo r, e = .returned (.agg #[.int .i64 p.sec, .slice (some ⟨wb, 0, none⟩) p.nw p.nw, .slice (some ⟨yb, 0, none⟩) p.ny p.ny, .slice (some ⟨bb, 0, none⟩) p.nb p.nb, .int .i64 p.hold]) ∧ PlOwn W.heap.size w' p wb yb bb lo r ∧ Below W.heap.size W w') := fun W hB => toPlan p wa ya ba wc yc bc W HS.out (H.out.1.mono (Nat.le_refl _) (HC.out W hB).1 (Nat.le_refl _))
  have HTF : Hid (∀ W, Below w2.heap.size w2 W → Calls Tryz.prog 11 #[.agg #[.bool f.ok, .slice oa f.no oc, .slice pa f.np pc, .slice ha f.nh hc]] W fun e w' => TfR W f e w') := fun W hB => toFrame10 f oa pa ha oc pc hc W HFS.out (H.out.2.1.mono (Nat.le_refl _) (HC.out W hB).1 (Nat.le_refl _))
  have HEL : Hid (∀ W, Below w2.heap.size w2 W → W.cell? ⟨0, 0, none⟩ = some (.iface et ev) ∧ 0 < W.heap.size) := fun W hB => ⟨cell_keep (HC.out W hB).1 H.out.2.2.2 H.out.2.2.1, Nat.lt_of_lt_of_le H.out.2.2.2 (HC.out W hB).1.size⟩
  obtain ⟨m, HM⟩ : ∃ m, Hid (ptN p f kk = m) := ⟨_, rfl⟩
  obtain ⟨D, HDD⟩ : ∃ D, Hid (ptD p f kk = D) := ⟨_, rfl⟩
  have hm : m ≤ 1048576 := by have := ptN_le (p := p) f kk; have := HS.out.2.1; have := HM.out; omega
  have MD : Hid (Below w2.heap.size w2 w2.drew) := (Below.refl _ _).drew
  have a0 : w2.cell? ⟨w.heap.size, 0, none⟩ = some (.int .i64 p.sec) := S2.out.2.1.cell 0
  have a1 : w2.cell? ⟨w.heap.size, 1, none⟩ = some (.slice wa p.nw wc) := S2.out.2.1.cell 1
  have a2 : w2.cell? ⟨w.heap.size, 2, none⟩ = some (.slice ya p.ny yc) := S2.out.2.1.cell 2
  have a3 : w2.cell? ⟨w.heap.size, 3, none⟩ = some (.slice ba p.nb bc) := S2.out.2.1.cell 3
  have a4 : w2.cell? ⟨w.heap.size, 4, none⟩ = some (.int .i64 p.hold) := S2.out.2.1.cell 4
  have b0 : w2.cell? ⟨(w.heap.size + 1), 0, none⟩ = some (.bool f.ok) := S2.out.2.2.cell 0
  have b1 : w2.cell? ⟨(w.heap.size + 1), 1, none⟩ = some (.slice oa f.no oc) := S2.out.2.2.cell 1
  have b2 : w2.cell? ⟨(w.heap.size + 1), 2, none⟩ = some (.slice pa f.np pc) := S2.out.2.2.cell 2
  have b3 : w2.cell? ⟨(w.heap.size + 1), 3, none⟩ = some (.slice ha f.nh hc) := S2.out.2.2.cell 3
  go_wp2_with fail
  refine wp_region_held_drew (S := (fun wx : World => wx.cell? ⟨w.heap.size, 0, none⟩ = some (.int .i64 p.sec) ∧ wx.cell? ⟨w.heap.size, 1, none⟩ = some (.slice wa p.nw wc) ∧ wx.cell? ⟨w.heap.size, 2, none⟩ = some (.slice ya p.ny yc) ∧ wx.cell? ⟨w.heap.size, 3, none⟩ = some (.slice ba p.nb bc) ∧ wx.cell? ⟨w.heap.size, 4, none⟩ = some (.int .i64 p.hold) ∧ wx.cell? ⟨(w.heap.size + 1), 0, none⟩ = some (.bool f.ok) ∧ wx.cell? ⟨(w.heap.size + 1), 1, none⟩ = some (.slice oa f.no oc) ∧ wx.cell? ⟨(w.heap.size + 1), 2, none⟩ = some (.slice pa f.np pc) ∧ wx.cell? ⟨(w.heap.size + 1), 3, none⟩ = some (.slice ha f.nh hc))) (by kernel_rfl) ?_ (fun hHeld => ?_)
  · exact ⟨a0, a1, a2, a3, a4, b0, b1, b2, b3⟩
  refine take_lit (i := 0) (v := ?vr1x0) rfl (by kernel_rfl) (by kernel_rfl) (by kernel_rfl) (fun _ _ _ h => h) (Or.inl ⟨by rfl, ?hyr1x0⟩) (by assumption) ?restr1x0
  case hyr1x0 => (intro wq hSw; (try dsimp only at hSw); go_simp; try with_reducible rfl)
  simp only [Act.put, List.setIfInBounds_toArray, List.set_cons_zero, List.set_cons_succ]
  refine take_lit (i := 2) (v := ?vr1x2) rfl (by kernel_rfl) (by kernel_rfl) (by kernel_rfl) (fun _ _ _ h => h) (Or.inl ⟨by rfl, ?hyr1x2⟩) (by assumption) ?restr1x2
  case hyr1x2 => (intro wq hSw; (try dsimp only at hSw); go_simp; try with_reducible rfl)
  simp only [Act.put, List.setIfInBounds_toArray, List.set_cons_zero, List.set_cons_succ]
  refine take_lit (i := 4) (v := ?vr1x4) rfl (by kernel_rfl) (by kernel_rfl) (by kernel_rfl) (fun _ _ _ h => h) (Or.inl ⟨by rfl, ?hyr1x4⟩) (by assumption) ?restr1x4
  case hyr1x4 => (intro wq hSw; (try dsimp only at hSw); go_simp; try with_reducible rfl)
  simp only [Act.put, List.setIfInBounds_toArray, List.set_cons_zero, List.set_cons_succ]
  refine ready_lit (i := 1) (by kernel_rfl) rfl (fun K hK => ?_)
  go_simp
  refine (HTP.out _ MD.out).mono ?_
  rintro e w3 ⟨wb2, yb2, bb2, lo2, rr2, rfl, ho2, hp2⟩
  have Bw3 := MD.out.trans (hp2.mono MD.out.size)
  go_wp2_with fail
  refine hK.out _ _ ?_ (fun hHeld1 => ?_)
  · exact ⟨(HC.out w3 Bw3).2.1.cell 0, (HC.out w3 Bw3).2.1.cell 1, (HC.out w3 Bw3).2.1.cell 2, (HC.out w3 Bw3).2.1.cell 3, (HC.out w3 Bw3).2.1.cell 4, (HC.out w3 Bw3).2.2.cell 0, (HC.out w3 Bw3).2.2.cell 1, (HC.out w3 Bw3).2.2.cell 2, (HC.out w3 Bw3).2.2.cell 3⟩
  clear hK K
  refine ready_lit (i := 3) (by kernel_rfl) rfl (fun K hK => ?_)
  go_simp
  refine (HTF.out _ Bw3).mono ?_
  rintro e w4 ⟨ob2, pb2, hb2, r2, rfl, hf2, hq2⟩
  have Bw4 := Bw3.trans (hq2.mono Bw3.size)
  go_wp2_with fail
  refine hK.out _ _ ?_ (fun hHeld3 => ?_)
  · exact ⟨(HC.out w4 Bw4).2.1.cell 0, (HC.out w4 Bw4).2.1.cell 1, (HC.out w4 Bw4).2.1.cell 2, (HC.out w4 Bw4).2.1.cell 3, (HC.out w4 Bw4).2.1.cell 4, (HC.out w4 Bw4).2.2.cell 0, (HC.out w4 Bw4).2.2.cell 1, (HC.out w4 Bw4).2.2.cell 2, (HC.out w4 Bw4).2.2.cell 3⟩
  clear hK K
  refine ready_lit (i := 5) (by kernel_rfl) rfl (fun K hK => ?_)
  go_simp
  refine (point15 p f (some ⟨wb2, 0, none⟩) (some ⟨yb2, 0, none⟩) (some ⟨bb2, 0, none⟩) p.nw p.ny p.nb ob2 0 pb2 0 (some ⟨hb2, 0, none⟩) f.no f.np f.nh kk w4 HS.out HFS.out ((ho2.in (Nat.zero_le _)).mono (Nat.le_refl _) hq2 (Nat.le_refl _)) (hf2.in (Nat.zero_le _))).mono ?_
  rintro e w5 ⟨sa, sc, he, ho, hb⟩
  rw [HM.out] at he ho
  rw [HDD.out] at ho
  subst he
  have Bw5 := Bw4.trans (hb.mono Bw4.size)
  go_wp2_with fail
  refine hK.out _ _ ?_ (fun hHeld5 => ?_)
  · exact ⟨(HC.out w5 Bw5).2.1.cell 0, (HC.out w5 Bw5).2.1.cell 1, (HC.out w5 Bw5).2.1.cell 2, (HC.out w5 Bw5).2.1.cell 3, (HC.out w5 Bw5).2.1.cell 4, (HC.out w5 Bw5).2.2.cell 0, (HC.out w5 Bw5).2.2.cell 1, (HC.out w5 Bw5).2.2.cell 2, (HC.out w5 Bw5).2.2.cell 3⟩
  clear hK K
  refine take_lit (i := 6) (v := ?vr1x6) rfl (by kernel_rfl) (by kernel_rfl) (by kernel_rfl) (fun _ _ _ h => h) (Or.inl ⟨by rfl, ?hyr1x6⟩) (by assumption) ?restr1x6
  case hyr1x6 => (intro wq hSw; (try dsimp only at hSw); go_simp; try with_reducible rfl)
  simp only [Act.put, List.setIfInBounds_toArray, List.set_cons_zero, List.set_cons_succ]
  refine wpAnyH_done (by kernel_rfl) ?_ _
  have HSP : Hid (Below w2.heap.size w2 w5 ∧ VOwn 0 3 1 w5 (.slice sa m sc) m (oneF D)) := ⟨Bw5, ho.keep (Nat.zero_le _) fun _ _ => rfl⟩
  clear ho2 hp2 hf2 hq2 ho hb Bw3 Bw4 Bw5 a0 a1 a2 a3 a4 b0 b1 b2 b3 MD S2
  have a0 : w5.cell? ⟨w.heap.size, 0, none⟩ = some (.int .i64 p.sec) := (HC.out w5 HSP.out.1).2.1.cell 0
  have a1 : w5.cell? ⟨w.heap.size, 1, none⟩ = some (.slice wa p.nw wc) := (HC.out w5 HSP.out.1).2.1.cell 1
  have a2 : w5.cell? ⟨w.heap.size, 2, none⟩ = some (.slice ya p.ny yc) := (HC.out w5 HSP.out.1).2.1.cell 2
  have a3 : w5.cell? ⟨w.heap.size, 3, none⟩ = some (.slice ba p.nb bc) := (HC.out w5 HSP.out.1).2.1.cell 3
  have a4 : w5.cell? ⟨w.heap.size, 4, none⟩ = some (.int .i64 p.hold) := (HC.out w5 HSP.out.1).2.1.cell 4
  go_wp2_with fail
  clear a0 a1 a2 a3 a4
  refine (HTP.out _ HSP.out.1).mono ?_
  rintro e w6 ⟨wb5, yb5, bb5, lo5, rr5, rfl, ho6, hb6⟩
  have PW : Hid (∀ W, Below w6.heap.size w6 W → PlW w5.heap.size w6.heap.size W p wb5 yb5 bb5 rr5 ∧ PlOwn 0 W p wb5 yb5 bb5 lo5 rr5) := fun W hB => ⟨(ho6.pw (Nat.le_refl _)).mk' (Mk.of_below hB), ho6.mono (Nat.zero_le _) hB (Nat.le_refl _)⟩
  have B6 : Hid (Below w5.heap.size w5 w6) := hb6
  clear ho6 hb6
  have B7 : Hid (Below w6.heap.size w6 (w6.alloc (.cells #[.int .i64 p.sec, .slice (some ⟨wb5, 0, none⟩) p.nw p.nw, .slice (some ⟨yb5, 0, none⟩) p.ny p.ny, .slice (some ⟨bb5, 0, none⟩) p.nb p.nb, .int .i64 p.hold] 37)) ∧ Box (w6.alloc (.cells #[.int .i64 p.sec, .slice (some ⟨wb5, 0, none⟩) p.nw p.nw, .slice (some ⟨yb5, 0, none⟩) p.ny p.ny, .slice (some ⟨bb5, 0, none⟩) p.nb p.nb, .int .i64 p.hold] 37)) w6.heap.size 37 #[.int .i64 p.sec, .slice (some ⟨wb5, 0, none⟩) p.nw p.nw, .slice (some ⟨yb5, 0, none⟩) p.ny p.ny, .slice (some ⟨bb5, 0, none⟩) p.nb p.nb, .int .i64 p.hold]) := ⟨bel1 _ _, Box.new _ _ _⟩
  have HB7 := HSP.out.1.trans ((B6.out.trans (B7.out.1.mono B6.out.size)).mono HSP.out.1.size)
  have b0 : (w6.alloc (.cells #[.int .i64 p.sec, .slice (some ⟨wb5, 0, none⟩) p.nw p.nw, .slice (some ⟨yb5, 0, none⟩) p.ny p.ny, .slice (some ⟨bb5, 0, none⟩) p.nb p.nb, .int .i64 p.hold] 37)).cell? ⟨(w.heap.size + 1), 0, none⟩ = some (.bool f.ok) := (HC.out _ HB7).2.2.cell 0
  have b1 : (w6.alloc (.cells #[.int .i64 p.sec, .slice (some ⟨wb5, 0, none⟩) p.nw p.nw, .slice (some ⟨yb5, 0, none⟩) p.ny p.ny, .slice (some ⟨bb5, 0, none⟩) p.nb p.nb, .int .i64 p.hold] 37)).cell? ⟨(w.heap.size + 1), 1, none⟩ = some (.slice oa f.no oc) := (HC.out _ HB7).2.2.cell 1
  have b2 : (w6.alloc (.cells #[.int .i64 p.sec, .slice (some ⟨wb5, 0, none⟩) p.nw p.nw, .slice (some ⟨yb5, 0, none⟩) p.ny p.ny, .slice (some ⟨bb5, 0, none⟩) p.nb p.nb, .int .i64 p.hold] 37)).cell? ⟨(w.heap.size + 1), 2, none⟩ = some (.slice pa f.np pc) := (HC.out _ HB7).2.2.cell 2
  have b3 : (w6.alloc (.cells #[.int .i64 p.sec, .slice (some ⟨wb5, 0, none⟩) p.nw p.nw, .slice (some ⟨yb5, 0, none⟩) p.ny p.ny, .slice (some ⟨bb5, 0, none⟩) p.nb p.nb, .int .i64 p.hold] 37)).cell? ⟨(w.heap.size + 1), 3, none⟩ = some (.slice ha f.nh hc) := (HC.out _ HB7).2.2.cell 3
  go_wp2_with fail
  clear b0 b1 b2 b3 HB7
  generalize w6.alloc (.cells #[.int .i64 p.sec, .slice (some ⟨wb5, 0, none⟩) p.nw p.nw, .slice (some ⟨yb5, 0, none⟩) p.ny p.ny, .slice (some ⟨bb5, 0, none⟩) p.nb p.nb, .int .i64 p.hold] 37) = V7 at B7 ⊢
  have C7 : Hid (Below w2.heap.size w2 V7 ∧ w5.heap.size ≤ w6.heap.size ∧ w6.heap.size < V7.heap.size) := ⟨HSP.out.1.trans ((B6.out.trans (B7.out.1.mono B6.out.size)).mono HSP.out.1.size), B6.out.size, B7.out.2.lt⟩
  refine (HTF.out _ C7.out.1).mono ?_
  rintro e w8 ⟨ob5, pb5, hb5, r5, rfl, hf8, hb8⟩
  have B8 : Hid (Below V7.heap.size V7 (w8.alloc (.cells #[.bool f.ok, .slice (some ⟨ob5, 0, none⟩) f.no f.no, .slice (some ⟨pb5, 0, none⟩) f.np f.np, .slice (some ⟨hb5, 0, none⟩) f.nh f.nh] 42)) ∧ FmOwn V7.heap.size (w8.alloc (.cells #[.bool f.ok, .slice (some ⟨ob5, 0, none⟩) f.no f.no, .slice (some ⟨pb5, 0, none⟩) f.np f.np, .slice (some ⟨hb5, 0, none⟩) f.nh f.nh] 42)) f (.slice (some ⟨ob5, 0, none⟩) f.no f.no) (.slice (some ⟨pb5, 0, none⟩) f.np f.np) (.slice (some ⟨hb5, 0, none⟩) f.nh f.nh) r5 ∧ Box (w8.alloc (.cells #[.bool f.ok, .slice (some ⟨ob5, 0, none⟩) f.no f.no, .slice (some ⟨pb5, 0, none⟩) f.np f.np, .slice (some ⟨hb5, 0, none⟩) f.nh f.nh] 42)) w8.heap.size 42 #[.bool f.ok, .slice (some ⟨ob5, 0, none⟩) f.no f.no, .slice (some ⟨pb5, 0, none⟩) f.np f.np, .slice (some ⟨hb5, 0, none⟩) f.nh f.nh] ∧ V7.heap.size ≤ w8.heap.size) := ⟨hb8.alloc hb8.size _, hf8.mono (Nat.le_refl _) (bel1 _ _) (Nat.le_refl _), Box.new _ _ _, hb8.size⟩
  clear hf8 hb8
  have x0 : (w8.alloc (.cells #[.bool f.ok, .slice (some ⟨ob5, 0, none⟩) f.no f.no, .slice (some ⟨pb5, 0, none⟩) f.np f.np, .slice (some ⟨hb5, 0, none⟩) f.nh f.nh] 42)).cell? ⟨w6.heap.size, 0, none⟩ = some (.int .i64 p.sec) := (B7.out.2.mono B8.out.1 (Nat.le_refl _)).cell 0
  have x1 : (w8.alloc (.cells #[.bool f.ok, .slice (some ⟨ob5, 0, none⟩) f.no f.no, .slice (some ⟨pb5, 0, none⟩) f.np f.np, .slice (some ⟨hb5, 0, none⟩) f.nh f.nh] 42)).cell? ⟨w6.heap.size, 1, none⟩ = some (.slice (some ⟨wb5, 0, none⟩) p.nw p.nw) := (B7.out.2.mono B8.out.1 (Nat.le_refl _)).cell 1
  have x2 : (w8.alloc (.cells #[.bool f.ok, .slice (some ⟨ob5, 0, none⟩) f.no f.no, .slice (some ⟨pb5, 0, none⟩) f.np f.np, .slice (some ⟨hb5, 0, none⟩) f.nh f.nh] 42)).cell? ⟨w6.heap.size, 2, none⟩ = some (.slice (some ⟨yb5, 0, none⟩) p.ny p.ny) := (B7.out.2.mono B8.out.1 (Nat.le_refl _)).cell 2
  have x3 : (w8.alloc (.cells #[.bool f.ok, .slice (some ⟨ob5, 0, none⟩) f.no f.no, .slice (some ⟨pb5, 0, none⟩) f.np f.np, .slice (some ⟨hb5, 0, none⟩) f.nh f.nh] 42)).cell? ⟨w6.heap.size, 3, none⟩ = some (.slice (some ⟨bb5, 0, none⟩) p.nb p.nb) := (B7.out.2.mono B8.out.1 (Nat.le_refl _)).cell 3
  have x4 : (w8.alloc (.cells #[.bool f.ok, .slice (some ⟨ob5, 0, none⟩) f.no f.no, .slice (some ⟨pb5, 0, none⟩) f.np f.np, .slice (some ⟨hb5, 0, none⟩) f.nh f.nh] 42)).cell? ⟨w6.heap.size, 4, none⟩ = some (.int .i64 p.hold) := (B7.out.2.mono B8.out.1 (Nat.le_refl _)).cell 4
  go_wp2_with fail
  clear x0 x1 x2 x3 x4
  generalize w8.alloc (.cells #[.bool f.ok, .slice (some ⟨ob5, 0, none⟩) f.no f.no, .slice (some ⟨pb5, 0, none⟩) f.np f.np, .slice (some ⟨hb5, 0, none⟩) f.nh f.nh] 42) = V9 at B8 ⊢
  generalize w8.heap.size = yq at B8 ⊢
  have C9 : Hid (Below w6.heap.size w6 V9 ∧ Below w2.heap.size w2 V9) := ⟨B7.out.1.trans (B8.out.1.mono B7.out.1.size), C7.out.1.trans (B8.out.1.mono C7.out.1.size)⟩
  have HV9 := HEL.out V9 C9.out.2
  refine (point16 p f wb5 yb5 bb5 lo5 rr5 ob5 pb5 hb5 r5 et ev kk V9 HS.out HFS.out (PW.out V9 C9.out.1).2 (B8.out.2.1.mono (Nat.zero_le _) (Below.refl _ V9) (Nat.le_refl _)) HV9.1 HV9.2).mono ?_
  clear HV9
  rintro e w10 ⟨ga, gc, he, ho, hb⟩
  rw [HM.out] at he ho
  rw [HDD.out] at ho
  subst he
  have T : Hid (∀ W, Below w10.heap.size w10 W → (Below w6.heap.size w6 W ∧ Below w2.heap.size w2 W ∧ Below V9.heap.size V9 W) ∧ Box W w6.heap.size 37 #[.int .i64 p.sec, .slice (some ⟨wb5, 0, none⟩) p.nw p.nw, .slice (some ⟨yb5, 0, none⟩) p.ny p.ny, .slice (some ⟨bb5, 0, none⟩) p.nb p.nb, .int .i64 p.hold] ∧ FmOwn V7.heap.size W f (.slice (some ⟨ob5, 0, none⟩) f.no f.no) (.slice (some ⟨pb5, 0, none⟩) f.np f.np) (.slice (some ⟨hb5, 0, none⟩) f.nh f.nh) r5 ∧ Box W yq 42 #[.bool f.ok, .slice (some ⟨ob5, 0, none⟩) f.no f.no, .slice (some ⟨pb5, 0, none⟩) f.np f.np, .slice (some ⟨hb5, 0, none⟩) f.nh f.nh] ∧ VOwn 0 3 1 W (.slice sa m sc) m (oneF D) ∧ VOwn V9.heap.size 3 1 W (.slice ga m gc) m (oneF D)) := fun W hB => by
    have q : Below V9.heap.size V9 W := hb.trans (hB.mono hb.size)
    have q7 : Below V7.heap.size V7 W := B8.out.1.trans (q.mono B8.out.1.size)
    have q5 : Below w5.heap.size w5 W := (B6.out.trans ((B7.out.1.trans (q7.mono B7.out.1.size)).mono B6.out.size))
    exact ⟨⟨C9.out.1.trans (q.mono C9.out.1.size), C9.out.2.trans (q.mono C9.out.2.size), q⟩, B7.out.2.mono q7 (Nat.le_refl _), B8.out.2.1.mono (Nat.le_refl _) q (Nat.le_refl _), B8.out.2.2.1.mono q (Nat.le_refl _), HSP.out.2.mono (Nat.le_refl _) q5 (Nat.le_refl _), ho.mono (Nat.le_refl _) hB (Nat.le_refl _)⟩
  have HSB : Hid (∀ g, ((.slice sa m sc) : Value).ownBlock = some g → g < w5.heap.size) := fun g hg => (HSP.out.2.lt hg).2
  have HSZ : Hid (w2.heap.size ≤ w5.heap.size ∧ w5.heap.size ≤ w6.heap.size ∧ w6.heap.size < V7.heap.size ∧ V7.heap.size ≤ yq ∧ yq < V9.heap.size ∧ V7.heap.size ≤ V9.heap.size) := ⟨HSP.out.1.size, C7.out.2.1, C7.out.2.2, B8.out.2.2.2, B8.out.2.2.1.lt, B8.out.1.size⟩
  clear hb ho B8 B7 B6 C7 C9 HSP
  have T10 := T.out w10 (Below.refl _ _)
  go_wp2_with fail
  refine (eqIntS ga sa m gc sc (fun i _ => D i) w10 hm (T10.2.2.2.2.2.vs.le (Nat.zero_le _)) (T10.2.2.2.2.1.vs.le (Nat.zero_le _))).mono ?_
  clear T10
  rintro e w11 ⟨rfl, hb11⟩
  have U11 : Hid (Below w10.heap.size w10 w11) := hb11
  clear hb11
  have T11 := T.out w11 U11.out
  have x0 : w11.cell? ⟨w6.heap.size, 0, none⟩ = some (.int .i64 p.sec) := T11.2.1.cell 0
  have x1 : w11.cell? ⟨w6.heap.size, 1, none⟩ = some (.slice (some ⟨wb5, 0, none⟩) p.nw p.nw) := T11.2.1.cell 1
  have x2 : w11.cell? ⟨w6.heap.size, 2, none⟩ = some (.slice (some ⟨yb5, 0, none⟩) p.ny p.ny) := T11.2.1.cell 2
  have x3 : w11.cell? ⟨w6.heap.size, 3, none⟩ = some (.slice (some ⟨bb5, 0, none⟩) p.nb p.nb) := T11.2.1.cell 3
  have x4 : w11.cell? ⟨w6.heap.size, 4, none⟩ = some (.int .i64 p.hold) := T11.2.1.cell 4
  have a0 : w11.cell? ⟨w.heap.size, 0, none⟩ = some (.int .i64 p.sec) := (HC.out w11 T11.1.2.1).2.1.cell 0
  have a1 : w11.cell? ⟨w.heap.size, 1, none⟩ = some (.slice wa p.nw wc) := (HC.out w11 T11.1.2.1).2.1.cell 1
  have a2 : w11.cell? ⟨w.heap.size, 2, none⟩ = some (.slice ya p.ny yc) := (HC.out w11 T11.1.2.1).2.1.cell 2
  have a3 : w11.cell? ⟨w.heap.size, 3, none⟩ = some (.slice ba p.nb bc) := (HC.out w11 T11.1.2.1).2.1.cell 3
  have a4 : w11.cell? ⟨w.heap.size, 4, none⟩ = some (.int .i64 p.hold) := (HC.out w11 T11.1.2.1).2.1.cell 4
  clear T11
  have MD2 : Hid (Below w10.heap.size w10 w11.drew) := U11.out.drew
  go_wp2_with fail
  refine wp_region_held_drew (S := (fun wx : World => wx.cell? ⟨w6.heap.size, 0, none⟩ = some (.int .i64 p.sec) ∧ wx.cell? ⟨w6.heap.size, 1, none⟩ = some (.slice (some ⟨wb5, 0, none⟩) p.nw p.nw) ∧ wx.cell? ⟨w6.heap.size, 2, none⟩ = some (.slice (some ⟨yb5, 0, none⟩) p.ny p.ny) ∧ wx.cell? ⟨w6.heap.size, 3, none⟩ = some (.slice (some ⟨bb5, 0, none⟩) p.nb p.nb) ∧ wx.cell? ⟨w6.heap.size, 4, none⟩ = some (.int .i64 p.hold) ∧ wx.cell? ⟨w.heap.size, 0, none⟩ = some (.int .i64 p.sec) ∧ wx.cell? ⟨w.heap.size, 1, none⟩ = some (.slice wa p.nw wc) ∧ wx.cell? ⟨w.heap.size, 2, none⟩ = some (.slice ya p.ny yc) ∧ wx.cell? ⟨w.heap.size, 3, none⟩ = some (.slice ba p.nb bc) ∧ wx.cell? ⟨w.heap.size, 4, none⟩ = some (.int .i64 p.hold))) (by kernel_rfl) ?_ (fun hHeld => ?_)
  · exact ⟨x0, x1, x2, x3, x4, a0, a1, a2, a3, a4⟩
  refine take_lit (i := 0) (v := ?vr2x0) rfl (by kernel_rfl) (by kernel_rfl) (by kernel_rfl) (fun _ _ _ h => h) (Or.inl ⟨by rfl, ?hyr2x0⟩) (by assumption) ?restr2x0
  case hyr2x0 => (intro wq hSw; (try dsimp only at hSw); go_simp; try with_reducible rfl)
  simp only [Act.put, List.setIfInBounds_toArray, List.set_cons_zero, List.set_cons_succ]
  refine take_lit (i := 1) (v := ?vr2x1) rfl (by kernel_rfl) (by kernel_rfl) (by kernel_rfl) (fun _ _ _ h => h) (Or.inl ⟨by rfl, ?hyr2x1⟩) (by assumption) ?restr2x1
  case hyr2x1 => (intro wq hSw; (try dsimp only at hSw); go_simp; try with_reducible rfl)
  simp only [Act.put, List.setIfInBounds_toArray, List.set_cons_zero, List.set_cons_succ]
  refine ready_lit (i := 2) (by kernel_rfl) rfl (fun K hK => ?_)
  go_simp
  refine (HTP.out _ (T.out _ MD2.out).1.2.1).mono ?_
  rintro e w12 ⟨wb7, yb7, bb7, lo7, rr7, rfl, ho7, hb12⟩
  have B12 := MD2.out.trans (hb12.mono MD2.out.size)
  have T12 := T.out w12 B12
  go_wp2_with fail
  refine hK.out _ _ ?_ (fun hHeld2 => ?_)
  · exact ⟨T12.2.1.cell 0, T12.2.1.cell 1, T12.2.1.cell 2, T12.2.1.cell 3, T12.2.1.cell 4, (HC.out w12 T12.1.2.1).2.1.cell 0, (HC.out w12 T12.1.2.1).2.1.cell 1, (HC.out w12 T12.1.2.1).2.1.cell 2, (HC.out w12 T12.1.2.1).2.1.cell 3, (HC.out w12 T12.1.2.1).2.1.cell 4⟩
  clear hK K
  refine ready_lit (i := 3) (by kernel_rfl) rfl (fun K hK => ?_)
  go_simp
  refine (eqPlan p _ _ _ _ _ _ _ _ _ _ _ _ w12 HS.out ((PW.out w12 T12.1.1).2.in (Nat.zero_le _)) (ho7.in (Nat.zero_le _))).mono ?_
  rintro e w13 ⟨rfl, hb13⟩
  have B13 := B12.trans (hb13.mono B12.size)
  have T13 := T.out w13 B13
  go_wp2_with fail
  refine hK.out _ _ ?_ (fun hHeld3 => ?_)
  · exact ⟨T13.2.1.cell 0, T13.2.1.cell 1, T13.2.1.cell 2, T13.2.1.cell 3, T13.2.1.cell 4, (HC.out w13 T13.1.2.1).2.1.cell 0, (HC.out w13 T13.1.2.1).2.1.cell 1, (HC.out w13 T13.1.2.1).2.1.cell 2, (HC.out w13 T13.1.2.1).2.1.cell 3, (HC.out w13 T13.1.2.1).2.1.cell 4⟩
  clear hK K
  refine take_lit (i := 4) (v := ?vr2x4) rfl (by kernel_rfl) (by kernel_rfl) (by kernel_rfl) (fun _ _ _ h => h) (Or.inl ⟨by rfl, ?hyr2x4⟩) (by assumption) ?restr2x4
  case hyr2x4 => (intro wq hSw; (try dsimp only at hSw); go_simp; try with_reducible rfl)
  simp only [Act.put, List.setIfInBounds_toArray, List.set_cons_zero, List.set_cons_succ]
  refine wpAnyH_done (by kernel_rfl) ?_ _
  have U13 : Hid (Below w10.heap.size w10 w13) := B13
  clear ho7 hb12 hb13 B12 B13 T12 T13 x0 x1 x2 x3 x4 a0 a1 a2 a3 a4 MD2 U11
  have T13 := T.out w13 U13.out
  have y0 : w13.cell? ⟨yq, 0, none⟩ = some (.bool f.ok) := T13.2.2.2.1.cell 0
  have y1 : w13.cell? ⟨yq, 1, none⟩ = some (.slice (some ⟨ob5, 0, none⟩) f.no f.no) := T13.2.2.2.1.cell 1
  have y2 : w13.cell? ⟨yq, 2, none⟩ = some (.slice (some ⟨pb5, 0, none⟩) f.np f.np) := T13.2.2.2.1.cell 2
  have y3 : w13.cell? ⟨yq, 3, none⟩ = some (.slice (some ⟨hb5, 0, none⟩) f.nh f.nh) := T13.2.2.2.1.cell 3
  have b0 : w13.cell? ⟨(w.heap.size + 1), 0, none⟩ = some (.bool f.ok) := (HC.out w13 T13.1.2.1).2.2.cell 0
  have b1 : w13.cell? ⟨(w.heap.size + 1), 1, none⟩ = some (.slice oa f.no oc) := (HC.out w13 T13.1.2.1).2.2.cell 1
  have b2 : w13.cell? ⟨(w.heap.size + 1), 2, none⟩ = some (.slice pa f.np pc) := (HC.out w13 T13.1.2.1).2.2.cell 2
  have b3 : w13.cell? ⟨(w.heap.size + 1), 3, none⟩ = some (.slice ha f.nh hc) := (HC.out w13 T13.1.2.1).2.2.cell 3
  clear T13
  have MD3 : Hid (Below w10.heap.size w10 w13.drew) := U13.out.drew
  go_wp2_with fail
  refine wp_region_held_drew (S := (fun wx : World => wx.cell? ⟨yq, 0, none⟩ = some (.bool f.ok) ∧ wx.cell? ⟨yq, 1, none⟩ = some (.slice (some ⟨ob5, 0, none⟩) f.no f.no) ∧ wx.cell? ⟨yq, 2, none⟩ = some (.slice (some ⟨pb5, 0, none⟩) f.np f.np) ∧ wx.cell? ⟨yq, 3, none⟩ = some (.slice (some ⟨hb5, 0, none⟩) f.nh f.nh) ∧ wx.cell? ⟨(w.heap.size + 1), 0, none⟩ = some (.bool f.ok) ∧ wx.cell? ⟨(w.heap.size + 1), 1, none⟩ = some (.slice oa f.no oc) ∧ wx.cell? ⟨(w.heap.size + 1), 2, none⟩ = some (.slice pa f.np pc) ∧ wx.cell? ⟨(w.heap.size + 1), 3, none⟩ = some (.slice ha f.nh hc))) (by kernel_rfl) ?_ (fun hHeld => ?_)
  · exact ⟨y0, y1, y2, y3, b0, b1, b2, b3⟩
  refine take_lit (i := 0) (v := ?vr3x0) rfl (by kernel_rfl) (by kernel_rfl) (by kernel_rfl) (fun _ _ _ h => h) (Or.inl ⟨by rfl, ?hyr3x0⟩) (by assumption) ?restr3x0
  case hyr3x0 => (intro wq hSw; (try dsimp only at hSw); go_simp; try with_reducible rfl)
  simp only [Act.put, List.setIfInBounds_toArray, List.set_cons_zero, List.set_cons_succ]
  refine take_lit (i := 1) (v := ?vr3x1) rfl (by kernel_rfl) (by kernel_rfl) (by kernel_rfl) (fun _ _ _ h => h) (Or.inl ⟨by rfl, ?hyr3x1⟩) (by assumption) ?restr3x1
  case hyr3x1 => (intro wq hSw; (try dsimp only at hSw); go_simp; try with_reducible rfl)
  simp only [Act.put, List.setIfInBounds_toArray, List.set_cons_zero, List.set_cons_succ]
  refine ready_lit (i := 2) (by kernel_rfl) rfl (fun K hK => ?_)
  go_simp
  refine (HTF.out _ (T.out _ MD3.out).1.2.1).mono ?_
  rintro e w14 ⟨ob7, pb7, hb7, r7, rfl, hf14, hb14⟩
  have B14 := MD3.out.trans (hb14.mono MD3.out.size)
  have T14 := T.out w14 B14
  go_wp2_with fail
  refine hK.out _ _ ?_ (fun hHeld2 => ?_)
  · exact ⟨T14.2.2.2.1.cell 0, T14.2.2.2.1.cell 1, T14.2.2.2.1.cell 2, T14.2.2.2.1.cell 3, (HC.out w14 T14.1.2.1).2.2.cell 0, (HC.out w14 T14.1.2.1).2.2.cell 1, (HC.out w14 T14.1.2.1).2.2.cell 2, (HC.out w14 T14.1.2.1).2.2.cell 3⟩
  clear hK K
  refine ready_lit (i := 3) (by kernel_rfl) rfl (fun K hK => ?_)
  go_simp
  refine (eqFrame f _ _ _ _ _ _ _ _ _ _ _ _ w14 HFS.out (T14.2.2.1.in (Nat.zero_le _)) (hf14.in (Nat.zero_le _))).mono ?_
  rintro e w15 ⟨rfl, hb15⟩
  have B15 := B14.trans (hb15.mono B14.size)
  have T15 := T.out w15 B15
  go_wp2_with fail
  refine hK.out _ _ ?_ (fun hHeld3 => ?_)
  · exact ⟨T15.2.2.2.1.cell 0, T15.2.2.2.1.cell 1, T15.2.2.2.1.cell 2, T15.2.2.2.1.cell 3, (HC.out w15 T15.1.2.1).2.2.cell 0, (HC.out w15 T15.1.2.1).2.2.cell 1, (HC.out w15 T15.1.2.1).2.2.cell 2, (HC.out w15 T15.1.2.1).2.2.cell 3⟩
  clear hK K
  refine take_lit (i := 4) (v := ?vr3x4) rfl (by kernel_rfl) (by kernel_rfl) (by kernel_rfl) (fun _ _ _ h => h) (Or.inl ⟨by rfl, ?hyr3x4⟩) (by assumption) ?restr3x4
  case hyr3x4 => (intro wq hSw; (try dsimp only at hSw); go_simp; try with_reducible rfl)
  simp only [Act.put, List.setIfInBounds_toArray, List.set_cons_zero, List.set_cons_succ]
  refine wpAnyH_done (by kernel_rfl) ?_ _
  have U15 : Hid (Below w10.heap.size w10 w15) := B15
  clear hf14 hb14 hb15 B14 B15 T14 T15 y0 y1 y2 y3 b0 b1 b2 b3 MD3 U13
  have T15 := T.out w15 U15.out
  have x0 : w15.cell? ⟨w6.heap.size, 0, none⟩ = some (.int .i64 p.sec) := T15.2.1.cell 0
  have x1 : w15.cell? ⟨w6.heap.size, 1, none⟩ = some (.slice (some ⟨wb5, 0, none⟩) p.nw p.nw) := T15.2.1.cell 1
  have x2 : w15.cell? ⟨w6.heap.size, 2, none⟩ = some (.slice (some ⟨yb5, 0, none⟩) p.ny p.ny) := T15.2.1.cell 2
  have x3 : w15.cell? ⟨w6.heap.size, 3, none⟩ = some (.slice (some ⟨bb5, 0, none⟩) p.nb p.nb) := T15.2.1.cell 3
  have x4 : w15.cell? ⟨w6.heap.size, 4, none⟩ = some (.int .i64 p.hold) := T15.2.1.cell 4
  go_wp2_with fail
  clear x0 x1 x2 x3 x4
  refine (markPlan15 p wb5 yb5 bb5 rr5 w5.heap.size w6.heap.size w15 HS.out HS.out.2.1 (PW.out w15 T15.1.1).1).mono ?_
  rintro e w16 ⟨⟨m1, rfl, hm1⟩, hf16⟩
  have Z16 : Hid (Below w2.heap.size w2 w16 ∧ FmOwn V7.heap.size w16 f (.slice (some ⟨ob5, 0, none⟩) f.no f.no) (.slice (some ⟨pb5, 0, none⟩) f.np f.np) (.slice (some ⟨hb5, 0, none⟩) f.nh f.nh) r5 ∧ Box w16 yq 42 #[.bool f.ok, .slice (some ⟨ob5, 0, none⟩) f.no f.no, .slice (some ⟨pb5, 0, none⟩) f.np f.np, .slice (some ⟨hb5, 0, none⟩) f.nh f.nh] ∧ VOwn 0 3 1 w16 (.slice sa m sc) m (oneF D) ∧ VOwn V9.heap.size 3 1 w16 (.slice ga m gc) m (oneF D)) := by
    obtain ⟨z1, z2, z3, z4, z5, z6⟩ := HSZ.out
    obtain ⟨⟨t1, t2, t3⟩, t4, t5, t6, t7, t8⟩ := T15
    refine ⟨t2.trans (hf16.below t2.size fun b hb (hX : w5.heap.size ≤ b ∧ b < w6.heap.size) => by omega), t5.fr_ge hf16 (fun b (hX : w5.heap.size ≤ b ∧ b < w6.heap.size) => by omega), t6.fr hf16 (fun (hX : w5.heap.size ≤ yq ∧ yq < w6.heap.size) => by omega), t7.fr hf16 fun g hg (hX : w5.heap.size ≤ g ∧ g < w6.heap.size) => ?_, t8.fr hf16 fun g hg (hX : w5.heap.size ≤ g ∧ g < w6.heap.size) => ?_⟩
    · have := HSB.out g hg
      omega
    · have := (t8.lt hg).1
      omega
  clear T15 hf16 U15 T
  have y0 : w16.cell? ⟨yq, 0, none⟩ = some (.bool f.ok) := Z16.out.2.2.1.cell 0
  have y1 : w16.cell? ⟨yq, 1, none⟩ = some (.slice (some ⟨ob5, 0, none⟩) f.no f.no) := Z16.out.2.2.1.cell 1
  have y2 : w16.cell? ⟨yq, 2, none⟩ = some (.slice (some ⟨pb5, 0, none⟩) f.np f.np) := Z16.out.2.2.1.cell 2
  have y3 : w16.cell? ⟨yq, 3, none⟩ = some (.slice (some ⟨hb5, 0, none⟩) f.nh f.nh) := Z16.out.2.2.1.cell 3
  go_wp2_with fail
  clear y0 y1 y2 y3
  refine (mark16 V7.heap.size f (some ⟨ob5, 0, none⟩) (some ⟨pb5, 0, none⟩) (some ⟨hb5, 0, none⟩) f.no f.np f.nh r5 m1 w16 hm1 HFS.out (by have := HSZ.out; have := Z16.out.2.2.1.lt; omega) Z16.out.2.1).mono ?_
  rintro e w17 ⟨rfl, _, hf17, hk17⟩
  have Z17 : Hid (Below w2.heap.size w2 w17 ∧ VOwn 0 3 1 w17 (.slice sa m sc) m (oneF D) ∧ VOwn V9.heap.size 3 1 w17 (.slice ga m gc) m (oneF D)) := by
    obtain ⟨z1, z2, z3, z4, z5, z6⟩ := HSZ.out
    obtain ⟨t1, _, _, t4, t5⟩ := Z16.out
    refine ⟨t1.trans (hf17.below t1.size fun b hb (hX : V7.heap.size ≤ b) => by omega), t4.fr hf17 fun g hg (hX : V7.heap.size ≤ g) => ?_, t5.by_ fun b cur hb => ?_⟩
    · have := HSB.out g hg
      omega
    · exact (hk17 b 3 cur hb (by decide) (by decide) (by decide)).trans hb.symm
  clear hf17 hk17 Z16
  obtain ⟨kE, hkE⟩ : ∃ k, kEnd f m1 = k := ⟨_, rfl⟩
  rw [hkE]
  clear hkE
  have hkE0 : ¬ ((kE : Int) < 0) := by omega
  go_wp2_with fail
  refine (eqIntS ga sa m gc sc (fun i _ => D i) w17 hm (Z17.out.2.2.vs.le (Nat.zero_le _)) (Z17.out.2.1.vs.le (Nat.zero_le _))).mono ?_
  rintro e w18 ⟨rfl, hb18⟩
  have Z18 : Hid (Below w2.heap.size w2 w18 ∧ VOwn 0 3 1 w18 (.slice sa m sc) m (oneF D) ∧ VOwn V9.heap.size 3 1 w18 (.slice ga m gc) m (oneF D)) := ⟨Z17.out.1.trans (hb18.mono Z17.out.1.size), Z17.out.2.1.mono (Nat.le_refl _) hb18 (Nat.le_refl _), Z17.out.2.2.mono (Nat.le_refl _) hb18 (Nat.le_refl _)⟩
  clear hb18 Z17
  go_wp2_with fail
  refine (mark20 V9.heap.size ga m gc D 1 w18 hm (by omega) Z18.out.2.2).mono ?_
  rintro e w19 ⟨rfl, hv19, hf19⟩
  have Z19 : Hid (Below w2.heap.size w2 w19 ∧ VOwn 0 3 1 w19 (.slice sa m sc) m (oneF D) ∧ VOwn V9.heap.size 3 1 w19 (.slice ga m gc) m (oneF (mkI 1))) := by
    obtain ⟨z1, z2, z3, z4, z5, z6⟩ := HSZ.out
    refine ⟨Z18.out.1.trans (hf19.below Z18.out.1.size fun b hb (hX : (Value.slice ga m gc).ownBlock = some b) => ?_), Z18.out.2.1.fr hf19 fun g hg (hX : (Value.slice ga m gc).ownBlock = some g) => ?_, hv19⟩
    · have := (Z18.out.2.2.lt hX).1
      omega
    · have h1 := (Z18.out.2.2.lt hX).1
      have h2 := HSB.out g hg
      omega
  clear hv19 hf19 Z18
  obtain ⟨mE, hmE⟩ : ∃ k, Hid (1 + m = k) := ⟨_, rfl⟩
  rw [hmE.out]
  have hmE0 : ¬ ((mE : Int) < 0) := by omega
  go_wp2_with fail
  refine (held21 ga m gc 1 w19 hm (by omega) (Z19.out.2.2.vs.le (Nat.zero_le _))).mono ?_
  rintro e w20 ⟨rfl, hw20⟩
  have hw20 := hw20.symm
  subst hw20
  rw [hmE.out]
  have zz : ((mE : Int) != (mE : Int)) = false := by simp
  have a0 : w19.cell? ⟨w.heap.size, 0, none⟩ = some (.int .i64 p.sec) := (HC.out w19 Z19.out.1).2.1.cell 0
  have a1 : w19.cell? ⟨w.heap.size, 1, none⟩ = some (.slice wa p.nw wc) := (HC.out w19 Z19.out.1).2.1.cell 1
  have a2 : w19.cell? ⟨w.heap.size, 2, none⟩ = some (.slice ya p.ny yc) := (HC.out w19 Z19.out.1).2.1.cell 2
  have a3 : w19.cell? ⟨w.heap.size, 3, none⟩ = some (.slice ba p.nb bc) := (HC.out w19 Z19.out.1).2.1.cell 3
  have a4 : w19.cell? ⟨w.heap.size, 4, none⟩ = some (.int .i64 p.hold) := (HC.out w19 Z19.out.1).2.1.cell 4
  have b0 : w19.cell? ⟨(w.heap.size + 1), 0, none⟩ = some (.bool f.ok) := (HC.out w19 Z19.out.1).2.2.cell 0
  have b1 : w19.cell? ⟨(w.heap.size + 1), 1, none⟩ = some (.slice oa f.no oc) := (HC.out w19 Z19.out.1).2.2.cell 1
  have b2 : w19.cell? ⟨(w.heap.size + 1), 2, none⟩ = some (.slice pa f.np pc) := (HC.out w19 Z19.out.1).2.2.cell 2
  have b3 : w19.cell? ⟨(w.heap.size + 1), 3, none⟩ = some (.slice ha f.nh hc) := (HC.out w19 Z19.out.1).2.2.cell 3
  have MD4 : Hid (Below w2.heap.size w2 w19.drew) := Z19.out.1.drew
  have MD5 : Hid (Below w19.heap.size w19 w19.drew) := (Below.refl _ _).drew
  go_wp2_with fail
  refine wp_region_held_drew (S := (fun wx : World => wx.cell? ⟨w.heap.size, 0, none⟩ = some (.int .i64 p.sec) ∧ wx.cell? ⟨w.heap.size, 1, none⟩ = some (.slice wa p.nw wc) ∧ wx.cell? ⟨w.heap.size, 2, none⟩ = some (.slice ya p.ny yc) ∧ wx.cell? ⟨w.heap.size, 3, none⟩ = some (.slice ba p.nb bc) ∧ wx.cell? ⟨w.heap.size, 4, none⟩ = some (.int .i64 p.hold) ∧ wx.cell? ⟨(w.heap.size + 1), 0, none⟩ = some (.bool f.ok) ∧ wx.cell? ⟨(w.heap.size + 1), 1, none⟩ = some (.slice oa f.no oc) ∧ wx.cell? ⟨(w.heap.size + 1), 2, none⟩ = some (.slice pa f.np pc) ∧ wx.cell? ⟨(w.heap.size + 1), 3, none⟩ = some (.slice ha f.nh hc))) (by kernel_rfl) ?_ (fun hHeld => ?_)
  · exact ⟨a0, a1, a2, a3, a4, b0, b1, b2, b3⟩
  refine take_lit (i := 0) (v := ?vr4x0) rfl (by kernel_rfl) (by kernel_rfl) (by kernel_rfl) (fun _ _ _ h => h) (Or.inl ⟨by rfl, ?hyr4x0⟩) (by assumption) ?restr4x0
  case hyr4x0 => (intro wq hSw; (try dsimp only at hSw); go_simp; try with_reducible rfl)
  simp only [Act.put, List.setIfInBounds_toArray, List.set_cons_zero, List.set_cons_succ]
  refine take_lit (i := 2) (v := ?vr4x2) rfl (by kernel_rfl) (by kernel_rfl) (by kernel_rfl) (fun _ _ _ h => h) (Or.inl ⟨by rfl, ?hyr4x2⟩) (by assumption) ?restr4x2
  case hyr4x2 => (intro wq hSw; (try dsimp only at hSw); go_simp; try with_reducible rfl)
  simp only [Act.put, List.setIfInBounds_toArray, List.set_cons_zero, List.set_cons_succ]
  refine take_lit (i := 4) (v := ?vr4x4) rfl (by kernel_rfl) (by kernel_rfl) (by kernel_rfl) (fun _ _ _ h => h) (Or.inl ⟨by rfl, ?hyr4x4⟩) (by assumption) ?restr4x4
  case hyr4x4 => (intro wq hSw; (try dsimp only at hSw); go_simp; try with_reducible rfl)
  simp only [Act.put, List.setIfInBounds_toArray, List.set_cons_zero, List.set_cons_succ]
  refine ready_lit (i := 1) (by kernel_rfl) rfl (fun K hK => ?_)
  go_simp
  refine (HTP.out _ MD4.out).mono ?_
  rintro e w21 ⟨wb9, yb9, bb9, lo9, rr9, rfl, ho9, hp9⟩
  have Bw21 := MD4.out.trans (hp9.mono MD4.out.size)
  go_wp2_with fail
  refine hK.out _ _ ?_ (fun hHeld1 => ?_)
  · exact ⟨(HC.out w21 Bw21).2.1.cell 0, (HC.out w21 Bw21).2.1.cell 1, (HC.out w21 Bw21).2.1.cell 2, (HC.out w21 Bw21).2.1.cell 3, (HC.out w21 Bw21).2.1.cell 4, (HC.out w21 Bw21).2.2.cell 0, (HC.out w21 Bw21).2.2.cell 1, (HC.out w21 Bw21).2.2.cell 2, (HC.out w21 Bw21).2.2.cell 3⟩
  clear hK K
  refine ready_lit (i := 3) (by kernel_rfl) rfl (fun K hK => ?_)
  go_simp
  refine (HTF.out _ Bw21).mono ?_
  rintro e w22 ⟨ob9, pb9, hb9, r9, rfl, hf9, hq9⟩
  have Bw22 := Bw21.trans (hq9.mono Bw21.size)
  go_wp2_with fail
  refine hK.out _ _ ?_ (fun hHeld3 => ?_)
  · exact ⟨(HC.out w22 Bw22).2.1.cell 0, (HC.out w22 Bw22).2.1.cell 1, (HC.out w22 Bw22).2.1.cell 2, (HC.out w22 Bw22).2.1.cell 3, (HC.out w22 Bw22).2.1.cell 4, (HC.out w22 Bw22).2.2.cell 0, (HC.out w22 Bw22).2.2.cell 1, (HC.out w22 Bw22).2.2.cell 2, (HC.out w22 Bw22).2.2.cell 3⟩
  clear hK K
  refine ready_lit (i := 5) (by kernel_rfl) rfl (fun K hK => ?_)
  go_simp
  refine (point16 p f wb9 yb9 bb9 lo9 rr9 ob9 pb9 hb9 r9 et ev kk w22 HS.out HFS.out (ho9.mono (Nat.zero_le _) hq9 (Nat.le_refl _)) (hf9.mono (Nat.zero_le _) (Below.refl _ w22) (Nat.le_refl _)) (HEL.out w22 Bw22).1 (HEL.out w22 Bw22).2).mono ?_
  rintro e w23 ⟨ha9, hc9, he, ho, hb⟩
  rw [HM.out] at he ho
  rw [HDD.out] at ho
  subst he
  have Bw23 := Bw22.trans (hb.mono Bw22.size)
  go_wp2_with fail
  refine hK.out _ _ ?_ (fun hHeld5 => ?_)
  · exact ⟨(HC.out w23 Bw23).2.1.cell 0, (HC.out w23 Bw23).2.1.cell 1, (HC.out w23 Bw23).2.1.cell 2, (HC.out w23 Bw23).2.1.cell 3, (HC.out w23 Bw23).2.1.cell 4, (HC.out w23 Bw23).2.2.cell 0, (HC.out w23 Bw23).2.2.cell 1, (HC.out w23 Bw23).2.2.cell 2, (HC.out w23 Bw23).2.2.cell 3⟩
  clear hK K
  refine take_lit (i := 6) (v := ?vr4x6) rfl (by kernel_rfl) (by kernel_rfl) (by kernel_rfl) (fun _ _ _ h => h) (Or.inl ⟨by rfl, ?hyr4x6⟩) (by assumption) ?restr4x6
  case hyr4x6 => (intro wq hSw; (try dsimp only at hSw); go_simp; try with_reducible rfl)
  simp only [Act.put, List.setIfInBounds_toArray, List.set_cons_zero, List.set_cons_succ]
  refine wpAnyH_done (by kernel_rfl) ?_ _
  have Z23 : Hid (Below w2.heap.size w2 w23 ∧ VOwn 0 3 1 w23 (.slice sa m sc) m (oneF D) ∧ VOwn V9.heap.size 3 1 w23 (.slice ga m gc) m (oneF (mkI 1)) ∧ VOwn 0 3 1 w23 (.slice ha9 m hc9) m (oneF D)) := by
    have q := ((MD5.out.trans (hp9.mono MD5.out.size)).trans (hq9.mono (Nat.le_trans MD5.out.size hp9.size))).trans (hb.mono (Nat.le_trans MD5.out.size (Nat.le_trans hp9.size hq9.size)))
    exact ⟨Bw23, Z19.out.2.1.mono (Nat.le_refl _) q (Nat.le_refl _), Z19.out.2.2.mono (Nat.le_refl _) q (Nat.le_refl _), ho.keep (Nat.zero_le _) fun _ _ => rfl⟩
  clear ho9 hp9 hf9 hq9 ho hb Bw21 Bw22 Bw23 a0 a1 a2 a3 a4 b0 b1 b2 b3 MD4 MD5 Z19
  go_wp2_with fail
  refine (eqIntS ha9 sa m hc9 sc (fun i _ => D i) w23 hm Z23.out.2.2.2.vs Z23.out.2.1.vs).mono ?_
  rintro e w24 ⟨rfl, hb24⟩
  have Z24 : Hid (Below w2.heap.size w2 w24 ∧ VOwn V9.heap.size 3 1 w24 (.slice ga m gc) m (oneF (mkI 1))) := ⟨Z23.out.1.trans (hb24.mono Z23.out.1.size), Z23.out.2.2.1.mono (Nat.le_refl _) hb24 (Nat.le_refl _)⟩
  clear hb24 Z23
  go_wp2_with fail
  refine (held21 ga m gc 1 w24 hm (by omega) (Z24.out.2.vs.le (Nat.zero_le _))).mono ?_
  rintro e w25 ⟨rfl, hw25⟩
  have hw25 := hw25.symm
  subst hw25
  rw [hmE.out]
  have HE : Hid (Below w.heap.size w w24) := (HC.out w24 Z24.out.1).1
  go_wp2_with fail
  go_ret
  exact ⟨rfl, HE.out⟩

end Go.Proofs.YtlgapgajgpilgaaGreatDoor
