import Derived.Test.YtmcaohablpaknaaAi
import Derived.Test.YtmcaohablpaknaaLh
import Derived.Deep.RegionHeld3
namespace Go.Proofs.Ytmcaohablpaknaa
open Go.RowKit

theorem ar_conv {W : World} (zs : List Int) : ∀ (e : Ending) (w' : World), (∃ v, e = .returned v ∧ w'.ownsInts W.heap.size 3 .i64 v zs ∧ Below W.heap.size W w') → ∃ va vc, e = .returned (.slice va zs.length vc) ∧ VOwn W.heap.size 3 1 w' (.slice va zs.length vc) zs.length (intF (lsI zs)) ∧ Below W.heap.size W w' := by
  rintro e w' ⟨v, rfl, h1, h2⟩
  have h3 := VOwn.of_ints h1
  obtain ⟨va, vc, rfl⟩ := h3.val
  exact ⟨va, vc, rfl, h3, h2⟩
theorem IntMk.read {w : World} {a : Option Addr} {n k : Nat} (h : IntMk w a n k) : ∃ g, (0 < n → a = some ⟨g, 0, none⟩) ∧ ∀ i, i < n → ∀ j, j < 1 → w.cell? ⟨g, 0 + i * 1 + j, none⟩ = some (mkFIntS k i j) := by
  by_cases z : 0 < n
  · obtain ⟨g, h1, _, h3⟩ := h z
    exact ⟨g, fun _ => h1, h3⟩
  · exact ⟨0, fun q => absurd q z, fun i hi => absurd hi (by omega)⟩

set_option maxRecDepth 100000 in
set_option maxHeartbeats 8000000 in
theorem law4 (sec : Int) (a : Option Addr) (n cap : Nat) (K : Nat → Nat → Int) (x : Int) (w : World) (hs : n ≤ maxLen) (hE : VsAt 2 0 w a n (intF K)) :
    Calls Try.prog 4 #[.agg #[.int .i64 sec, .slice a n cap], .int .i64 x] w fun e w' => e = .returned (.bool true) ∧ Below w.heap.size w w' := by
  have HE : Hid (VsAt 2 0 w a n (intF K)) := hE
  clear hE
  go_enter Try.func4, Try.ntmps4
  go_wp2_with fail
  have H1 : Hid (Box (w.alloc (.cells #[.int .i64 sec, .slice a n cap] 24)) w.heap.size 24 #[.int .i64 sec, .slice a n cap] ∧ Below w.heap.size w (w.alloc (.cells #[.int .i64 sec, .slice a n cap] 24))) := ⟨(Box.new' w 24 #[.int .i64 sec, .slice a n cap] (by simp)), bel1 w (.cells #[.int .i64 sec, .slice a n cap] 24)⟩
  refine (szLayout sec a n cap 1048576 _ hs (by omega) (by omega)).mono ?_
  rintro e w1 ⟨rfl, hb1⟩
  have hp := @szL_pos 1048576 n
  generalize szL 1048576 n = r at hp
  have H2 : Hid (Box w1 w.heap.size 24 #[.int .i64 sec, .slice a n cap] ∧ Below w.heap.size w w1) := ⟨H1.out.1.mono hb1 (Nat.le_refl _), H1.out.2.trans (hb1.mono H1.out.2.size)⟩
  clear H1 hb1
  by_cases hneg : r < 0
  · clear hp
    go_wp2_with fail
    go_ret
    exact ⟨rfl, H2.out.2⟩
  · have hn : n ≤ 1048576 := by have := (hp hneg).1; omega
    clear hp
    obtain ⟨m, zs, hm, HI, HS⟩ : ∃ (m : Nat) (zs : List Int), m ≤ 120 ∧ Hid (∀ W b1, VOwn b1 68 2 W (.slice (some ⟨b1, 0, none⟩) n n) n (intF K) → Calls Try.prog 15 #[.agg #[.int .i64 sec, .slice (some ⟨b1, 0, none⟩) n n], .int .i64 x] W fun e w' => ∃ va vc, e = .returned (.slice va m vc) ∧ VOwn W.heap.size 3 1 w' (.slice va m vc) m (intF (lsI zs)) ∧ Below W.heap.size W w') ∧ Hid (∀ W b1, VOwn b1 68 2 W (.slice (some ⟨b1, 0, none⟩) n n) n (intF K) → Calls Try.prog 14 #[.agg #[.int .i64 sec, .slice (some ⟨b1, 0, none⟩) n n], .int .i64 x] W fun e w' => ∃ va vc, e = .returned (.slice va m vc) ∧ VOwn W.heap.size 3 1 w' (.slice va m vc) m (intF (lsI zs)) ∧ Below W.heap.size W w') := ⟨_, _, arF_len' sec n K x, fun W b1 hv => (arI sec _ n n K x W hn (hv.vs.le (Nat.zero_le _))).mono (ar_conv _), fun W b1 hv => (arS sec _ n n K x W hn (hv.vs.le (Nat.zero_le _))).mono (ar_conv _)⟩
    have hm2 : m ≤ 1048576 := by omega
    have uA0 : w1.cell? ⟨w.heap.size, 0, none⟩ = some (.int .i64 sec) := H2.out.1.cell 0
    have uA1 : w1.cell? ⟨w.heap.size, 1, none⟩ = some (.slice a n cap) := H2.out.1.cell 1
    have ultA : w.heap.size < w1.heap.size := H2.out.1.lt
    go_wp2_with fail
    clear uA0 uA1 ultA
    refine (toLayout sec a n cap K _ hn (HE.out.mono (Nat.le_refl _) H2.out.2 (Nat.le_refl _))).mono ?_
    rintro e w2 ⟨b1, hkb1, rfl, o2, hb2⟩
    have zb1 : b1 < w2.heap.size := (o2.lt rfl).2
    have H3 : Hid (Box w2 w.heap.size 24 #[.int .i64 sec, .slice a n cap] ∧ Below w.heap.size w w2 ∧ VOwn b1 68 2 w2 (.slice (some ⟨b1, 0, none⟩) n n) n (intF K)) := ⟨H2.out.1.mono hb2 (Nat.le_refl _), H2.out.2.trans (hb2.mono H2.out.2.size), o2⟩
    clear H2 hb2 o2
    go_wp2_with fail
    refine (HS.out _ b1 H3.out.2.2).mono ?_
    rintro e w3 ⟨pa, pc, rfl, o3, hb3⟩
    have H4 : Hid (Box w3 w.heap.size 24 #[.int .i64 sec, .slice a n cap] ∧ Below w.heap.size w w3 ∧ VOwn w2.heap.size 3 1 w3 (.slice pa m pc) m (intF (lsI zs))) := ⟨H3.out.1.mono hb3 (Nat.le_refl _), H3.out.2.1.trans (hb3.mono H3.out.2.1.size), o3⟩
    clear H3 hb3 o3
    have hst0 : Hid (∀ g, (Value.slice pa m pc).ownBlock = some g → g < w3.heap.size) := fun g hg => (H4.out.2.2.lt hg).2
    have za : w.heap.size < w3.heap.size := H4.out.1.lt
    have uA0 : w3.cell? ⟨w.heap.size, 0, none⟩ = some (.int .i64 sec) := H4.out.1.cell 0
    have uA1 : w3.cell? ⟨w.heap.size, 1, none⟩ = some (.slice a n cap) := H4.out.1.cell 1
    have ultA : w.heap.size < w3.heap.size := H4.out.1.lt
    go_wp2_with fail
    clear uA0 uA1 ultA
    refine (toLayout sec a n cap K _ hn (HE.out.mono (Nat.le_refl _) H4.out.2.1 (Nat.le_refl _))).mono ?_
    rintro e w4 ⟨b2, hkb2, rfl, o4, hb4⟩
    have zb2 : b2 < w4.heap.size := (o4.lt rfl).2
    have H5 : Hid (Box w4 w.heap.size 24 #[.int .i64 sec, .slice a n cap] ∧ Below w.heap.size w w4 ∧ VOwn w2.heap.size 3 1 w4 (.slice pa m pc) m (intF (lsI zs)) ∧ VOwn b2 68 2 w4 (.slice (some ⟨b2, 0, none⟩) n n) n (intF K)) := ⟨H4.out.1.mono hb4 (Nat.le_refl _), H4.out.2.1.trans (hb4.mono H4.out.2.1.size), H4.out.2.2.mono (Nat.le_refl _) hb4 (Nat.le_refl _), o4⟩
    clear H4 hb4 o4
    go_wp2_with fail
    have bb := bel1 w4 (.cells #[.int .i64 sec, .slice (some ⟨b2, 0, none⟩) n n] 29)
    have H6 : Hid (Box (w4.alloc (.cells #[.int .i64 sec, .slice (some ⟨b2, 0, none⟩) n n] 29)) w.heap.size 24 #[.int .i64 sec, .slice a n cap] ∧ Below w.heap.size w (w4.alloc (.cells #[.int .i64 sec, .slice (some ⟨b2, 0, none⟩) n n] 29)) ∧ VOwn w2.heap.size 3 1 (w4.alloc (.cells #[.int .i64 sec, .slice (some ⟨b2, 0, none⟩) n n] 29)) (.slice pa m pc) m (intF (lsI zs)) ∧ VOwn b2 68 2 (w4.alloc (.cells #[.int .i64 sec, .slice (some ⟨b2, 0, none⟩) n n] 29)) (.slice (some ⟨b2, 0, none⟩) n n) n (intF K) ∧ Box (w4.alloc (.cells #[.int .i64 sec, .slice (some ⟨b2, 0, none⟩) n n] 29)) w4.heap.size 29 #[.int .i64 sec, .slice (some ⟨b2, 0, none⟩) n n]) := ⟨H5.out.1.mono bb (Nat.le_refl _), H5.out.2.1.trans (bb.mono H5.out.2.1.size), H5.out.2.2.1.mono (Nat.le_refl _) bb (Nat.le_refl _), H5.out.2.2.2.mono (Nat.le_refl _) bb (Nat.le_refl _), Box.new w4 29 #[.int .i64 sec, .slice (some ⟨b2, 0, none⟩) n n]⟩
    clear H5 bb
    refine (HI.out _ b2 H6.out.2.2.2.1).mono ?_
    rintro e w5 ⟨ga, gc, rfl, o5, hb5⟩
    have H7 : Hid (Box w5 w.heap.size 24 #[.int .i64 sec, .slice a n cap] ∧ Below w.heap.size w w5 ∧ VOwn w2.heap.size 3 1 w5 (.slice pa m pc) m (intF (lsI zs)) ∧ VOwn b2 68 2 w5 (.slice (some ⟨b2, 0, none⟩) n n) n (intF K) ∧ Box w5 w4.heap.size 29 #[.int .i64 sec, .slice (some ⟨b2, 0, none⟩) n n] ∧ VOwn (w4.alloc (.cells #[.int .i64 sec, .slice (some ⟨b2, 0, none⟩) n n] 29)).heap.size 3 1 w5 (.slice ga m gc) m (intF (lsI zs))) := ⟨H6.out.1.mono hb5 (Nat.le_refl _), H6.out.2.1.trans (hb5.mono H6.out.2.1.size), H6.out.2.2.1.mono (Nat.le_refl _) hb5 (Nat.le_refl _), H6.out.2.2.2.1.mono (Nat.le_refl _) hb5 (Nat.le_refl _), H6.out.2.2.2.2.mono hb5 (Nat.le_refl _), o5⟩
    clear H6 hb5 o5
    have hglo : Hid (∀ g, (Value.slice ga m gc).ownBlock = some g → w4.heap.size + 1 ≤ g ∧ g < w5.heap.size) := fun g hg => by have := H7.out.2.2.2.2.2.lt hg; simpa using this
    have zx : w4.heap.size < w5.heap.size := H7.out.2.2.2.2.1.lt
    go_wp2_with fail
    refine (eqIntS ga pa m gc pc (lsI zs) _ hm2 (H7.out.2.2.2.2.2.vs.le (Nat.zero_le _)) (H7.out.2.2.1.vs.le (Nat.zero_le _))).mono ?_
    rintro e w6 ⟨rfl, hb6⟩
    have H8 : Hid (Box w6 w.heap.size 24 #[.int .i64 sec, .slice a n cap] ∧ Below w.heap.size w w6 ∧ VOwn w2.heap.size 3 1 w6 (.slice pa m pc) m (intF (lsI zs)) ∧ VOwn b2 68 2 w6 (.slice (some ⟨b2, 0, none⟩) n n) n (intF K) ∧ Box w6 w4.heap.size 29 #[.int .i64 sec, .slice (some ⟨b2, 0, none⟩) n n] ∧ VOwn (w4.alloc (.cells #[.int .i64 sec, .slice (some ⟨b2, 0, none⟩) n n] 29)).heap.size 3 1 w6 (.slice ga m gc) m (intF (lsI zs))) := ⟨H7.out.1.mono hb6 (Nat.le_refl _), H7.out.2.1.trans (hb6.mono H7.out.2.1.size), H7.out.2.2.1.mono (Nat.le_refl _) hb6 (Nat.le_refl _), H7.out.2.2.2.1.mono (Nat.le_refl _) hb6 (Nat.le_refl _), H7.out.2.2.2.2.1.mono hb6 (Nat.le_refl _), H7.out.2.2.2.2.2.mono (Nat.le_refl _) hb6 (Nat.le_refl _)⟩
    clear H7 hb6
    have uA0 : w6.cell? ⟨w.heap.size, 0, none⟩ = some (.int .i64 sec) := H8.out.1.cell 0
    have uA1 : w6.cell? ⟨w.heap.size, 1, none⟩ = some (.slice a n cap) := H8.out.1.cell 1
    have uX0 : w6.cell? ⟨w4.heap.size, 0, none⟩ = some (.int .i64 sec) := H8.out.2.2.2.2.1.cell 0
    have uX1 : w6.cell? ⟨w4.heap.size, 1, none⟩ = some (.slice (some ⟨b2, 0, none⟩) n n) := H8.out.2.2.2.2.1.cell 1
    have ultA : w.heap.size < w6.heap.size := H8.out.1.lt
    have ultX : w4.heap.size < w6.heap.size := H8.out.2.2.2.2.1.lt
    go_wp2_with fail
    clear uA0 uA1 uX0 uX1 ultA ultX
    have H9 : Hid (Box w6.drew w.heap.size 24 #[.int .i64 sec, .slice a n cap] ∧ Below w.heap.size w w6.drew ∧ VOwn w2.heap.size 3 1 w6.drew (.slice pa m pc) m (intF (lsI zs)) ∧ VOwn b2 68 2 w6.drew (.slice (some ⟨b2, 0, none⟩) n n) n (intF K) ∧ Box w6.drew w4.heap.size 29 #[.int .i64 sec, .slice (some ⟨b2, 0, none⟩) n n] ∧ VOwn (w4.alloc (.cells #[.int .i64 sec, .slice (some ⟨b2, 0, none⟩) n n] 29)).heap.size 3 1 w6.drew (.slice ga m gc) m (intF (lsI zs))) := ⟨H8.out.1.drew, H8.out.2.1.drew, H8.out.2.2.1.drew, H8.out.2.2.2.1.drew, H8.out.2.2.2.2.1.drew, H8.out.2.2.2.2.2.drew⟩
    clear H8
    have dA0 : w6.drew.cell? ⟨w.heap.size, 0, none⟩ = some (.int .i64 sec) := H9.out.1.cell 0
    have dA1 : w6.drew.cell? ⟨w.heap.size, 1, none⟩ = some (.slice a n cap) := H9.out.1.cell 1
    have dX0 : w6.drew.cell? ⟨w4.heap.size, 0, none⟩ = some (.int .i64 sec) := H9.out.2.2.2.2.1.cell 0
    have dX1 : w6.drew.cell? ⟨w4.heap.size, 1, none⟩ = some (.slice (some ⟨b2, 0, none⟩) n n) := H9.out.2.2.2.2.1.cell 1
    go_region_held3 (fun w' => w'.cell? ⟨w.heap.size, 0, none⟩ = some (.int .i64 sec) ∧ w'.cell? ⟨w.heap.size, 1, none⟩ = some (.slice a n cap) ∧ w'.cell? ⟨w4.heap.size, 0, none⟩ = some (.int .i64 sec) ∧ w'.cell? ⟨w4.heap.size, 1, none⟩ = some (.slice (some ⟨b2, 0, none⟩) n n)) (go_keep) (first
      | (go_at_call 11; refine (toLayout sec a n cap K _ hn (HE.out.mono (Nat.le_refl _) H9.out.2.1 (Nat.le_refl _))).mono ?_; rintro e w7 ⟨b3, hkb3, rfl, o7, hb7⟩; have H10 : Hid (Box w7 w.heap.size 24 #[.int .i64 sec, .slice a n cap] ∧ Below w.heap.size w w7 ∧ VOwn w2.heap.size 3 1 w7 (.slice pa m pc) m (intF (lsI zs)) ∧ VOwn b2 68 2 w7 (.slice (some ⟨b2, 0, none⟩) n n) n (intF K) ∧ Box w7 w4.heap.size 29 #[.int .i64 sec, .slice (some ⟨b2, 0, none⟩) n n] ∧ VOwn (w4.alloc (.cells #[.int .i64 sec, .slice (some ⟨b2, 0, none⟩) n n] 29)).heap.size 3 1 w7 (.slice ga m gc) m (intF (lsI zs)) ∧ VOwn b3 68 2 w7 (.slice (some ⟨b3, 0, none⟩) n n) n (intF K)) := ⟨H9.out.1.mono hb7 (Nat.le_refl _), H9.out.2.1.trans (hb7.mono H9.out.2.1.size), H9.out.2.2.1.mono (Nat.le_refl _) hb7 (Nat.le_refl _), H9.out.2.2.2.1.mono (Nat.le_refl _) hb7 (Nat.le_refl _), H9.out.2.2.2.2.1.mono hb7 (Nat.le_refl _), H9.out.2.2.2.2.2.mono (Nat.le_refl _) hb7 (Nat.le_refl _), o7⟩; have mA0 : w7.cell? ⟨w.heap.size, 0, none⟩ = some (.int .i64 sec) := H10.out.1.cell 0; have mA1 : w7.cell? ⟨w.heap.size, 1, none⟩ = some (.slice a n cap) := H10.out.1.cell 1; have mX0 : w7.cell? ⟨w4.heap.size, 0, none⟩ = some (.int .i64 sec) := H10.out.2.2.2.2.1.cell 0; have mX1 : w7.cell? ⟨w4.heap.size, 1, none⟩ = some (.slice (some ⟨b2, 0, none⟩) n n) := H10.out.2.2.2.2.1.cell 1)
      | (go_at_call 13; refine (eqLayout sec (some ⟨b2, 0, none⟩) (some ⟨b3, 0, none⟩) n n n K _ hn (H10.out.2.2.2.1.vs.le (Nat.zero_le _)) (H10.out.2.2.2.2.2.2.vs.le (Nat.zero_le _))).mono ?_; rintro e w8 ⟨rfl, hb8⟩; have H11 : Hid (Box w8 w.heap.size 24 #[.int .i64 sec, .slice a n cap] ∧ Below w.heap.size w w8 ∧ VOwn w2.heap.size 3 1 w8 (.slice pa m pc) m (intF (lsI zs)) ∧ VOwn b2 68 2 w8 (.slice (some ⟨b2, 0, none⟩) n n) n (intF K) ∧ Box w8 w4.heap.size 29 #[.int .i64 sec, .slice (some ⟨b2, 0, none⟩) n n] ∧ VOwn (w4.alloc (.cells #[.int .i64 sec, .slice (some ⟨b2, 0, none⟩) n n] 29)).heap.size 3 1 w8 (.slice ga m gc) m (intF (lsI zs))) := ⟨H10.out.1.mono hb8 (Nat.le_refl _), H10.out.2.1.trans (hb8.mono H10.out.2.1.size), H10.out.2.2.1.mono (Nat.le_refl _) hb8 (Nat.le_refl _), H10.out.2.2.2.1.mono (Nat.le_refl _) hb8 (Nat.le_refl _), H10.out.2.2.2.2.1.mono hb8 (Nat.le_refl _), H10.out.2.2.2.2.2.1.mono (Nat.le_refl _) hb8 (Nat.le_refl _)⟩; have mA0 : w8.cell? ⟨w.heap.size, 0, none⟩ = some (.int .i64 sec) := H11.out.1.cell 0; have mA1 : w8.cell? ⟨w.heap.size, 1, none⟩ = some (.slice a n cap) := H11.out.1.cell 1; have mX0 : w8.cell? ⟨w4.heap.size, 0, none⟩ = some (.int .i64 sec) := H11.out.2.2.2.2.1.cell 0; have mX1 : w8.cell? ⟨w4.heap.size, 1, none⟩ = some (.slice (some ⟨b2, 0, none⟩) n n) := H11.out.2.2.2.2.1.cell 1))
    clear hb7 hb8 o7
    clear dA0 dA1 dX0 dX1 mA0 mA1 mX0 mX1
    have uX0 : w8.cell? ⟨w4.heap.size, 0, none⟩ = some (.int .i64 sec) := H11.out.2.2.2.2.1.cell 0
    have uX1 : w8.cell? ⟨w4.heap.size, 1, none⟩ = some (.slice (some ⟨b2, 0, none⟩) n n) := H11.out.2.2.2.2.1.cell 1
    have ultX : w4.heap.size < w8.heap.size := H11.out.2.2.2.2.1.lt
    go_wp2_with fail
    clear uX0 uX1 ultX
    refine (markLayoutV sec (some ⟨b2, 0, none⟩) n n 1 b2 (intF K) _ hn (by omega) H11.out.2.2.2.1).mono ?_
    rintro e w9 ⟨he, f9⟩
    generalize hk9 : 1 + n * 2 = k9 at he
    subst he
    have H12 : Hid (Box w9 w.heap.size 24 #[.int .i64 sec, .slice a n cap] ∧ Below w.heap.size w w9 ∧ VOwn w2.heap.size 3 1 w9 (.slice pa m pc) m (intF (lsI zs)) ∧ Box w9 w4.heap.size 29 #[.int .i64 sec, .slice (some ⟨b2, 0, none⟩) n n] ∧ VOwn (w4.alloc (.cells #[.int .i64 sec, .slice (some ⟨b2, 0, none⟩) n n] 29)).heap.size 3 1 w9 (.slice ga m gc) m (intF (lsI zs))) := ⟨H11.out.1.fr f9 (fun hq => by simp only [Value.ownBlock, Option.some.injEq] at hq; omega), H11.out.2.1.trans (f9.below H11.out.2.1.size (fun k hk hq => by simp only [Value.ownBlock, Option.some.injEq] at hq; omega)), H11.out.2.2.1.fr f9 (fun g hg hq => by simp only [Value.ownBlock, Option.some.injEq] at hq; have := hst0.out g hg; omega), H11.out.2.2.2.2.1.fr f9 (fun hq => by simp only [Value.ownBlock, Option.some.injEq] at hq; omega), H11.out.2.2.2.2.2.fr f9 (fun g hg hq => by simp only [Value.ownBlock, Option.some.injEq] at hq; have := hglo.out g hg; omega)⟩
    clear H11 f9
    have hk90 : (0 : Int) ≤ (k9 : Int) := by omega
    go_wp2_with fail
    refine (eqIntS ga pa m gc pc (lsI zs) _ hm2 (H12.out.2.2.2.2.vs.le (Nat.zero_le _)) (H12.out.2.2.1.vs.le (Nat.zero_le _))).mono ?_
    rintro e w10 ⟨rfl, hb10⟩
    have H13 : Hid (Box w10 w.heap.size 24 #[.int .i64 sec, .slice a n cap] ∧ Below w.heap.size w w10 ∧ VOwn w2.heap.size 3 1 w10 (.slice pa m pc) m (intF (lsI zs)) ∧ Box w10 w4.heap.size 29 #[.int .i64 sec, .slice (some ⟨b2, 0, none⟩) n n] ∧ VOwn (w4.alloc (.cells #[.int .i64 sec, .slice (some ⟨b2, 0, none⟩) n n] 29)).heap.size 3 1 w10 (.slice ga m gc) m (intF (lsI zs))) := ⟨H12.out.1.mono hb10 (Nat.le_refl _), H12.out.2.1.trans (hb10.mono H12.out.2.1.size), H12.out.2.2.1.mono (Nat.le_refl _) hb10 (Nat.le_refl _), H12.out.2.2.2.1.mono hb10 (Nat.le_refl _), H12.out.2.2.2.2.mono (Nat.le_refl _) hb10 (Nat.le_refl _)⟩
    clear H12 hb10
    go_wp2_with fail
    refine (markIntSV ga m gc 1 _ _ _ hm2 (by omega) H13.out.2.2.2.2).mono ?_
    rintro e w11 ⟨he, f11, m11⟩
    generalize hk11 : 1 + m * 1 = k11 at he
    subst he
    have H14 : Hid (Box w11 w.heap.size 24 #[.int .i64 sec, .slice a n cap] ∧ Below w.heap.size w w11 ∧ VOwn w2.heap.size 3 1 w11 (.slice pa m pc) m (intF (lsI zs)) ∧ Box w11 w4.heap.size 29 #[.int .i64 sec, .slice (some ⟨b2, 0, none⟩) n n] ∧ IntMk w11 ga m 1) := ⟨H13.out.1.fr f11 (fun hq => by have := hglo.out _ hq; omega), H13.out.2.1.trans (f11.below H13.out.2.1.size (fun k hk hq => by have := hglo.out _ hq; omega)), H13.out.2.2.1.fr f11 (fun g hg hq => by have := hglo.out _ hq; have := hst0.out g hg; omega), H13.out.2.2.2.1.fr f11 (fun hq => by have := hglo.out _ hq; omega), m11⟩
    clear H13 f11 m11
    have hk110 : (0 : Int) ≤ (k11 : Int) := by omega
    go_wp2_with fail
    obtain ⟨g12, e12, c12⟩ : ∃ g, (0 < m → ga = some ⟨g, 0, none⟩) ∧ ∀ i, i < m → ∀ j, j < 1 → w11.cell? ⟨g, 0 + i * 1 + j, none⟩ = some (mkFIntS 1 i j) := H14.out.2.2.2.2.read
    refine (heldIntS ga m gc 1 g12 0 _ hm2 (by omega) e12 c12).mono ?_
    rintro e w12 ⟨he, hw12⟩
    rw [hk11] at he
    subst he
    subst hw12
    clear e12 c12
    have uA0 : w12.cell? ⟨w.heap.size, 0, none⟩ = some (.int .i64 sec) := H14.out.1.cell 0
    have uA1 : w12.cell? ⟨w.heap.size, 1, none⟩ = some (.slice a n cap) := H14.out.1.cell 1
    have ultA : w.heap.size < w12.heap.size := H14.out.1.lt
    go_wp2_with fail
    clear uA0 uA1 ultA
    refine (toLayout sec a n cap K _ hn (HE.out.mono (Nat.le_refl _) H14.out.2.1 (Nat.le_refl _))).mono ?_
    rintro e w13 ⟨b4, hkb4, rfl, o13, hb13⟩
    have zb4 : b4 < w13.heap.size := (o13.lt rfl).2
    have H15 : Hid (Box w13 w.heap.size 24 #[.int .i64 sec, .slice a n cap] ∧ Below w.heap.size w w13 ∧ VOwn w2.heap.size 3 1 w13 (.slice pa m pc) m (intF (lsI zs)) ∧ Box w13 w4.heap.size 29 #[.int .i64 sec, .slice (some ⟨b2, 0, none⟩) n n] ∧ IntMk w13 ga m 1 ∧ VOwn b4 68 2 w13 (.slice (some ⟨b4, 0, none⟩) n n) n (intF K)) := ⟨H14.out.1.mono hb13 (Nat.le_refl _), H14.out.2.1.trans (hb13.mono H14.out.2.1.size), H14.out.2.2.1.mono (Nat.le_refl _) hb13 (Nat.le_refl _), H14.out.2.2.2.1.mono hb13 (Nat.le_refl _), H14.out.2.2.2.2.mono hb13 (Nat.le_refl _), o13⟩
    clear H14 hb13 o13
    go_wp2_with fail
    refine (HI.out _ b4 H15.out.2.2.2.2.2).mono ?_
    rintro e w14 ⟨ha, hc, rfl, o14, hb14⟩
    have H16 : Hid (Box w14 w.heap.size 24 #[.int .i64 sec, .slice a n cap] ∧ Below w.heap.size w w14 ∧ VOwn w2.heap.size 3 1 w14 (.slice pa m pc) m (intF (lsI zs)) ∧ Box w14 w4.heap.size 29 #[.int .i64 sec, .slice (some ⟨b2, 0, none⟩) n n] ∧ IntMk w14 ga m 1 ∧ VOwn w13.heap.size 3 1 w14 (.slice ha m hc) m (intF (lsI zs))) := ⟨H15.out.1.mono hb14 (Nat.le_refl _), H15.out.2.1.trans (hb14.mono H15.out.2.1.size), H15.out.2.2.1.mono (Nat.le_refl _) hb14 (Nat.le_refl _), H15.out.2.2.2.1.mono hb14 (Nat.le_refl _), H15.out.2.2.2.2.1.mono hb14 (Nat.le_refl _), o14⟩
    clear H15 hb14 o14
    go_wp2_with fail
    refine (eqIntS ha pa m hc pc (lsI zs) _ hm2 (H16.out.2.2.2.2.2.vs.le (Nat.zero_le _)) (H16.out.2.2.1.vs.le (Nat.zero_le _))).mono ?_
    rintro e w15 ⟨rfl, hb15⟩
    have H17 : Hid (Box w15 w.heap.size 24 #[.int .i64 sec, .slice a n cap] ∧ Below w.heap.size w w15 ∧ VOwn w2.heap.size 3 1 w15 (.slice pa m pc) m (intF (lsI zs)) ∧ Box w15 w4.heap.size 29 #[.int .i64 sec, .slice (some ⟨b2, 0, none⟩) n n] ∧ IntMk w15 ga m 1 ∧ VOwn w13.heap.size 3 1 w15 (.slice ha m hc) m (intF (lsI zs))) := ⟨H16.out.1.mono hb15 (Nat.le_refl _), H16.out.2.1.trans (hb15.mono H16.out.2.1.size), H16.out.2.2.1.mono (Nat.le_refl _) hb15 (Nat.le_refl _), H16.out.2.2.2.1.mono hb15 (Nat.le_refl _), H16.out.2.2.2.2.1.mono hb15 (Nat.le_refl _), H16.out.2.2.2.2.2.mono (Nat.le_refl _) hb15 (Nat.le_refl _)⟩
    clear H16 hb15
    go_wp2_with fail
    obtain ⟨g16, e16, c16⟩ : ∃ g, (0 < m → ga = some ⟨g, 0, none⟩) ∧ ∀ i, i < m → ∀ j, j < 1 → w15.cell? ⟨g, 0 + i * 1 + j, none⟩ = some (mkFIntS 1 i j) := H17.out.2.2.2.2.1.read
    refine (heldIntS ga m gc 1 g16 0 _ hm2 (by omega) e16 c16).mono ?_
    rintro e w16 ⟨he, hw16⟩
    rw [hk11] at he
    subst he
    subst hw16
    clear e16 c16
    go_wp2_with fail
    go_ret
    exact ⟨rfl, H17.out.2.1⟩

end Go.Proofs.Ytmcaohablpaknaa
