import Derived.Test.YtkeilejbelblcaaGreatDoorGK20K21
import Derived.Test.YtkeilejbelblcaaGreatDoorGBoBm
namespace Go.Proofs.YtkeilejbelblcaaGreatDoor
open Go.RowKit Go.Lib

theorem box_set4 {w : World} {b : Nat} {T : TypeId} {z0 z1 z2 z3 v0 v1 v2 v3 : Value} (h : Box w b T #[z0, z1, z2, z3]) : Box ((((w.setCell ⟨b, 0, none⟩ (v0)).setCell ⟨b, 1, none⟩ (v1)).setCell ⟨b, 2, none⟩ (v2)).setCell ⟨b, 3, none⟩ (v3)) b T #[v0, v1, v2, v3] := by
  have h7 := (((h.set 0 v0).set 1 v1).set 2 v2).set 3 v3
  simpa using h7
theorem heap_set4 {w : World} {b g : Nat} {v0 v1 v2 v3 : Value} (h : g ≠ b) : ((((w.setCell ⟨b, 0, none⟩ (v0)).setCell ⟨b, 1, none⟩ (v1)).setCell ⟨b, 2, none⟩ (v2)).setCell ⟨b, 3, none⟩ (v3)).heap[g]? = w.heap[g]? := by
  have k : ∀ (u : World) (i : Nat) (v : Value), (u.setCell ⟨b, i, none⟩ v).heap[g]? = u.heap[g]? := fun u i v => Below.heap_setCell u ⟨b, i, none⟩ v g h
  rw [k, k, k, k]
theorem below_set4 {M : Nat} {w0 w : World} {b : Nat} {v0 v1 v2 v3 : Value} (h : Below M w0 w) (hb : M ≤ b) : Below M w0 ((((w.setCell ⟨b, 0, none⟩ (v0)).setCell ⟨b, 1, none⟩ (v1)).setCell ⟨b, 2, none⟩ (v2)).setCell ⟨b, 3, none⟩ (v3)) := by
  have k : ∀ {u : World} (i : Nat) (v : Value), Below M w0 u → Below M w0 (u.setCell ⟨b, i, none⟩ v) := fun i v hu => hu.setCell (show M ≤ (⟨b, i, none⟩ : Addr).block from hb) v
  exact k 3 _ (k 2 _ (k 1 _ (k 0 _ h)))
/-- a frame, copied -/
def TfR (w : World) (f : Fm) (e : Ending) (w' : World) : Prop := ∃ ob pb hb r, e = .returned (.agg #[.bool f.ok, .slice (some ⟨ob, 0, none⟩) f.no f.no, .slice (some ⟨pb, 0, none⟩) f.np f.np, .slice (some ⟨hb, 0, none⟩) f.nh f.nh]) ∧ FmOwn w.heap.size w' f (.slice (some ⟨ob, 0, none⟩) f.no f.no) (.slice (some ⟨pb, 0, none⟩) f.np f.np) (.slice (some ⟨hb, 0, none⟩) f.nh f.nh) r ∧ Below w.heap.size w w'
set_option maxRecDepth 100000 in
set_option maxHeartbeats 4000000 in
theorem toFrame10 (f : Fm) (oa pa ha : Option Addr) (oc pc hc : Nat) (w : World) (hfs : f.small) (hF : FmIn 0 w f oa pa ha) :
    Calls Tryz.prog 10 #[.agg #[.bool f.ok, .slice oa f.no oc, .slice pa f.np pc, .slice ha f.nh hc]] w fun e w' => TfR w f e w' := by
  have H : Hid (FmIn 0 w f oa pa ha ∧ f.small) := ⟨hF, hfs⟩
  have S0 : Hid (Below w.heap.size w (((w.alloc (.cells #[.bool f.ok, .slice oa f.no oc, .slice pa f.np pc, .slice ha f.nh hc] 31)).alloc (.cells #[.bool false, .slice none 0 0, .slice none 0 0, .slice none 0 0] 42)).alloc (.cells #[.bool f.ok, .slice none 0 0, .slice none 0 0, .slice none 0 0] 42)) ∧ Box (((w.alloc (.cells #[.bool f.ok, .slice oa f.no oc, .slice pa f.np pc, .slice ha f.nh hc] 31)).alloc (.cells #[.bool false, .slice none 0 0, .slice none 0 0, .slice none 0 0] 42)).alloc (.cells #[.bool f.ok, .slice none 0 0, .slice none 0 0, .slice none 0 0] 42)) w.heap.size 31 #[.bool f.ok, .slice oa f.no oc, .slice pa f.np pc, .slice ha f.nh hc] ∧ Box (((w.alloc (.cells #[.bool f.ok, .slice oa f.no oc, .slice pa f.np pc, .slice ha f.nh hc] 31)).alloc (.cells #[.bool false, .slice none 0 0, .slice none 0 0, .slice none 0 0] 42)).alloc (.cells #[.bool f.ok, .slice none 0 0, .slice none 0 0, .slice none 0 0] 42)) (w.heap.size + 1) 42 #[.bool false, .slice none 0 0, .slice none 0 0, .slice none 0 0] ∧ Box (((w.alloc (.cells #[.bool f.ok, .slice oa f.no oc, .slice pa f.np pc, .slice ha f.nh hc] 31)).alloc (.cells #[.bool false, .slice none 0 0, .slice none 0 0, .slice none 0 0] 42)).alloc (.cells #[.bool f.ok, .slice none 0 0, .slice none 0 0, .slice none 0 0] 42)) (w.heap.size + 1 + 1) 42 #[.bool f.ok, .slice none 0 0, .slice none 0 0, .slice none 0 0]) := ⟨bel3 _ _ _ _, ((Box.new _ _ _).alloc _).alloc _, by have := (Box.new (w.alloc (.cells #[.bool f.ok, .slice oa f.no oc, .slice pa f.np pc, .slice ha f.nh hc] 31)) 42 #[.bool false, .slice none 0 0, .slice none 0 0, .slice none 0 0]).alloc (.cells #[.bool f.ok, .slice none 0 0, .slice none 0 0, .slice none 0 0] 42); simpa using this, by have := Box.new ((w.alloc (.cells #[.bool f.ok, .slice oa f.no oc, .slice pa f.np pc, .slice ha f.nh hc] 31)).alloc (.cells #[.bool false, .slice none 0 0, .slice none 0 0, .slice none 0 0] 42)) 42 #[.bool f.ok, .slice none 0 0, .slice none 0 0, .slice none 0 0]; simpa using this⟩
  clear hF hfs
  go_enter Tryz.func10, Tryz.ntmps10
  go_wp2_with fail
  generalize (((w.alloc (.cells #[.bool f.ok, .slice oa f.no oc, .slice pa f.np pc, .slice ha f.nh hc] 31)).alloc (.cells #[.bool false, .slice none 0 0, .slice none 0 0, .slice none 0 0] 42)).alloc (.cells #[.bool f.ok, .slice none 0 0, .slice none 0 0, .slice none 0 0] 42)) = W at S0 ⊢
  refine (toBoolS oa f.no oc f.O W H.out.2.1 (H.out.1.o.mono (Nat.le_refl _) S0.out.1 (Nat.le_refl _))).mono ?_
  rintro e w1 ⟨ob, hob, rfl, ho, hb1⟩
  have S1 : Hid ((Below w.heap.size w w1 ∧ Box w1 w.heap.size 31 #[.bool f.ok, .slice oa f.no oc, .slice pa f.np pc, .slice ha f.nh hc] ∧ Box w1 (w.heap.size + 1) 42 #[.bool false, .slice none 0 0, .slice none 0 0, .slice none 0 0] ∧ Box w1 (w.heap.size + 1 + 1) 42 #[.bool f.ok, .slice none 0 0, .slice none 0 0, .slice none 0 0]) ∧ VOwn w.heap.size 4 1 w1 (.slice (some ⟨ob, 0, none⟩) f.no f.no) f.no (boolF f.O) ∧ w.heap.size + 1 + 1 < ob ∧ ob < w1.heap.size) := ⟨⟨S0.out.1.trans (hb1.mono S0.out.1.size), S0.out.2.1.mono hb1 (Nat.le_refl _), S0.out.2.2.1.mono hb1 (Nat.le_refl _), S0.out.2.2.2.mono hb1 (Nat.le_refl _)⟩, ho.keep (by rw [hob]; exact S0.out.1.size) fun _ _ => rfl, by rw [hob]; exact S0.out.2.2.2.lt, (ho.lt rfl).2⟩
  clear S0 ho hb1 hob
  have m1 : w1.cell? ⟨w.heap.size + 1 + 1, 1, none⟩ = some (.slice none 0 0) := S1.out.1.2.2.2.cell 1
  have n1 := S1.out.1.2.2.2.free 1
  have u2 : w1.cell? ⟨w.heap.size, 2, none⟩ = some (.slice pa f.np pc) := S1.out.1.2.1.cell 2
  go_wp2_with fail
  have S2 : Hid ((Below w.heap.size w (w1.setCell ⟨w.heap.size + 1 + 1, 1, none⟩ (.slice (some ⟨ob, 0, none⟩) f.no f.no)) ∧ Box (w1.setCell ⟨w.heap.size + 1 + 1, 1, none⟩ (.slice (some ⟨ob, 0, none⟩) f.no f.no)) w.heap.size 31 #[.bool f.ok, .slice oa f.no oc, .slice pa f.np pc, .slice ha f.nh hc] ∧ Box (w1.setCell ⟨w.heap.size + 1 + 1, 1, none⟩ (.slice (some ⟨ob, 0, none⟩) f.no f.no)) (w.heap.size + 1) 42 #[.bool false, .slice none 0 0, .slice none 0 0, .slice none 0 0] ∧ Box (w1.setCell ⟨w.heap.size + 1 + 1, 1, none⟩ (.slice (some ⟨ob, 0, none⟩) f.no f.no)) (w.heap.size + 1 + 1) 42 #[.bool f.ok, .slice (some ⟨ob, 0, none⟩) f.no f.no, .slice none 0 0, .slice none 0 0]) ∧ VOwn w.heap.size 4 1 (w1.setCell ⟨w.heap.size + 1 + 1, 1, none⟩ (.slice (some ⟨ob, 0, none⟩) f.no f.no)) (.slice (some ⟨ob, 0, none⟩) f.no f.no) f.no (boolF f.O) ∧ w.heap.size + 1 + 1 < ob ∧ ob < (w1.setCell ⟨w.heap.size + 1 + 1, 1, none⟩ (.slice (some ⟨ob, 0, none⟩) f.no f.no)).heap.size) := ⟨⟨S1.out.1.1.setCell (by show w.heap.size ≤ w.heap.size + 1 + 1; omega) _, S1.out.1.2.1.other (by show w.heap.size ≠ w.heap.size + 1 + 1; omega) _, S1.out.1.2.2.1.other (by show w.heap.size + 1 ≠ w.heap.size + 1 + 1; omega) _, by have := S1.out.1.2.2.2.set 1 (.slice (some ⟨ob, 0, none⟩) f.no f.no); simpa using this⟩, S1.out.2.1.set S1.out.1.2.2.2 (by decide) 1 _, S1.out.2.2.1, Nat.lt_of_lt_of_le S1.out.2.2.2 (by simp [World.setCell])⟩
  generalize w1.setCell ⟨w.heap.size + 1 + 1, 1, none⟩ (.slice (some ⟨ob, 0, none⟩) f.no f.no) = V1 at S2 ⊢
  clear m1 n1 u2 S1
  refine (toPointS pa f.np pc f.P V1 H.out.2.2.1 (H.out.1.p.mono (Nat.le_refl _) S2.out.1.1 (Nat.le_refl _))).mono ?_
  rintro e w2 ⟨pb, hpb, rfl, ho, hb2⟩
  have S3 : Hid ((Below w.heap.size w w2 ∧ Box w2 w.heap.size 31 #[.bool f.ok, .slice oa f.no oc, .slice pa f.np pc, .slice ha f.nh hc] ∧ Box w2 (w.heap.size + 1) 42 #[.bool false, .slice none 0 0, .slice none 0 0, .slice none 0 0] ∧ Box w2 (w.heap.size + 1 + 1) 42 #[.bool f.ok, .slice (some ⟨ob, 0, none⟩) f.no f.no, .slice none 0 0, .slice none 0 0]) ∧ (VOwn w.heap.size 4 1 w2 (.slice (some ⟨ob, 0, none⟩) f.no f.no) f.no (boolF f.O) ∧ w.heap.size + 1 + 1 < ob ∧ ob < w2.heap.size) ∧ VOwn w.heap.size 69 2 w2 (.slice (some ⟨pb, 0, none⟩) f.np f.np) f.np (intF f.P) ∧ w.heap.size + 1 + 1 < pb) := ⟨⟨S2.out.1.1.trans (hb2.mono S2.out.1.1.size), S2.out.1.2.1.mono hb2 (Nat.le_refl _), S2.out.1.2.2.1.mono hb2 (Nat.le_refl _), S2.out.1.2.2.2.mono hb2 (Nat.le_refl _)⟩, ⟨S2.out.2.1.mono (Nat.le_refl _) hb2 (Nat.le_refl _), S2.out.2.2.1, Nat.lt_of_lt_of_le S2.out.2.2.2 hb2.size⟩, ho.keep (by rw [hpb]; exact S2.out.1.1.size) fun _ _ => rfl, by rw [hpb]; exact S2.out.1.2.2.2.lt⟩
  clear S2 ho hb2 hpb
  have m1 : w2.cell? ⟨w.heap.size + 1 + 1, 2, none⟩ = some (.slice none 0 0) := S3.out.1.2.2.2.cell 2
  have n1 := S3.out.1.2.2.2.free 2
  have u2 : w2.cell? ⟨w.heap.size, 3, none⟩ = some (.slice ha f.nh hc) := S3.out.1.2.1.cell 3
  go_wp2_with fail
  have S4 : Hid ((Below w.heap.size w (w2.setCell ⟨w.heap.size + 1 + 1, 2, none⟩ (.slice (some ⟨pb, 0, none⟩) f.np f.np)) ∧ Box (w2.setCell ⟨w.heap.size + 1 + 1, 2, none⟩ (.slice (some ⟨pb, 0, none⟩) f.np f.np)) w.heap.size 31 #[.bool f.ok, .slice oa f.no oc, .slice pa f.np pc, .slice ha f.nh hc] ∧ Box (w2.setCell ⟨w.heap.size + 1 + 1, 2, none⟩ (.slice (some ⟨pb, 0, none⟩) f.np f.np)) (w.heap.size + 1) 42 #[.bool false, .slice none 0 0, .slice none 0 0, .slice none 0 0] ∧ Box (w2.setCell ⟨w.heap.size + 1 + 1, 2, none⟩ (.slice (some ⟨pb, 0, none⟩) f.np f.np)) (w.heap.size + 1 + 1) 42 #[.bool f.ok, .slice (some ⟨ob, 0, none⟩) f.no f.no, .slice (some ⟨pb, 0, none⟩) f.np f.np, .slice none 0 0]) ∧ (VOwn w.heap.size 4 1 (w2.setCell ⟨w.heap.size + 1 + 1, 2, none⟩ (.slice (some ⟨pb, 0, none⟩) f.np f.np)) (.slice (some ⟨ob, 0, none⟩) f.no f.no) f.no (boolF f.O) ∧ w.heap.size + 1 + 1 < ob ∧ ob < (w2.setCell ⟨w.heap.size + 1 + 1, 2, none⟩ (.slice (some ⟨pb, 0, none⟩) f.np f.np)).heap.size) ∧ VOwn w.heap.size 69 2 (w2.setCell ⟨w.heap.size + 1 + 1, 2, none⟩ (.slice (some ⟨pb, 0, none⟩) f.np f.np)) (.slice (some ⟨pb, 0, none⟩) f.np f.np) f.np (intF f.P) ∧ w.heap.size + 1 + 1 < pb) := ⟨⟨S3.out.1.1.setCell (by show w.heap.size ≤ w.heap.size + 1 + 1; omega) _, S3.out.1.2.1.other (by show w.heap.size ≠ w.heap.size + 1 + 1; omega) _, S3.out.1.2.2.1.other (by show w.heap.size + 1 ≠ w.heap.size + 1 + 1; omega) _, by have := S3.out.1.2.2.2.set 2 (.slice (some ⟨pb, 0, none⟩) f.np f.np); simpa using this⟩, ⟨S3.out.2.1.1.set S3.out.1.2.2.2 (by decide) 2 _, S3.out.2.1.2.1, Nat.lt_of_lt_of_le S3.out.2.1.2.2 (by simp [World.setCell])⟩, S3.out.2.2.1.set S3.out.1.2.2.2 (by decide) 2 _, S3.out.2.2.2⟩
  generalize w2.setCell ⟨w.heap.size + 1 + 1, 2, none⟩ (.slice (some ⟨pb, 0, none⟩) f.np f.np) = V2 at S4 ⊢
  clear m1 n1 u2 S3
  refine (toHeldS ha f.nh hc f.Y V2 H.out.2.2.2.1 (H.out.1.h.mono (Nat.le_refl _) S4.out.1.1 (Nat.le_refl _)) H.out.2.2.2.2).mono ?_
  rintro e w3 ⟨hb, r, hhb, rfl, ho, hb3⟩
  have S5 : Hid ((Below w.heap.size w w3 ∧ Box w3 w.heap.size 31 #[.bool f.ok, .slice oa f.no oc, .slice pa f.np pc, .slice ha f.nh hc] ∧ Box w3 (w.heap.size + 1) 42 #[.bool false, .slice none 0 0, .slice none 0 0, .slice none 0 0] ∧ Box w3 (w.heap.size + 1 + 1) 42 #[.bool f.ok, .slice (some ⟨ob, 0, none⟩) f.no f.no, .slice (some ⟨pb, 0, none⟩) f.np f.np, .slice none 0 0]) ∧ (VOwn w.heap.size 4 1 w3 (.slice (some ⟨ob, 0, none⟩) f.no f.no) f.no (boolF f.O) ∧ w.heap.size + 1 + 1 < ob ∧ ob < w3.heap.size) ∧ (VOwn w.heap.size 69 2 w3 (.slice (some ⟨pb, 0, none⟩) f.np f.np) f.np (intF f.P) ∧ w.heap.size + 1 + 1 < pb) ∧ HsOwn hb w3 (.slice (some ⟨hb, 0, none⟩) f.nh f.nh) f.nh f.Y r ∧ ob < hb ∧ w.heap.size + 1 + 1 < hb) := ⟨⟨S4.out.1.1.trans (hb3.mono S4.out.1.1.size), S4.out.1.2.1.mono hb3 (Nat.le_refl _), S4.out.1.2.2.1.mono hb3 (Nat.le_refl _), S4.out.1.2.2.2.mono hb3 (Nat.le_refl _)⟩, ⟨S4.out.2.1.1.mono (Nat.le_refl _) hb3 (Nat.le_refl _), S4.out.2.1.2.1, Nat.lt_of_lt_of_le S4.out.2.1.2.2 hb3.size⟩, ⟨S4.out.2.2.1.mono (Nat.le_refl _) hb3 (Nat.le_refl _), S4.out.2.2.2⟩, ho, by rw [hhb]; exact S4.out.2.1.2.2, by rw [hhb]; exact S4.out.1.2.2.2.lt⟩
  clear S4 ho hb3 hhb
  have m0 : w3.cell? ⟨w.heap.size + 1 + 1, 0, none⟩ = some (.bool f.ok) := S5.out.1.2.2.2.cell 0
  have m1 : w3.cell? ⟨w.heap.size + 1 + 1, 1, none⟩ = some (.slice (some ⟨ob, 0, none⟩) f.no f.no) := S5.out.1.2.2.2.cell 1
  have m2 : w3.cell? ⟨w.heap.size + 1 + 1, 2, none⟩ = some (.slice (some ⟨pb, 0, none⟩) f.np f.np) := S5.out.1.2.2.2.cell 2
  have m3 : w3.cell? ⟨w.heap.size + 1 + 1, 3, none⟩ = some (.slice none 0 0) := S5.out.1.2.2.2.cell 3
  have z0 : w3.cell? ⟨w.heap.size + 1, 0, none⟩ = some (.bool false) := S5.out.1.2.2.1.cell 0
  have z1 : w3.cell? ⟨w.heap.size + 1, 1, none⟩ = some (.slice none 0 0) := S5.out.1.2.2.1.cell 1
  have z2 : w3.cell? ⟨w.heap.size + 1, 2, none⟩ = some (.slice none 0 0) := S5.out.1.2.2.1.cell 2
  have z3 : w3.cell? ⟨w.heap.size + 1, 3, none⟩ = some (.slice none 0 0) := S5.out.1.2.2.1.cell 3
  have y0 := S5.out.1.2.2.1.free 0
  have y1 := S5.out.1.2.2.1.free 1
  have y2 := S5.out.1.2.2.1.free 2
  have y3 := S5.out.1.2.2.1.free 3
  have n3 := S5.out.1.2.2.2.free 3
  have HF : Hid (Below w.heap.size w (((((w3.setCell ⟨w.heap.size + 1 + 1, 3, none⟩ (.slice (some ⟨hb, 0, none⟩) f.nh f.nh)).setCell ⟨w.heap.size + 1, 0, none⟩ (.bool f.ok)).setCell ⟨w.heap.size + 1, 1, none⟩ (.slice (some ⟨ob, 0, none⟩) f.no f.no)).setCell ⟨w.heap.size + 1, 2, none⟩ (.slice (some ⟨pb, 0, none⟩) f.np f.np)).setCell ⟨w.heap.size + 1, 3, none⟩ (.slice (some ⟨hb, 0, none⟩) f.nh f.nh)) ∧ Box (((((w3.setCell ⟨w.heap.size + 1 + 1, 3, none⟩ (.slice (some ⟨hb, 0, none⟩) f.nh f.nh)).setCell ⟨w.heap.size + 1, 0, none⟩ (.bool f.ok)).setCell ⟨w.heap.size + 1, 1, none⟩ (.slice (some ⟨ob, 0, none⟩) f.no f.no)).setCell ⟨w.heap.size + 1, 2, none⟩ (.slice (some ⟨pb, 0, none⟩) f.np f.np)).setCell ⟨w.heap.size + 1, 3, none⟩ (.slice (some ⟨hb, 0, none⟩) f.nh f.nh)) (w.heap.size + 1) 42 #[.bool f.ok, .slice (some ⟨ob, 0, none⟩) f.no f.no, .slice (some ⟨pb, 0, none⟩) f.np f.np, .slice (some ⟨hb, 0, none⟩) f.nh f.nh] ∧ FmOwn w.heap.size (((((w3.setCell ⟨w.heap.size + 1 + 1, 3, none⟩ (.slice (some ⟨hb, 0, none⟩) f.nh f.nh)).setCell ⟨w.heap.size + 1, 0, none⟩ (.bool f.ok)).setCell ⟨w.heap.size + 1, 1, none⟩ (.slice (some ⟨ob, 0, none⟩) f.no f.no)).setCell ⟨w.heap.size + 1, 2, none⟩ (.slice (some ⟨pb, 0, none⟩) f.np f.np)).setCell ⟨w.heap.size + 1, 3, none⟩ (.slice (some ⟨hb, 0, none⟩) f.nh f.nh)) f (.slice (some ⟨ob, 0, none⟩) f.no f.no) (.slice (some ⟨pb, 0, none⟩) f.np f.np) (.slice (some ⟨hb, 0, none⟩) f.nh f.nh) r) := by
    have hA := S5.out.1.2.2.1.other (p := ⟨w.heap.size + 1 + 1, 3, none⟩) (by show w.heap.size + 1 ≠ w.heap.size + 1 + 1; omega) (.slice (some ⟨hb, 0, none⟩) f.nh f.nh)
    have hK : ∀ b T cur, Box w3 b T cur → T ≠ 42 → (((((w3.setCell ⟨w.heap.size + 1 + 1, 3, none⟩ (.slice (some ⟨hb, 0, none⟩) f.nh f.nh)).setCell ⟨w.heap.size + 1, 0, none⟩ (.bool f.ok)).setCell ⟨w.heap.size + 1, 1, none⟩ (.slice (some ⟨ob, 0, none⟩) f.no f.no)).setCell ⟨w.heap.size + 1, 2, none⟩ (.slice (some ⟨pb, 0, none⟩) f.np f.np)).setCell ⟨w.heap.size + 1, 3, none⟩ (.slice (some ⟨hb, 0, none⟩) f.nh f.nh)).heap[b]? = w3.heap[b]? := fun b T cur hb hT => (heap_set4 (hb.ne S5.out.1.2.2.1 hT)).trans (Below.heap_setCell w3 ⟨w.heap.size + 1 + 1, 3, none⟩ _ b (hb.ne S5.out.1.2.2.2 hT))
    refine ⟨below_set4 (S5.out.1.1.setCell (by show w.heap.size ≤ w.heap.size + 1 + 1; omega) _) (by omega), box_set4 hA, S5.out.2.1.1.by_ fun b cur hb => hK b 4 cur hb (by decide), S5.out.2.2.1.1.by_ fun b cur hb => hK b 69 cur hb (by decide), ?_, fun g hg i hi => ?_⟩
    · have h1 := S5.out.2.2.2.1.by_ fun b T cur hb hT => hK b T cur hb (by rcases hT with rfl | rfl <;> decide)
      exact ⟨h1.own.keep (by have := S5.out.2.2.2.2.2; omega) fun _ _ => rfl, fun i hi => ⟨(h1.row i hi).1, by have := (h1.row i hi).2; have := S5.out.2.2.2.2.2; omega⟩, h1.inj⟩
    · have e1 := own_block hg
      have e2 := (S5.out.2.2.2.1.row i hi).2
      have e3 := S5.out.2.2.2.2.1
      omega
  go_wp2_with fail
  generalize (((((w3.setCell ⟨w.heap.size + 1 + 1, 3, none⟩ (.slice (some ⟨hb, 0, none⟩) f.nh f.nh)).setCell ⟨w.heap.size + 1, 0, none⟩ (.bool f.ok)).setCell ⟨w.heap.size + 1, 1, none⟩ (.slice (some ⟨ob, 0, none⟩) f.no f.no)).setCell ⟨w.heap.size + 1, 2, none⟩ (.slice (some ⟨pb, 0, none⟩) f.np f.np)).setCell ⟨w.heap.size + 1, 3, none⟩ (.slice (some ⟨hb, 0, none⟩) f.nh f.nh)) = W9 at HF ⊢
  clear m0 z0 y0 m1 z1 y1 m2 z2 y2 m3 z3 y3 n3
  have d0 : W9.cell? ⟨w.heap.size + 1, 0, none⟩ = some (.bool f.ok) := HF.out.2.1.cell 0
  have d1 : W9.cell? ⟨w.heap.size + 1, 1, none⟩ = some (.slice (some ⟨ob, 0, none⟩) f.no f.no) := HF.out.2.1.cell 1
  have d2 : W9.cell? ⟨w.heap.size + 1, 2, none⟩ = some (.slice (some ⟨pb, 0, none⟩) f.np f.np) := HF.out.2.1.cell 2
  have d3 : W9.cell? ⟨w.heap.size + 1, 3, none⟩ = some (.slice (some ⟨hb, 0, none⟩) f.nh f.nh) := HF.out.2.1.cell 3
  exact bodyPost_ret (v := .agg #[.bool f.ok, .slice (some ⟨ob, 0, none⟩) f.no f.no, .slice (some ⟨pb, 0, none⟩) f.np f.np, .slice (some ⟨hb, 0, none⟩) f.nh f.nh]) (by simp [results, Tryz.results10, go_sem, d0, d1, d2, d3]) rfl ⟨ob, pb, hb, r, rfl, HF.out.2.2, HF.out.1⟩

end Go.Proofs.YtkeilejbelblcaaGreatDoor
