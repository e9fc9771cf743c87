import Derived.Test.YtpghgdnhfhdgmaaSz
namespace Go.Proofs.Ytpghgdnhfhdgmaa
open Go.RowKit

theorem Own.mark {B : Nat} {e : TypeId} {c : Nat} {w : World} {b n cap : Nat} {l : List Rw} (h : Own B e c w (.slice (some ⟨b, 0, none⟩) n cap) l) : ∀ o, 0 ≤ o → o < 0 + n * c → (∃ v, w.cell? ⟨b, o, none⟩ = some v) ∧ w.frozen? ⟨b, o, none⟩ = false := by
  intro o _ ho
  rcases h.shape with ⟨h1, _⟩ | ⟨g, cp, cur, h1, h2, h3, h4, h5, h6, h7⟩
  · simp at h1
  · simp only [Value.slice.injEq, Option.some.injEq, Addr.mk.injEq] at h1
    obtain ⟨⟨rfl, _⟩, rfl, rfl⟩ := h1
    have hb : Box w b e cur := h3
    have hlt : o < cur.size := by
      have := Nat.mul_le_mul_right c h4
      omega
    exact ⟨⟨cur[o], by rw [hb.cell]; exact Array.getElem?_eq_getElem hlt⟩, hb.free o⟩
theorem Within.fr {b lo hi : Nat} {w w' : World} (h : Within b lo hi w w') {X : Nat → Prop} (hx : X b) : Fr X w w' := ⟨h.os, h.tape, h.output, by rw [h.size]; exact Nat.le_refl _, fun k _ hn => h.other k fun e => hn (by rw [e]; exact hx)⟩
theorem Own.within {B : Nat} {e : TypeId} {c : Nat} {w w' : World} {g n cap : Nat} {l : List Rw} {b lo hi : Nat} (h : Own B e c w (.slice (some ⟨g, 0, none⟩) n cap) l) (hw : Within b lo hi w w') (hb : g ≠ b) : Own B e c w' (.slice (some ⟨g, 0, none⟩) n cap) l :=
  h.keep (Nat.le_refl _) fun k hk => hw.other k (by simp only [Value.ownBlock, Option.some.injEq] at hk; omega)

set_option maxRecDepth 100000 in
set_option maxHeartbeats 4000000 in
theorem markRoute (r : Rt) (b1 b2 b3 b4 b5 b6 C : Nat) (w : World) (hs : r.small) (h : RtOwn C w r b1 b2 b3 b4 b5 b6) :
    Calls Try.prog 12 #[.agg #[.int .i64 r.fr, .int .i64 r.to, .slice (some ⟨b1, 0, none⟩) r.ns r.ns, .slice (some ⟨b2, 0, none⟩) r.nl r.nl, .slice (some ⟨b3, 0, none⟩) r.nx r.nx, .slice (some ⟨b4, 0, none⟩) r.np r.np, .slice (some ⟨b5, 0, none⟩) r.no r.no, .slice (some ⟨b6, 0, none⟩) r.nf r.nf], .int .i64 1] w fun e w' =>
      ∃ k : Nat, e = .returned (.int .i64 (k : Int)) ∧ Fr (fun k => C ≤ k ∧ k ≤ b6) w w' := by
  obtain ⟨s1, s2, s3, s4, s5, s6⟩ := hs
  have hlt := h.lt
  obtain ⟨c1, c2, c3, c4, c5, c6, o1, o2, o3, o4, o5, o6⟩ := h
  go_enter Try.func12, Try.ntmps12
  go_wp2_with fail
  have A0 : Box (w.alloc (.cells #[.int .i64 r.fr, .int .i64 r.to, .slice (some ⟨b1, 0, none⟩) r.ns r.ns, .slice (some ⟨b2, 0, none⟩) r.nl r.nl, .slice (some ⟨b3, 0, none⟩) r.nx r.nx, .slice (some ⟨b4, 0, none⟩) r.np r.np, .slice (some ⟨b5, 0, none⟩) r.no r.no, .slice (some ⟨b6, 0, none⟩) r.nf r.nf] 36)) w.heap.size 36 _ := Box.new w 36 _
  have o1 := o1.alloc (.cells #[.int .i64 r.fr, .int .i64 r.to, .slice (some ⟨b1, 0, none⟩) r.ns r.ns, .slice (some ⟨b2, 0, none⟩) r.nl r.nl, .slice (some ⟨b3, 0, none⟩) r.nx r.nx, .slice (some ⟨b4, 0, none⟩) r.np r.np, .slice (some ⟨b5, 0, none⟩) r.no r.no, .slice (some ⟨b6, 0, none⟩) r.nf r.nf] 36)
  have o2 := o2.alloc (.cells #[.int .i64 r.fr, .int .i64 r.to, .slice (some ⟨b1, 0, none⟩) r.ns r.ns, .slice (some ⟨b2, 0, none⟩) r.nl r.nl, .slice (some ⟨b3, 0, none⟩) r.nx r.nx, .slice (some ⟨b4, 0, none⟩) r.np r.np, .slice (some ⟨b5, 0, none⟩) r.no r.no, .slice (some ⟨b6, 0, none⟩) r.nf r.nf] 36)
  have o3 := o3.alloc (.cells #[.int .i64 r.fr, .int .i64 r.to, .slice (some ⟨b1, 0, none⟩) r.ns r.ns, .slice (some ⟨b2, 0, none⟩) r.nl r.nl, .slice (some ⟨b3, 0, none⟩) r.nx r.nx, .slice (some ⟨b4, 0, none⟩) r.np r.np, .slice (some ⟨b5, 0, none⟩) r.no r.no, .slice (some ⟨b6, 0, none⟩) r.nf r.nf] 36)
  have o4 := o4.alloc (.cells #[.int .i64 r.fr, .int .i64 r.to, .slice (some ⟨b1, 0, none⟩) r.ns r.ns, .slice (some ⟨b2, 0, none⟩) r.nl r.nl, .slice (some ⟨b3, 0, none⟩) r.nx r.nx, .slice (some ⟨b4, 0, none⟩) r.np r.np, .slice (some ⟨b5, 0, none⟩) r.no r.no, .slice (some ⟨b6, 0, none⟩) r.nf r.nf] 36)
  have o5 := o5.alloc (.cells #[.int .i64 r.fr, .int .i64 r.to, .slice (some ⟨b1, 0, none⟩) r.ns r.ns, .slice (some ⟨b2, 0, none⟩) r.nl r.nl, .slice (some ⟨b3, 0, none⟩) r.nx r.nx, .slice (some ⟨b4, 0, none⟩) r.np r.np, .slice (some ⟨b5, 0, none⟩) r.no r.no, .slice (some ⟨b6, 0, none⟩) r.nf r.nf] 36)
  have o6 := o6.alloc (.cells #[.int .i64 r.fr, .int .i64 r.to, .slice (some ⟨b1, 0, none⟩) r.ns r.ns, .slice (some ⟨b2, 0, none⟩) r.nl r.nl, .slice (some ⟨b3, 0, none⟩) r.nx r.nx, .slice (some ⟨b4, 0, none⟩) r.np r.np, .slice (some ⟨b5, 0, none⟩) r.no r.no, .slice (some ⟨b6, 0, none⟩) r.nf r.nf] 36)
  have F0 : Fr (fun k => C ≤ k ∧ k ≤ b6) w (w.alloc (.cells #[.int .i64 r.fr, .int .i64 r.to, .slice (some ⟨b1, 0, none⟩) r.ns r.ns, .slice (some ⟨b2, 0, none⟩) r.nl r.nl, .slice (some ⟨b3, 0, none⟩) r.nx r.nx, .slice (some ⟨b4, 0, none⟩) r.np r.np, .slice (some ⟨b5, 0, none⟩) r.no r.no, .slice (some ⟨b6, 0, none⟩) r.nf r.nf] 36)) := Fr.of_below (bel1 w _)
  refine (markStepS52 (some ⟨b1, 0, none⟩) r.ns r.ns (1) b1 0 _ s1 (by omega) (fun _ => rfl) (by exact o1.mark)).mono ?_
  rintro e w1 ⟨he, hW1, _⟩
  generalize hk1 : 1 + r.ns * 2 = k1 at he
  subst he
  have F1 := F0.trans (hW1.fr (X := fun k => C ≤ k ∧ k ≤ b6) ⟨by omega, by omega⟩)
  have A1 := A0.keep (hW1.other w.heap.size (by omega))
  have o2 := o2.within hW1 (by omega)
  have o3 := o3.within hW1 (by omega)
  have o4 := o4.within hW1 (by omega)
  have o5 := o5.within hW1 (by omega)
  have o6 := o6.within hW1 (by omega)
  have x1 : w1.cell? ⟨w.heap.size, 3, none⟩ = some _ := A1.cell 3
  have K1 : Hid (Fr (fun k => C ≤ k ∧ k ≤ b6) w w1 ∧ Box w1 w.heap.size 36 _) := ⟨F1, A1⟩
  have P1_2 : Hid (Own b2 62 2 w1 _ _) := o2
  have P1_3 : Hid (Own b3 3 1 w1 _ _) := o3
  have P1_4 : Hid (Own b4 103 3 w1 _ _) := o4
  have P1_5 : Hid (Own b5 103 3 w1 _ _) := o5
  have P1_6 : Hid (Own b6 64 4 w1 _ _) := o6
  clear hW1 F1 A1 F0 A0 o1 o2 o3 o4 o5 o6
  go_wp2_with fail
  obtain ⟨F1, A1⟩ := K1.out
  have o2 := P1_2.out
  have o3 := P1_3.out
  have o4 := P1_4.out
  have o5 := P1_5.out
  have o6 := P1_6.out
  clear K1 x1 P1_2 P1_3 P1_4 P1_5 P1_6
  refine (markLieS53 (some ⟨b2, 0, none⟩) r.nl r.nl (k1) b2 0 _ s2 (by omega) (fun _ => rfl) (by exact o2.mark)).mono ?_
  rintro e w2 ⟨he, hW2, _⟩
  generalize hk2 : k1 + r.nl * 2 = k2 at he
  subst he
  have F2 := F1.trans (hW2.fr (X := fun k => C ≤ k ∧ k ≤ b6) ⟨by omega, by omega⟩)
  have A2 := A1.keep (hW2.other w.heap.size (by omega))
  have o3 := o3.within hW2 (by omega)
  have o4 := o4.within hW2 (by omega)
  have o5 := o5.within hW2 (by omega)
  have o6 := o6.within hW2 (by omega)
  have x2 : w2.cell? ⟨w.heap.size, 4, none⟩ = some _ := A2.cell 4
  have K2 : Hid (Fr (fun k => C ≤ k ∧ k ≤ b6) w w2 ∧ Box w2 w.heap.size 36 _) := ⟨F2, A2⟩
  have P2_3 : Hid (Own b3 3 1 w2 _ _) := o3
  have P2_4 : Hid (Own b4 103 3 w2 _ _) := o4
  have P2_5 : Hid (Own b5 103 3 w2 _ _) := o5
  have P2_6 : Hid (Own b6 64 4 w2 _ _) := o6
  clear hW2 F2 A2 F1 A1 o2 o3 o4 o5 o6
  go_wp2_with fail
  obtain ⟨F2, A2⟩ := K2.out
  have o3 := P2_3.out
  have o4 := P2_4.out
  have o5 := P2_5.out
  have o6 := P2_6.out
  clear K2 x2 P2_3 P2_4 P2_5 P2_6
  refine (markIntS54 (some ⟨b3, 0, none⟩) r.nx r.nx (k2) b3 0 _ s3 (by omega) (fun _ => rfl) (by exact o3.mark)).mono ?_
  rintro e w3 ⟨he, hW3, _⟩
  generalize hk3 : k2 + r.nx * 1 = k3 at he
  subst he
  have F3 := F2.trans (hW3.fr (X := fun k => C ≤ k ∧ k ≤ b6) ⟨by omega, by omega⟩)
  have A3 := A2.keep (hW3.other w.heap.size (by omega))
  have o4 := o4.within hW3 (by omega)
  have o5 := o5.within hW3 (by omega)
  have o6 := o6.within hW3 (by omega)
  have x3 : w3.cell? ⟨w.heap.size, 5, none⟩ = some _ := A3.cell 5
  have K3 : Hid (Fr (fun k => C ≤ k ∧ k ≤ b6) w w3 ∧ Box w3 w.heap.size 36 _) := ⟨F3, A3⟩
  have P3_4 : Hid (Own b4 103 3 w3 _ _) := o4
  have P3_5 : Hid (Own b5 103 3 w3 _ _) := o5
  have P3_6 : Hid (Own b6 64 4 w3 _ _) := o6
  clear hW3 F3 A3 F2 A2 o3 o4 o5 o6
  go_wp2_with fail
  obtain ⟨F3, A3⟩ := K3.out
  have o4 := P3_4.out
  have o5 := P3_5.out
  have o6 := P3_6.out
  clear K3 x3 P3_4 P3_5 P3_6
  refine (markPartS55 (some ⟨b4, 0, none⟩) r.np r.np (k3) b4 0 _ s4 (by omega) (fun _ => rfl) (by exact o4.mark)).mono ?_
  rintro e w4 ⟨he, hW4, _⟩
  generalize hk4 : k3 + r.np * 3 = k4 at he
  subst he
  have F4 := F3.trans (hW4.fr (X := fun k => C ≤ k ∧ k ≤ b6) ⟨by omega, by omega⟩)
  have A4 := A3.keep (hW4.other w.heap.size (by omega))
  have o5 := o5.within hW4 (by omega)
  have o6 := o6.within hW4 (by omega)
  have x4 : w4.cell? ⟨w.heap.size, 6, none⟩ = some _ := A4.cell 6
  have K4 : Hid (Fr (fun k => C ≤ k ∧ k ≤ b6) w w4 ∧ Box w4 w.heap.size 36 _) := ⟨F4, A4⟩
  have P4_5 : Hid (Own b5 103 3 w4 _ _) := o5
  have P4_6 : Hid (Own b6 64 4 w4 _ _) := o6
  clear hW4 F4 A4 F3 A3 o4 o5 o6
  go_wp2_with fail
  obtain ⟨F4, A4⟩ := K4.out
  have o5 := P4_5.out
  have o6 := P4_6.out
  clear K4 x4 P4_5 P4_6
  refine (markPartS55 (some ⟨b5, 0, none⟩) r.no r.no (k4) b5 0 _ s5 (by omega) (fun _ => rfl) (by exact o5.mark)).mono ?_
  rintro e w5 ⟨he, hW5, _⟩
  generalize hk5 : k4 + r.no * 3 = k5 at he
  subst he
  have F5 := F4.trans (hW5.fr (X := fun k => C ≤ k ∧ k ≤ b6) ⟨by omega, by omega⟩)
  have A5 := A4.keep (hW5.other w.heap.size (by omega))
  have o6 := o6.within hW5 (by omega)
  have x5 : w5.cell? ⟨w.heap.size, 7, none⟩ = some _ := A5.cell 7
  have K5 : Hid (Fr (fun k => C ≤ k ∧ k ≤ b6) w w5 ∧ Box w5 w.heap.size 36 _) := ⟨F5, A5⟩
  have P5_6 : Hid (Own b6 64 4 w5 _ _) := o6
  clear hW5 F5 A5 F4 A4 o5 o6
  go_wp2_with fail
  obtain ⟨F5, A5⟩ := K5.out
  have o6 := P5_6.out
  clear K5 x5 P5_6
  refine (markFlankS56 (some ⟨b6, 0, none⟩) r.nf r.nf (k5) b6 0 _ s6 (by omega) (fun _ => rfl) (by exact o6.mark)).mono ?_
  rintro e w6 ⟨he, hW6, _⟩
  generalize hk6 : k5 + r.nf * 4 = k6 at he
  subst he
  have F6 := F5.trans (hW6.fr (X := fun k => C ≤ k ∧ k ≤ b6) ⟨by omega, by omega⟩)
  have A6 := A5.keep (hW6.other w.heap.size (by omega))
  have K6 : Hid (Fr (fun k => C ≤ k ∧ k ≤ b6) w w6 ∧ Box w6 w.heap.size 36 _) := ⟨F6, A6⟩
  clear hW6 F6 A6 F5 A5 o6 
  go_wp2_with fail
  go_ret
  exact ⟨_, rfl, K6.out.1⟩

end Go.Proofs.Ytpghgdnhfhdgmaa
