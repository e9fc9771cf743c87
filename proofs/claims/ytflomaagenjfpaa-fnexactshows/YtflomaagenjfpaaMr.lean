import Derived.Test.YtflomaagenjfpaaMk
namespace Go.Proofs.Ytflomaagenjfpaa
open Go.RowKit

theorem VOwn.wb {w : World} {g n : Nat} {F : Nat → Nat → Value} (h : VOwn g 4 1 w (.slice (some ⟨g, 0, none⟩) n n) n F) : ∃ cur, Box w g 4 cur ∧ n ≤ cur.size := by
  rcases h with ⟨e, _⟩ | ⟨g', cap, cur, e, k1, k2, k3, k4, k5, k6⟩
  · cases e
  · simp only [Value.slice.injEq, Option.some.injEq, Addr.mk.injEq, and_true, true_and] at e
    obtain ⟨rfl, rfl⟩ := e
    exact ⟨cur, k2, by omega⟩
theorem BsW.fr {w w' : World} {kb n : Nat} {K rr : Nat → Nat} {X : Nat → Prop} (h : BsW w kb n K rr) (hf : Fr X w w') (hx : ∀ b, kb ≤ b → b < w.heap.size → ¬ X b) : BsW w' kb n K rr := by
  obtain ⟨vs, h1, h2, h3⟩ := h
  refine ⟨vs, h1.fr hf (hx kb (Nat.le_refl _) h1.lt), h2, fun i hi => ?_⟩
  obtain ⟨e1, ⟨cu, e2, e3⟩, e4⟩ := h3 i hi
  exact ⟨e1, ⟨cu, e2.fr hf (hx (rr i) (by omega) e2.lt), e3⟩, e4⟩
theorem Fr.rest {w a b : World} {X Y Z : Nat → Prop} (h : Fr X w a) (k : Fr Y a b) (h1 : ∀ i, X i → Z i) (h2 : ∀ i, Y i → Z i) : Fr Z w b := (h.mono fun i _ => h1 i).trans (k.mono fun i _ => h2 i)

set_option maxRecDepth 100000 in
set_option maxHeartbeats 4000000 in
theorem markRow14 (r : Rw) (xb fb ob kb : Nat) (rr : Nat → Nat) (C E : Nat) (w : World) (hs : r.small) (ho : RwOwn C w r xb fb ob kb rr) (hE : kb < E) (hE2 : ∀ i, i < r.nk → rr i < E) :
    Calls Try.prog 14 #[.agg #[.slice (some ⟨xb, 0, none⟩) r.nn r.nn, .slice (some ⟨fb, 0, none⟩) r.nf r.nf, .slice (some ⟨ob, 0, none⟩) r.no r.no, .slice (some ⟨kb, 0, none⟩) r.nk r.nk], .int .i64 ((1 : Nat) : Int)] w fun e w' => (∃ m : Nat, e = .returned (.int .i64 (m : Int))) ∧ Fr (fun b => C ≤ b ∧ b < E) w w' := by
  obtain ⟨s1, s2, s3, s4, s5⟩ := hs
  obtain ⟨c1, c2, c3, c4, x, f, o, k⟩ := ho
  have zk : kb < w.heap.size := k.lt
  have HS : Hid ((∀ i, i < r.nk → r.K i ≤ 1048576) ∧ ∀ i, i < r.nk → rr i < E) := ⟨s5, hE2⟩
  have B0 := bel1 w (.cells #[.slice (some ⟨xb, 0, none⟩) r.nn r.nn, .slice (some ⟨fb, 0, none⟩) r.nf r.nf, .slice (some ⟨ob, 0, none⟩) r.no r.no, .slice (some ⟨kb, 0, none⟩) r.nk r.nk] 29)
  have M0 : Hid (∃ w0, w0 = w.alloc (.cells #[.slice (some ⟨xb, 0, none⟩) r.nn r.nn, .slice (some ⟨fb, 0, none⟩) r.nf r.nf, .slice (some ⟨ob, 0, none⟩) r.no r.no, .slice (some ⟨kb, 0, none⟩) r.nk r.nk] 29) ∧ Fr (fun b => C ≤ b ∧ b < E) w w0 ∧ Box w0 w.heap.size 29 #[.slice (some ⟨xb, 0, none⟩) r.nn r.nn, .slice (some ⟨fb, 0, none⟩) r.nf r.nf, .slice (some ⟨ob, 0, none⟩) r.no r.no, .slice (some ⟨kb, 0, none⟩) r.nk r.nk] ∧ QAt w0 (.slice (some ⟨xb, 0, none⟩) r.nn r.nn) r.nn r.X (some xb) ∧ QAt w0 (.slice (some ⟨fb, 0, none⟩) r.nf r.nf) r.nf r.F (some fb) ∧ (∃ cur, Box w0 ob 4 cur ∧ r.no ≤ cur.size) ∧ BsW w0 kb r.nk r.K rr) :=
    ⟨_, rfl, Fr.of_below B0, Box.new w 29 _, (QAt.of_own x).alloc _, (QAt.of_own f).alloc _, (by obtain ⟨cur, h1, h2⟩ := o.wb; exact ⟨cur, h1.alloc _, h2⟩), (k.mono B0 (Nat.le_refl _)).bw⟩
  clear x f o k hE2 s5 B0
  go_enter Try.func14, Try.ntmps14
  go_wp2_with fail
  obtain ⟨w0, hw0, hf0, b0, qx, qf, qo, qk⟩ := M0.out
  rw [← hw0]
  clear hw0 M0
  refine (mark15 (.slice (some ⟨xb, 0, none⟩) r.nn r.nn) r.nn r.X (some xb) 1 w0 s1 (by omega) qx).mono ?_
  rintro e w1 ⟨rfl, _, hf1⟩
  have hx1 : ∀ b, b ≠ xb → ¬ (some xb = some b) := fun b h e => h (Option.some.inj e).symm
  have M1 : Hid (Fr (fun b => C ≤ b ∧ b < E) w w1 ∧ Box w1 w.heap.size 29 #[.slice (some ⟨xb, 0, none⟩) r.nn r.nn, .slice (some ⟨fb, 0, none⟩) r.nf r.nf, .slice (some ⟨ob, 0, none⟩) r.no r.no, .slice (some ⟨kb, 0, none⟩) r.nk r.nk] ∧ QAt w1 (.slice (some ⟨fb, 0, none⟩) r.nf r.nf) r.nf r.F (some fb) ∧ (∃ cur, Box w1 ob 4 cur ∧ r.no ≤ cur.size) ∧ BsW w1 kb r.nk r.K rr) :=
    ⟨hf0.rest hf1 (fun _ h => h) (fun i e => by have := Option.some.inj e; omega), b0.fr hf1 (hx1 _ (by omega)), qf.fr hf1 (fun g e => hx1 g (by have := Option.some.inj e; omega)), (by obtain ⟨cur, h1, h2⟩ := qo; exact ⟨cur, h1.fr hf1 (hx1 _ (by omega)), h2⟩), qk.fr hf1 fun b h _ => hx1 b (by omega)⟩
  have a1 : w1.cell? ⟨w.heap.size, 1, none⟩ = some (.slice (some ⟨fb, 0, none⟩) r.nf r.nf) := M1.out.2.1.cell 1
  obtain ⟨k1, hk1⟩ : ∃ k1, Hid (1 + r.nn = k1) := ⟨_, rfl⟩
  have hb1 : k1 ≤ 1048577 := by have := hk1.out; omega
  rw [hk1.out]
  clear hf0 b0 qx qf qo qk hf1 hx1 hk1
  go_wp2_with fail
  obtain ⟨hf0, b0, qf, qo, qk⟩ := M1.out
  clear M1 a1
  refine (mark15 (.slice (some ⟨fb, 0, none⟩) r.nf r.nf) r.nf r.F (some fb) k1 w1 s2 (by omega) qf).mono ?_
  rintro e w2 ⟨rfl, _, hf1⟩
  have hx1 : ∀ b, b ≠ fb → ¬ (some fb = some b) := fun b h e => h (Option.some.inj e).symm
  have M2 : Hid (Fr (fun b => C ≤ b ∧ b < E) w w2 ∧ Box w2 w.heap.size 29 #[.slice (some ⟨xb, 0, none⟩) r.nn r.nn, .slice (some ⟨fb, 0, none⟩) r.nf r.nf, .slice (some ⟨ob, 0, none⟩) r.no r.no, .slice (some ⟨kb, 0, none⟩) r.nk r.nk] ∧ (∃ cur, Box w2 ob 4 cur ∧ r.no ≤ cur.size) ∧ BsW w2 kb r.nk r.K rr) :=
    ⟨hf0.rest hf1 (fun _ h => h) (fun i e => by have := Option.some.inj e; omega), b0.fr hf1 (hx1 _ (by omega)), (by obtain ⟨cur, h1, h2⟩ := qo; exact ⟨cur, h1.fr hf1 (hx1 _ (by omega)), h2⟩), qk.fr hf1 fun b h _ => hx1 b (by omega)⟩
  have a2 : w2.cell? ⟨w.heap.size, 2, none⟩ = some (.slice (some ⟨ob, 0, none⟩) r.no r.no) := M2.out.2.1.cell 2
  obtain ⟨k2, hk2⟩ : ∃ k2, Hid (k1 + r.nf = k2) := ⟨_, rfl⟩
  have hb2 : k2 ≤ 2097153 := by have := hk2.out; omega
  rw [hk2.out]
  clear hf0 b0 qf qo qk hf1 hx1 hk2
  go_wp2_with fail
  obtain ⟨hf0, b0, ⟨cur, qo, qs⟩, qk⟩ := M2.out
  clear M2 a2
  refine (mark31 ob r.no r.no cur k2 w2 s3 (by omega) qo qs).mono ?_
  rintro e w3 ⟨rfl, _, hf1⟩
  have M3 : Hid (Fr (fun b => C ≤ b ∧ b < E) w w3 ∧ Box w3 w.heap.size 29 #[.slice (some ⟨xb, 0, none⟩) r.nn r.nn, .slice (some ⟨fb, 0, none⟩) r.nf r.nf, .slice (some ⟨ob, 0, none⟩) r.no r.no, .slice (some ⟨kb, 0, none⟩) r.nk r.nk] ∧ BsW w3 kb r.nk r.K rr) :=
    ⟨hf0.rest hf1 (fun _ h => h) (fun i e => by omega), b0.fr hf1 (by omega), qk.fr hf1 fun b h _ => by omega⟩
  have a3 : w3.cell? ⟨w.heap.size, 3, none⟩ = some (.slice (some ⟨kb, 0, none⟩) r.nk r.nk) := M3.out.2.1.cell 3
  obtain ⟨k3, hk3⟩ : ∃ k3, Hid (k2 + r.no = k3) := ⟨_, rfl⟩
  have hb3 : k3 ≤ 3145729 := by have := hk3.out; omega
  rw [hk3.out]
  clear hf0 b0 qo qs qk hf1 hk3
  go_wp2_with fail
  obtain ⟨hf0, b0, qk⟩ := M3.out
  clear M3 a3
  refine (mark32 kb r.nk r.nk r.K rr E k3 w3 s4 HS.out.1 HS.out.2 (by omega) qk).mono ?_
  rintro e w4 ⟨⟨m, rfl⟩, hf1⟩
  have M4 : Hid (Fr (fun b => C ≤ b ∧ b < E) w w4) := hf0.rest hf1 (fun _ h => h) (fun i e => by omega)
  clear hf0 b0 qk hf1
  go_wp2_with fail
  go_ret
  exact ⟨⟨m, rfl⟩, M4.out⟩

end Go.Proofs.Ytflomaagenjfpaa
