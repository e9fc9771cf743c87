import Derived.Test.YtmcaohablpaknaaLb
import Derived.Test.YtmcaohablpaknaaHd
namespace Go.Proofs.Ytmcaohablpaknaa
open Go.RowKit

theorem markCounterSV (a : Option Addr) (n cap k B : Nat) (F : Nat → Nat → Value) (w : World) (hn : n ≤ 1048576) (hk : k ≤ 1152921504606846976) (h : VOwn B 68 2 w (.slice a n cap) n F) :
    Calls Try.prog 44 #[.slice a n cap, .int .i64 k] w fun e w' => e = .returned (.int .i64 ((k + n * 2 : Nat) : Int)) ∧ Fr (fun g => (Value.slice a n cap).ownBlock = some g) w w' ∧ (0 < n → ∃ g, a = some ⟨g, 0, none⟩ ∧ g < w'.heap.size ∧ ∀ i, i < n → ∀ j, j < 2 → w'.cell? ⟨g, 0 + i * 2 + j, none⟩ = some (mkFCounterS k i j)) := by
  by_cases z : 0 < n
  · obtain ⟨g, rfl, h1, h2⟩ := h.addr z
    obtain ⟨g', e1, e2, _⟩ := h.markable (by omega)
    have e3 := e1 z
    simp only [Option.some.injEq, Addr.mk.injEq] at e3
    obtain ⟨rfl, _⟩ := e3
    refine (markCounterS (some ⟨g, 0, none⟩) n cap k g 0 w hn hk (fun _ => rfl) e2).mono ?_
    rintro e w1 ⟨rfl, hW, hm⟩
    exact ⟨rfl, hW.fr (X := fun q => (Value.slice (some ⟨g, 0, none⟩) n cap).ownBlock = some q) rfl, fun _ => ⟨g, rfl, by rw [hW.size]; exact h2, hm⟩⟩
  · refine (markCounterS a n cap k w.heap.size 0 w hn hk (fun q => absurd q z) (fun o _ ho => absurd ho (by omega))).mono ?_
    rintro e w1 ⟨rfl, hW, hm⟩
    exact ⟨rfl, ⟨hW.os, hW.tape, hW.output, by rw [hW.size]; exact Nat.le_refl _, fun q hq _ => hW.other q (by omega)⟩, fun q => absurd q z⟩
theorem markSectionSV (a : Option Addr) (n cap k B : Nat) (F : Nat → Nat → Value) (w : World) (hn : n ≤ 1048576) (hk : k ≤ 1152921504606846976) (h : VOwn B 84 5 w (.slice a n cap) n F) :
    Calls Try.prog 47 #[.slice a n cap, .int .i64 k] w fun e w' => e = .returned (.int .i64 ((k + n * 5 : Nat) : Int)) ∧ Fr (fun g => (Value.slice a n cap).ownBlock = some g) w w' ∧ (0 < n → ∃ g, a = some ⟨g, 0, none⟩ ∧ g < w'.heap.size ∧ ∀ i, i < n → ∀ j, j < 5 → w'.cell? ⟨g, 0 + i * 5 + j, none⟩ = some (mkFSectionS k i j)) := by
  by_cases z : 0 < n
  · obtain ⟨g, rfl, h1, h2⟩ := h.addr z
    obtain ⟨g', e1, e2, _⟩ := h.markable (by omega)
    have e3 := e1 z
    simp only [Option.some.injEq, Addr.mk.injEq] at e3
    obtain ⟨rfl, _⟩ := e3
    refine (markSectionS (some ⟨g, 0, none⟩) n cap k g 0 w hn hk (fun _ => rfl) e2).mono ?_
    rintro e w1 ⟨rfl, hW, hm⟩
    exact ⟨rfl, hW.fr (X := fun q => (Value.slice (some ⟨g, 0, none⟩) n cap).ownBlock = some q) rfl, fun _ => ⟨g, rfl, by rw [hW.size]; exact h2, hm⟩⟩
  · refine (markSectionS a n cap k w.heap.size 0 w hn hk (fun q => absurd q z) (fun o _ ho => absurd ho (by omega))).mono ?_
    rintro e w1 ⟨rfl, hW, hm⟩
    exact ⟨rfl, ⟨hW.os, hW.tape, hW.output, by rw [hW.size]; exact Nat.le_refl _, fun q hq _ => hW.other q (by omega)⟩, fun q => absurd q z⟩
theorem markBoolSV (a : Option Addr) (n cap k B : Nat) (F : Nat → Nat → Value) (w : World) (hn : n ≤ 1048576) (hk : k ≤ 1152921504606846976) (h : VOwn B 4 1 w (.slice a n cap) n F) :
    Calls Try.prog 48 #[.slice a n cap, .int .i64 k] w fun e w' => e = .returned (.int .i64 ((k + n * 1 : Nat) : Int)) ∧ Fr (fun g => (Value.slice a n cap).ownBlock = some g) w w' ∧ (0 < n → ∃ g, a = some ⟨g, 0, none⟩ ∧ g < w'.heap.size ∧ ∀ i, i < n → ∀ j, j < 1 → w'.cell? ⟨g, 0 + i * 1 + j, none⟩ = some (mkFBoolS k i j)) := by
  by_cases z : 0 < n
  · obtain ⟨g, rfl, h1, h2⟩ := h.addr z
    obtain ⟨g', e1, e2, _⟩ := h.markable (by omega)
    have e3 := e1 z
    simp only [Option.some.injEq, Addr.mk.injEq] at e3
    obtain ⟨rfl, _⟩ := e3
    refine (markBoolS (some ⟨g, 0, none⟩) n cap k g 0 w hn hk (fun _ => rfl) e2).mono ?_
    rintro e w1 ⟨rfl, hW, hm⟩
    exact ⟨rfl, hW.fr (X := fun q => (Value.slice (some ⟨g, 0, none⟩) n cap).ownBlock = some q) rfl, fun _ => ⟨g, rfl, by rw [hW.size]; exact h2, hm⟩⟩
  · refine (markBoolS a n cap k w.heap.size 0 w hn hk (fun q => absurd q z) (fun o _ ho => absurd ho (by omega))).mono ?_
    rintro e w1 ⟨rfl, hW, hm⟩
    exact ⟨rfl, ⟨hW.os, hW.tape, hW.output, by rw [hW.size]; exact Nat.le_refl _, fun q hq _ => hW.other q (by omega)⟩, fun q => absurd q z⟩
theorem markIntSV (a : Option Addr) (n cap k B : Nat) (F : Nat → Nat → Value) (w : World) (hn : n ≤ 1048576) (hk : k ≤ 1152921504606846976) (h : VOwn B 3 1 w (.slice a n cap) n F) :
    Calls Try.prog 18 #[.slice a n cap, .int .i64 k] w fun e w' => e = .returned (.int .i64 ((k + n * 1 : Nat) : Int)) ∧ Fr (fun g => (Value.slice a n cap).ownBlock = some g) w w' ∧ (0 < n → ∃ g, a = some ⟨g, 0, none⟩ ∧ g < w'.heap.size ∧ ∀ i, i < n → ∀ j, j < 1 → w'.cell? ⟨g, 0 + i * 1 + j, none⟩ = some (mkFIntS k i j)) := by
  by_cases z : 0 < n
  · obtain ⟨g, rfl, h1, h2⟩ := h.addr z
    obtain ⟨g', e1, e2, _⟩ := h.markable (by omega)
    have e3 := e1 z
    simp only [Option.some.injEq, Addr.mk.injEq] at e3
    obtain ⟨rfl, _⟩ := e3
    refine (markIntS (some ⟨g, 0, none⟩) n cap k g 0 w hn hk (fun _ => rfl) e2).mono ?_
    rintro e w1 ⟨rfl, hW, hm⟩
    exact ⟨rfl, hW.fr (X := fun q => (Value.slice (some ⟨g, 0, none⟩) n cap).ownBlock = some q) rfl, fun _ => ⟨g, rfl, by rw [hW.size]; exact h2, hm⟩⟩
  · refine (markIntS a n cap k w.heap.size 0 w hn hk (fun q => absurd q z) (fun o _ ho => absurd ho (by omega))).mono ?_
    rintro e w1 ⟨rfl, hW, hm⟩
    exact ⟨rfl, ⟨hW.os, hW.tape, hW.output, by rw [hW.size]; exact Nat.le_refl _, fun q hq _ => hW.other q (by omega)⟩, fun q => absurd q z⟩

/-- the sections and the dead ones, each one's own -/
structure StOwn (B : Nat) (w : World) (sa : Option Addr) (sc : Nat) (da : Option Addr) (dc : Nat) (ns nd : Nat) (S : Nat → Sec) (D : Nat → Bool) : Prop where
  s : VOwn B 84 5 w (.slice sa ns sc) ns (secF S)
  d : VOwn B 4 1 w (.slice da nd dc) nd (boolF D)
theorem StOwn.mono {B B' : Nat} {w w' : World} {sa da : Option Addr} {sc dc ns nd : Nat} {S : Nat → Sec} {D : Nat → Bool} {M : Nat} (h : StOwn B w sa sc da dc ns nd S D) (hB : B' ≤ B) (hb : Below M w w') (hM : w.heap.size ≤ M) : StOwn B' w' sa sc da dc ns nd S D :=
  ⟨h.s.mono hB hb hM, h.d.mono hB hb hM⟩
theorem StOwn.alloc {B : Nat} {w : World} {sa da : Option Addr} {sc dc ns nd : Nat} {S : Nat → Sec} {D : Nat → Bool} (h : StOwn B w sa sc da dc ns nd S D) (o : Obj) : StOwn B (w.alloc o) sa sc da dc ns nd S D := ⟨h.s.alloc o, h.d.alloc o⟩
def OwnB (v v' : Value) (g : Nat) : Prop := v.ownBlock = some g ∨ v'.ownBlock = some g
theorem StOwn.fr {B : Nat} {w w' : World} {sa da : Option Addr} {sc dc ns nd : Nat} {S : Nat → Sec} {D : Nat → Bool} {X : Nat → Prop} (h : StOwn B w sa sc da dc ns nd S D) (hf : Fr X w w') (hx : ∀ g, OwnB (.slice sa ns sc) (.slice da nd dc) g → ¬ X g) : StOwn B w' sa sc da dc ns nd S D :=
  ⟨h.s.fr hf fun g hg => hx g (.inl hg), h.d.fr hf fun g hg => hx g (.inr hg)⟩
theorem StOwn.lt {B : Nat} {w : World} {sa da : Option Addr} {sc dc ns nd : Nat} {S : Nat → Sec} {D : Nat → Bool} (h : StOwn B w sa sc da dc ns nd S D) {g : Nat} (hg : OwnB (.slice sa ns sc) (.slice da nd dc) g) : B ≤ g ∧ g < w.heap.size :=
  hg.elim h.s.lt h.d.lt
/-- rows of two kinds are two blocks -/
theorem VOwn.ne {B B' : Nat} {e e' : TypeId} {c c' : Nat} {w : World} {v v' : Value} {n n' : Nat} {F F' : Nat → Nat → Value} (h : VOwn B e c w v n F) (h' : VOwn B' e' c' w v' n' F') (hne : e ≠ e') {g : Nat} (hg : v.ownBlock = some g) : v'.ownBlock ≠ some g := by
  intro hg'
  rcases h with ⟨rfl, rfl⟩ | ⟨g1, cap, cur, rfl, h2, h3, _⟩
  · simp [Value.ownBlock] at hg
  · simp only [Value.ownBlock, Option.some.injEq] at hg
    subst hg
    exact h'.off h3 hne hg' rfl
/-- what is marked reads as it was marked -/
structure StMk (w : World) (sa da : Option Addr) (ns nd k : Nat) : Prop where
  s : 0 < ns → ∃ g, sa = some ⟨g, 0, none⟩ ∧ g < w.heap.size ∧ ∀ i, i < ns → ∀ j, j < 5 → w.cell? ⟨g, 0 + i * 5 + j, none⟩ = some (mkFSectionS k i j)
  d : 0 < nd → ∃ g, da = some ⟨g, 0, none⟩ ∧ g < w.heap.size ∧ ∀ i, i < nd → ∀ j, j < 1 → w.cell? ⟨g, 0 + i * 1 + j, none⟩ = some (mkFBoolS (k + ns * 5) i j)
theorem StMk.mono {w w' : World} {sa da : Option Addr} {ns nd k M : Nat} (h : StMk w sa da ns nd k) (hb : Below M w w') (hM : w.heap.size ≤ M) : StMk w' sa da ns nd k := by
  refine ⟨fun h0 => ?_, fun h0 => ?_⟩
  · obtain ⟨g, h1, h2, h3⟩ := h.s h0
    exact ⟨g, h1, Nat.lt_of_lt_of_le h2 hb.size, fun i hi j hj => (hb.cell (p := ⟨g, _, none⟩) (by show g < M; omega)).trans (h3 i hi j hj)⟩
  · obtain ⟨g, h1, h2, h3⟩ := h.d h0
    exact ⟨g, h1, Nat.lt_of_lt_of_le h2 hb.size, fun i hi j hj => (hb.cell (p := ⟨g, _, none⟩) (by show g < M; omega)).trans (h3 i hi j hj)⟩

set_option maxHeartbeats 2000000 in
theorem markCountState (ok : Bool) (sa da : Option Addr) (ns nd sc dc k B : Nat) (S : Nat → Sec) (D : Nat → Bool) (w : World) (hn : ns ≤ 1048576) (hm : nd ≤ 1048576) (hk : k ≤ 1048576000) (h : StOwn B w sa sc da dc ns nd S D) :
    Calls Try.prog 23 #[.agg #[.bool ok, .slice sa ns sc, .slice da nd dc], .int .i64 k] w fun e w' => e = .returned (.int .i64 ((k + ns * 5 + nd * 1 : Nat) : Int)) ∧ Fr (OwnB (.slice sa ns sc) (.slice da nd dc)) w w' ∧ StMk w' sa da ns nd k := by
  have HH : Hid (StOwn B w sa sc da dc ns nd S D) := h
  clear h
  go_enter Try.func23, Try.ntmps23
  go_wp2_with fail
  have A0 := Box.new w 42 #[.bool ok, .slice sa ns sc, .slice da nd dc]
  have F0 : Fr (OwnB (.slice sa ns sc) (.slice da nd dc)) w (w.alloc (.cells #[.bool ok, .slice sa ns sc, .slice da nd dc] 42)) := Fr.of_below (bel1 w _)
  have h0 := HH.out.alloc (.cells #[.bool ok, .slice sa ns sc, .slice da nd dc] 42)
  refine (markSectionSV sa ns sc k B _ _ hn (by omega) h0.s).mono ?_
  rintro e w1 ⟨he, f1, m1⟩
  generalize hk1 : k + ns * 5 = k1 at he
  subst he
  have F1 := F0.trans (f1.mono (Y := OwnB (.slice sa ns sc) (.slice da nd dc)) fun q _ hq => .inl hq)
  have A1 := A0.fr f1 (fun hq => by have := (HH.out.s.lt hq).2; omega)
  have d1 := h0.d.fr f1 (fun g hg hq => h0.s.ne h0.d (by decide) hq hg)
  have x2 : w1.cell? ⟨w.heap.size, 2, none⟩ = some (.slice da nd dc) := A1.cell 2
  have H1 : Hid (VOwn B 4 1 w1 (.slice da nd dc) nd (boolF D) ∧ Fr (OwnB (.slice sa ns sc) (.slice da nd dc)) w w1 ∧ (0 < ns → ∃ g, sa = some ⟨g, 0, none⟩ ∧ g < w1.heap.size ∧ ∀ i, i < ns → ∀ j, j < 5 → w1.cell? ⟨g, 0 + i * 5 + j, none⟩ = some (mkFSectionS k i j))) := ⟨d1, F1, m1⟩
  have hne : Hid (∀ g, (Value.slice sa ns sc).ownBlock = some g → (Value.slice da nd dc).ownBlock ≠ some g) := fun g hg => h0.s.ne h0.d (by decide) hg
  clear h0 f1 m1 F0 F1 A0 A1 d1
  go_wp2_with fail
  refine (markBoolSV da nd dc k1 B _ _ hm (by omega) H1.out.1).mono ?_
  rintro e w2 ⟨he, f2, m2⟩
  generalize hk2 : k1 + nd * 1 = k2 at he
  subst he
  have F2 := H1.out.2.1.trans (f2.mono (Y := OwnB (.slice sa ns sc) (.slice da nd dc)) fun q _ hq => .inr hq)
  have M2 : StMk w2 sa da ns nd k := by
    refine ⟨fun h0 => ?_, fun h0 => ?_⟩
    · obtain ⟨g, h1, h2, h3⟩ := H1.out.2.2 h0
      refine ⟨g, h1, Nat.lt_of_lt_of_le h2 f2.size, fun i hi j hj => (World.cell?_of_block (w := w1) (f2.block g h2 (hne.out g (by rw [h1]; rfl)))).trans (h3 i hi j hj)⟩
    · obtain ⟨g, h1, h2, h3⟩ := m2 h0
      rw [hk1]
      exact ⟨g, h1, h2, h3⟩
  have H2 : Hid (Fr (OwnB (.slice sa ns sc) (.slice da nd dc)) w w2 ∧ StMk w2 sa da ns nd k) := ⟨F2, M2⟩
  clear F2 M2 f2 m2 H1 x2
  go_wp2_with fail
  go_ret
  exact ⟨by rw [hk1, hk2]; rfl, H2.out⟩

set_option maxHeartbeats 2000000 in
theorem heldCountState (ok : Bool) (sa da : Option Addr) (ns nd sc dc k : Nat) (w : World) (hn : ns ≤ 1048576) (hm : nd ≤ 1048576) (hk : k ≤ 1048576000) (h : StMk w sa da ns nd k) :
    Calls Try.prog 24 #[.agg #[.bool ok, .slice sa ns sc, .slice da nd dc], .int .i64 k] w fun e w' => e = .returned (.int .i64 ((k + ns * 5 + nd * 1 : Nat) : Int)) ∧ Below w.heap.size w w' := by
  have HH : Hid (StMk w sa da ns nd k) := h
  clear h
  go_enter Try.func24, Try.ntmps24
  go_wp2_with fail
  have B0 := bel1 w (.cells #[.bool ok, .slice sa ns sc, .slice da nd dc] 42)
  have h0 := HH.out.mono B0 (Nat.le_refl _)
  have hs : ∃ g, (0 < ns → sa = some ⟨g, 0, none⟩) ∧ ∀ i, i < ns → ∀ j, j < 5 → (w.alloc (.cells #[.bool ok, .slice sa ns sc, .slice da nd dc] 42)).cell? ⟨g, 0 + i * 5 + j, none⟩ = some (mkFSectionS k i j) := by
    by_cases z : 0 < ns
    · obtain ⟨g, h1, _, h3⟩ := h0.s z
      exact ⟨g, fun _ => h1, h3⟩
    · exact ⟨0, fun q => absurd q z, fun i hi => absurd hi (by omega)⟩
  have hd : ∃ g, (0 < nd → da = some ⟨g, 0, none⟩) ∧ ∀ i, i < nd → ∀ j, j < 1 → (w.alloc (.cells #[.bool ok, .slice sa ns sc, .slice da nd dc] 42)).cell? ⟨g, 0 + i * 1 + j, none⟩ = some (mkFBoolS (k + ns * 5) i j) := by
    by_cases z : 0 < nd
    · obtain ⟨g, h1, _, h3⟩ := h0.d z
      exact ⟨g, fun _ => h1, h3⟩
    · exact ⟨0, fun q => absurd q z, fun i hi => absurd hi (by omega)⟩
  obtain ⟨g, hg, hc⟩ := hs
  obtain ⟨g', hg', hc'⟩ := hd
  refine (heldSectionS sa ns sc k g 0 _ hn (by omega) hg hc).mono ?_
  rintro e w1 ⟨he, rfl⟩
  rw [show k + ns * 5 = k + ns * 5 from rfl] at hc'
  generalize hk1 : k + ns * 5 = k1 at he hc'
  subst he
  have H1 : Hid (0 < nd → da = some ⟨g', 0, none⟩) := hg'
  have H2 : Hid (∀ i, i < nd → ∀ j, j < 1 → (w.alloc (.cells #[.bool ok, .slice sa ns sc, .slice da nd dc] 42)).cell? ⟨g', 0 + i * 1 + j, none⟩ = some (mkFBoolS k1 i j)) := hc'
  have p1 : (0 : Int) ≤ (k1 : Int) := by omega
  clear hg hc hg' hc' h0
  go_wp2_with fail
  refine (heldBoolS da nd dc k1 g' 0 _ hm (by omega) H1.out H2.out).mono ?_
  rintro e w1 ⟨he, rfl⟩
  generalize hk2 : k1 + nd * 1 = k2 at he
  subst he
  have p2 : (0 : Int) ≤ (k2 : Int) := by omega
  go_wp2_with fail
  go_ret
  exact ⟨by rw [hk1, hk2]; rfl, B0⟩

set_option maxHeartbeats 2000000 in
theorem markCountDone (code : Int) (ok : Bool) (sa da : Option Addr) (ns nd sc dc k B : Nat) (S : Nat → Sec) (D : Nat → Bool) (w : World) (hn : ns ≤ 1048576) (hm : nd ≤ 1048576) (hk : k ≤ 1048576000) (h : StOwn B w sa sc da dc ns nd S D) :
    Calls Try.prog 33 #[.agg #[.int .i64 code, .bool ok, .slice sa ns sc, .slice da nd dc], .int .i64 k] w fun e w' => e = .returned (.int .i64 ((k + ns * 5 + nd * 1 : Nat) : Int)) ∧ Fr (OwnB (.slice sa ns sc) (.slice da nd dc)) w w' ∧ StMk w' sa da ns nd k := by
  have HH : Hid (StOwn B w sa sc da dc ns nd S D) := h
  clear h
  go_enter Try.func33, Try.ntmps33
  go_wp2_with fail
  have F0 : Fr (OwnB (.slice sa ns sc) (.slice da nd dc)) w (w.alloc (.cells #[.int .i64 code, .bool ok, .slice sa ns sc, .slice da nd dc] 57)) := Fr.of_below (bel1 w _)
  refine (markCountState ok sa da ns nd sc dc k B S D _ hn hm hk (HH.out.alloc _)).mono ?_
  rintro e w1 ⟨he, f1, m1⟩
  generalize hk1 : k + ns * 5 + nd * 1 = k1 at he
  subst he
  have H1 : Hid (Fr (OwnB (.slice sa ns sc) (.slice da nd dc)) w w1 ∧ StMk w1 sa da ns nd k) := ⟨F0.trans f1, m1⟩
  clear F0 f1 m1
  go_wp2_with fail
  go_ret
  exact ⟨by rw [hk1]; rfl, H1.out⟩

set_option maxHeartbeats 2000000 in
theorem heldCountDone (code : Int) (ok : Bool) (sa da : Option Addr) (ns nd sc dc k : Nat) (w : World) (hn : ns ≤ 1048576) (hm : nd ≤ 1048576) (hk : k ≤ 1048576000) (h : StMk w sa da ns nd k) :
    Calls Try.prog 34 #[.agg #[.int .i64 code, .bool ok, .slice sa ns sc, .slice da nd dc], .int .i64 k] w fun e w' => e = .returned (.int .i64 ((k + ns * 5 + nd * 1 : Nat) : Int)) ∧ Below w.heap.size w w' := by
  have HH : Hid (StMk w sa da ns nd k) := h
  clear h
  go_enter Try.func34, Try.ntmps34
  go_wp2_with fail
  have B0 := bel1 w (.cells #[.int .i64 code, .bool ok, .slice sa ns sc, .slice da nd dc] 57)
  refine (heldCountState ok sa da ns nd sc dc k _ hn hm hk (HH.out.mono B0 (Nat.le_refl _))).mono ?_
  rintro e w1 ⟨he, b1⟩
  generalize hk1 : k + ns * 5 + nd * 1 = k1 at he
  subst he
  have p1 : (0 : Int) ≤ (k1 : Int) := by omega
  have H1 : Hid (Below w.heap.size w w1) := B0.trans (b1.mono B0.size)
  clear B0 b1
  go_wp2_with fail
  go_ret
  exact ⟨by rw [hk1]; rfl, H1.out⟩

set_option maxHeartbeats 1000000 in
theorem markLayoutV (sec : Int) (a : Option Addr) (n cap k B : Nat) (F : Nat → Nat → Value) (w : World) (hn : n ≤ 1048576) (hk : k ≤ 1048576000) (h : VOwn B 68 2 w (.slice a n cap) n F) :
    Calls Try.prog 17 #[.agg #[.int .i64 sec, .slice a n cap], .int .i64 k] w fun e w' => e = .returned (.int .i64 ((k + n * 2 : Nat) : Int)) ∧ Fr (fun g => (Value.slice a n cap).ownBlock = some g) w w' := by
  have HH : Hid (VOwn B 68 2 w (.slice a n cap) n F) := h
  clear h
  go_enter Try.func17, Try.ntmps17
  go_wp2_with fail
  have F0 : Fr (fun g => (Value.slice a n cap).ownBlock = some g) w (w.alloc (.cells #[.int .i64 sec, .slice a n cap] 29)) := Fr.of_below (bel1 w _)
  refine (markCounterSV a n cap k B F _ hn (by omega) (HH.out.alloc _)).mono ?_
  rintro e w1 ⟨he, f1, m1⟩
  generalize hk1 : k + n * 2 = k1 at he
  subst he
  have H1 : Hid (Fr (fun g => (Value.slice a n cap).ownBlock = some g) w w1) := F0.trans f1
  clear F0 f1 m1
  go_wp2_with fail
  go_ret
  exact ⟨by rw [hk1]; rfl, H1.out⟩

end Go.Proofs.Ytmcaohablpaknaa
