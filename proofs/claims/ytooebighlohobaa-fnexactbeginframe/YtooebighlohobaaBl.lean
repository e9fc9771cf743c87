import Derived.Test.YtooebighlohobaaBk
namespace Go.Proofs.Ytooebighlohobaa
open Go.RowKit

/-- the marks of how a way stands -/
def mkH (y : Hl) (k : Nat) : Hl := ⟨(k : Int), ((k + 1 : Nat) : Int), y.nb, fun j => trM ((k + 2 + j : Nat) : Int), trM ((k + 2 + y.nb : Nat) : Int), ((k + 2 + y.nb + 1 : Nat) : Int)⟩
/-- the first mark of each -/
def kAt (Y : Nat → Hl) (k : Nat) : Nat → Nat
  | 0 => k
  | q + 1 => kAt Y k q + 2 + (Y q).nb + 1 + 1
def mkY (Y : Nat → Hl) (k i : Nat) : Hl := mkH (Y i) (kAt Y k i)
def mixY (Y : Nat → Hl) (k q i : Nat) : Hl := if i < q then mkY Y k i else Y i
theorem mixY_nb (Y : Nat → Hl) (k q i : Nat) : (mixY Y k q i).nb = (Y i).nb := by
  unfold mixY mkY mkH
  split <;> rfl
theorem mixY_ne (Y : Nat → Hl) (k : Nat) {q i : Nat} (h : i ≠ q) : mixY Y k (q + 1) i = mixY Y k q i := by
  unfold mixY
  by_cases c : i < q
  · rw [if_pos c, if_pos (by omega)]
  · rw [if_neg c, if_neg (by omega)]
theorem kAt_le (Y : Nat → Hl) (k : Nat) {n : Nat} (h : ∀ i, i < n → (Y i).nb ≤ 1048576) : ∀ q, q ≤ n → kAt Y k q ≤ k + q * 1048580
  | 0, _ => by simp [kAt]
  | q + 1, hq => by
    have h1 := kAt_le Y k h q (by omega)
    have h2 := h q (by omega)
    simp only [kAt]
    omega
theorem HsOwn.by2 {B : Nat} {w w' : World} {v : Value} {n : Nat} {Y : Nat → Hl} {r : Nat → Nat} (h : HsOwn B w v n Y r) (hk : ∀ b cur, Box w b 4 cur → w'.heap[b]? = w.heap[b]?) (ho : VOwn B 71 5 w' v n (hlF Y r)) : HsOwn B w' v n Y r :=
  ⟨ho, fun i hi => ⟨(h.row i hi).1.by_ hk, (h.row i hi).2⟩, h.inj⟩
set_option maxRecDepth 100000 in
set_option maxHeartbeats 8000000 in
theorem mark46 (B : Nat) (a : Option Addr) (n c : Nat) (Y : Nat → Hl) (r : Nat → Nat) (k : Nat) (w : World) (hn : n ≤ 1048576) (hk : k ≤ 100000000) (hL : ∀ i, i < n → (Y i).nb ≤ 1048576) (hQ : HsOwn B w (.slice a n c) n Y r) :
    Calls Try.prog 46 #[.slice a n c, .int .i64 (k : Int)] w fun e w' => e = .returned (.int .i64 ((kAt Y k n : Nat) : Int)) ∧ HsOwn B w' (.slice a n c) n (mkY Y k) r ∧ Fr (fun b => (Value.slice a n c).ownBlock = some b ∨ ∃ i, i < n ∧ b = r i) w w' := by
  have HQ : Hid (HsOwn B w (.slice a n c) n Y r) := hQ
  have HL : Hid (∀ i, i < n → (Y i).nb ≤ 1048576) := hL
  clear hQ hL
  go_enter Try.func46, Try.ntmps46
  go_wp2_with fail
  go_loopw [1, 5] (fun l i wr => ∃ q : Nat, q ≤ n ∧ i = .int .i64 (q : Int) ∧ l = .int .i64 ((kAt Y k q : Nat) : Int) ∧ Hid (HsOwn B wr (.slice a n c) n (mixY Y k q) r ∧ Fr (fun b => (Value.slice a n c).ownBlock = some b ∨ ∃ i, i < n ∧ b = r i) w wr)) (fun _ i _ => n - (intOf i).toNat)
  case atStart => exact ⟨0, Nat.zero_le _, rfl, rfl, HQ.out, Fr.refl _ _⟩
  case round =>
    obtain ⟨q, hq, rfl, rfl, M⟩ := hrel
    by_cases hlt : q < n
    · obtain ⟨g, ha, hBg, _⟩ := M.out.1.own.addr (by omega)
      subst ha
      have hq0 : (0 : Int) ≤ (q : Int) := by omega
      have hqn : (q : Int) < (n : Int) := by omega
      have hkq := kAt_le Y k HL.out q (by omega)
      have hnb := HL.out q hlt
      obtain ⟨x, hx⟩ : ∃ x, Hid (kAt Y k q = x) := ⟨_, rfl⟩
      rw [hx.out] at hkq
      rw [hx.out]
      obtain ⟨m, hm⟩ : ∃ m, Hid ((Y q).nb = m) := ⟨_, rfl⟩
      rw [hm.out] at hnb
      have mixq : mixY Y k q q = Y q := if_neg (Nat.lt_irrefl _)
      have hrow := (M.out.1.row q hlt)
      rw [mixq, hm.out] at hrow
      have T0 := M.out.1.own
      have T1 := T0.store hlt (j := 0) (by omega) (.int .i64 (x : Int))
      rw [Nat.add_zero] at T1
      have T2 := T1.store hlt (j := 1) (by omega) (.int .i64 ((x + 1 : Nat) : Int))
      have bx : ∃ cur, Box wr g 71 cur := T0.box rfl
      obtain ⟨cur, hbx⟩ := bx
      have K : ∀ (u v : Value) b cu, Box wr b 4 cu → ((wr.setCell ⟨g, q * 5, none⟩ u).setCell ⟨g, q * 5 + 1, none⟩ v).heap[b]? = wr.heap[b]? := fun u v b cu hb => by
        have hne : b ≠ g := hb.ne hbx (by decide)
        rw [Below.heap_setCell _ _ _ _ hne, Below.heap_setCell _ _ _ _ hne]
      have hr2 := hrow.1.by_ (K (.int .i64 (x : Int)) (.int .i64 ((x + 1 : Nat) : Int)))
      have HM44 : Hid (Calls Try.prog 44 #[.slice (some ⟨r q, 0, none⟩) m m, .int .i64 ((x + 2 : Nat) : Int)] ((wr.setCell ⟨g, q * 5, none⟩ (.int .i64 (x : Int))).setCell ⟨g, q * 5 + 1, none⟩ (.int .i64 ((x + 1 : Nat) : Int))) fun e w' => e = .returned (.int .i64 ((x + 2 + m : Nat) : Int)) ∧
          (∃ cur, Box w' g 71 cur) ∧ w'.cell? ⟨g, q * 5 + 3, none⟩ = some (.bool (Y q).shown) ∧ w'.frozen? ⟨g, q * 5 + 3, none⟩ = false ∧ w'.cell? ⟨g, q * 5 + 4, none⟩ = some (.int .i64 (Y q).timer) ∧ w'.frozen? ⟨g, q * 5 + 4, none⟩ = false ∧
          HsOwn B ((w'.setCell ⟨g, q * 5 + 3, none⟩ (.bool (trM ((x + 2 + m : Nat) : Int)))).setCell ⟨g, q * 5 + 4, none⟩ (.int .i64 ((x + 2 + m + 1 : Nat) : Int))) (.slice (some ⟨g, 0, none⟩) n c) n (mixY Y k (q + 1)) r ∧ Fr (fun b => (Value.slice (some ⟨g, 0, none⟩) n c).ownBlock = some b ∨ ∃ i, i < n ∧ b = r i) w ((w'.setCell ⟨g, q * 5 + 3, none⟩ (.bool (trM ((x + 2 + m : Nat) : Int)))).setCell ⟨g, q * 5 + 4, none⟩ (.int .i64 ((x + 2 + m + 1 : Nat) : Int)))) := by
        refine (mark44 (r q) (some ⟨r q, 0, none⟩) m m (Y q).B (x + 2) _ hnb (by omega) hr2).mono ?_
        rintro e w' ⟨he, hv, hf⟩
        have T3 : VOwn B 71 5 w' (.slice (some ⟨g, 0, none⟩) n c) n _ := T2.by_ fun b cu hb => hf.block b hb.lt fun e => by
          have e' := own_block e
          obtain ⟨c4, hc4⟩ := hr2.box (g := r q) rfl
          exact hb.ne hc4 (by decide) e'
        have T4 := T3.store hlt (j := 3) (by omega) (.bool (trM ((x + 2 + m : Nat) : Int)))
        have T5 := T4.store hlt (j := 4) (by omega) (.int .i64 ((x + 2 + m + 1 : Nat) : Int))
        obtain ⟨c5, hb5⟩ := T3.box (g := g) rfl
        have K2 : ∀ (u v : Value) b cu, Box w' b 4 cu → ((w'.setCell ⟨g, q * 5 + 3, none⟩ u).setCell ⟨g, q * 5 + 4, none⟩ v).heap[b]? = w'.heap[b]? := fun u v b cu hb => by
          have hne : b ≠ g := hb.ne hb5 (by decide)
          rw [Below.heap_setCell _ _ _ _ hne, Below.heap_setCell _ _ _ _ hne]
        have d3 := T3.cell hlt (j := 3) (by omega)
        have d4 := T3.cell hlt (j := 4) (by omega)
        refine ⟨he, ⟨c5, hb5⟩, ?_, T3.free _, ?_, T3.free _, ⟨T5.congr fun i hi j hj => ?_, fun i hi => ⟨?_, (M.out.1.row i hi).2⟩, M.out.1.inj⟩, ?_⟩
        · rw [d3]
          simp [upd, hlF, mixq]
        · rw [d4]
          simp [upd, hlF, mixq]
        · unfold upd
          by_cases e : i = q
          · subst e
            have e1 : mixY Y k (i + 1) i = mkH (Y i) x := by rw [mixY, if_pos (by omega), mkY, hx.out]
            rcases (show j = 0 ∨ j = 1 ∨ j = 2 ∨ j = 3 ∨ j = 4 by omega) with rfl | rfl | rfl | rfl | rfl <;> simp [hlF, e1, mkH, mixq, hm.out]
          · have e1 : mixY Y k (q + 1) i = mixY Y k q i := mixY_ne Y k e
            simp [e, hlF, e1]
        · by_cases e : i = q
          · subst e
            have e1 : mixY Y k (i + 1) i = mkH (Y i) x := by rw [mixY, if_pos (by omega), mkY, hx.out]
            rw [e1]
            have := hv.by_ (K2 (.bool (trM ((x + 2 + m : Nat) : Int))) (.int .i64 ((x + 2 + m + 1 : Nat) : Int)))
            show VOwn (r i) 4 1 _ (.slice (some ⟨r i, 0, none⟩) (Y i).nb (Y i).nb) (Y i).nb _
            rw [hm.out]
            exact this
          · have e1 : mixY Y k (q + 1) i = mixY Y k q i := mixY_ne Y k e
            rw [e1]
            have h1 := (M.out.1.row i hi).1.by_ (K (.int .i64 (x : Int)) (.int .i64 ((x + 1 : Nat) : Int)))
            have h2 := h1.fr hf fun g' e' e'' => by
              have a1 := own_block e'
              have a2 := own_block e''
              exact e (M.out.1.inj i hi q hlt (by omega))
            exact h2.by_ (K2 _ _)
        · have hf2 : Fr (fun b => (Value.slice (some ⟨g, 0, none⟩) n c).ownBlock = some b ∨ ∃ i, i < n ∧ b = r i) ((wr.setCell ⟨g, q * 5, none⟩ (.int .i64 (x : Int))).setCell ⟨g, q * 5 + 1, none⟩ (.int .i64 ((x + 1 : Nat) : Int))) w' := hf.mono fun b _ e => .inr ⟨q, hlt, own_block e⟩
          exact ((((M.out.2.cells (.inl rfl) _ _).cells (.inl rfl) _ _).trans hf2).cells (.inl rfl) _ _).cells (.inl rfl) _ _
      have d0 : wr.cell? ⟨g, q * 5, none⟩ = some (.int .i64 (Y q).st) := by have := T0.cell hlt (j := 0) (by omega); simpa [hlF, mixq] using this
      have d1 : wr.cell? ⟨g, q * 5 + 1, none⟩ = some (.int .i64 (Y q).gone) := by have := T0.cell hlt (j := 1) (by omega); simpa [hlF, mixq] using this
      have d2 : wr.cell? ⟨g, q * 5 + 2, none⟩ = some (.slice (some ⟨r q, 0, none⟩) m m) := by have := T0.cell hlt (j := 2) (by omega); simpa [hlF, mixq, hm.out] using this
      have f0 := T0.free (q * 5)
      have f1 := T0.free (q * 5 + 1)
      have HX : Hid (kAt Y k (q + 1) = x + 2 + m + 1 + 1) := by show kAt Y k q + 2 + (Y q).nb + 1 + 1 = _; rw [hx.out, hm.out]
      clear M hrow T0 T1 T2 hbx K hr2 mixq
      go_wp2_with fail
      refine HM44.out.mono ?_
      rintro e w' ⟨rfl, _, c3, f3, c4, f4, hH, hF⟩
      have M2 : Hid (HsOwn B ((w'.setCell ⟨g, q * 5 + 3, none⟩ (.bool (trM ((x + 2 + m : Nat) : Int)))).setCell ⟨g, q * 5 + 4, none⟩ (.int .i64 ((x + 2 + m + 1 : Nat) : Int))) (.slice (some ⟨g, 0, none⟩) n c) n (mixY Y k (q + 1)) r ∧ Fr (fun b => (Value.slice (some ⟨g, 0, none⟩) n c).ownBlock = some b ∨ ∃ i, i < n ∧ b = r i) w ((w'.setCell ⟨g, q * 5 + 3, none⟩ (.bool (trM ((x + 2 + m : Nat) : Int)))).setCell ⟨g, q * 5 + 4, none⟩ (.int .i64 ((x + 2 + m + 1 : Nat) : Int)))) := ⟨hH, hF⟩
      clear HM44 hH hF
      go_wp2_with fail
      go_roundw
      case rel => exact ⟨q + 1, by omega, by go_num, by rw [HX.out]; go_num, M2⟩
      case measure => simp [intOf]; omega
    · have hge : ¬ ((q : Int) < (n : Int)) := by omega
      have hqn : q = n := by omega
      have HR : Hid (HsOwn B wr (.slice a n c) n (mkY Y k) r ∧ Fr (fun b => (Value.slice a n c).ownBlock = some b ∨ ∃ i, i < n ∧ b = r i) w wr) := by
        obtain ⟨h1, h2, h3⟩ := M.out.1
        have e : ∀ i, i < n → mixY Y k q i = mkY Y k i := fun i hi => if_pos (by omega)
        refine ⟨⟨h1.congr fun i hi j _ => by simp only [hlF, e i hi], fun i hi => ?_, h3⟩, M.out.2⟩
        have := h2 i hi
        rw [e i hi] at this
        exact this
      have HK : Hid (kAt Y k q = kAt Y k n) := congrArg (kAt Y k) hqn
      clear M
      go_wp2_with fail
      go_ret
      exact ⟨by first | rfl | (rw [← HK.out]; rfl), HR.out⟩

end Go.Proofs.Ytooebighlohobaa
