import Derived.Test.YtlgapgajgpilgaaGreatDoorZbs
import Derived.Test.YtlgapgajgpilgaaGreatDoorZbr
import Derived.Test.YtlgapgajgpilgaaGreatDoorZbt
namespace Go.Proofs.YtlgapgajgpilgaaGreatDoor
open Go.RowKit Go.Lib
theorem sel_mem (q : Nat → Bool) : ∀ n i, i < selN q n → ∃ j : Nat, j < n ∧ q j = true ∧ selD q n i = (j : Int)
 | 0, i, h => absurd h (Nat.not_lt_zero _)
 | n + 1, i, h => by
  cases c : q n with
  | false =>
   rw [selN_no c] at h
   obtain ⟨j, h1, h2, h3⟩ := sel_mem q n i h
   exact ⟨j, by omega, h2, by rw [selD_no c]; exact h3⟩
  | true =>
   rw [selN_yes c] at h
   rw [selD_yes c]
   by_cases d : i < selN q n
   ·
    obtain ⟨j, h1, h2, h3⟩ := sel_mem q n i d
    exact ⟨j, by omega, h2, by rw [updI, if_pos d]; exact h3⟩
   ·
    exact ⟨n, by omega, c, by rw [updI, if_neg d]⟩
theorem sel_onto (q : Nat → Bool) : ∀ n j, j < n → q j = true → ∃ i, i < selN q n ∧ selD q n i = (j : Int)
 | 0, j, h, _ => absurd h (Nat.not_lt_zero _)
 | n + 1, j, h, hq => by
  by_cases e : j = n
  ·
   subst e
   exact ⟨selN q j, by rw [selN_yes hq]; omega, by rw [selD_yes hq, updI, if_neg (Nat.lt_irrefl _)]⟩
  ·
   obtain ⟨i, h1, h2⟩ := sel_onto q n j (by omega) hq
   cases c : q n with
   | false => exact ⟨i, by rw [selN_no c]; exact h1, by rw [selD_no c]; exact h2⟩
   | true => exact ⟨i, by rw [selN_yes c]; omega, by rw [selD_yes c, updI, if_pos h1]; exact h2⟩
def fxO (q wn : Nat → Bool) (n : Nat) : Option Nat := if anyB (fun k => q k && wn k) n = true then some 4 else if 0 < selN q n then some 5 else none
def wnS (p : Pl) (S : Nat → WS) (k : Nat) : Bool := decide (0 < selN (fun i => wantsS p S i k) p.ny)
def whyO (p : Pl) (O : Nat → Bool) (P : Nat → Nat → Int) (S : Nat → WS) (x : Nat) : Option Nat :=
 if heldS (S x) = true then some 1 else if 0 < selN (fun k => agS p S x k) p.ny then some 2 else if 0 < selN (scQ p O x) p.sec.toNat then some 3 else fxO (swQ p O P S x) (wnS p S) p.nw
set_option maxRecDepth 100000 in
set_option maxHeartbeats 8000000 in
theorem whyFixed92 (p : Pl) (wb yb bb : Nat) (lo rr : Nat → Nat) (ob oo no oc pb po np pc : Nat) (ia : Option Addr) (ic : Nat) (O : Nat → Bool) (S : Nat → WS) (N : Nat → Nat) (q : Nat → Bool) (da : Option Addr) (dc : Nat) (A : Nat → Addr) (w : World) (hq : ∀ k, k < p.nw → q k = true → fxB p O S k = true) (hD : VsAt 1 0 w da (selN q p.nw) (oneF (selD q p.nw))) (hs : p.small) (hP : PlOwn 0 w p wb yb bb lo rr) (h : WlAt w ia p.ny N S) (hO : VsAt 1 0 w (some ⟨ob, oo, none⟩) no (boolF O)) (hno : no ≤ 1048576) (hsw : ∀ k, k < p.nw → ∃ o : Nat, p.W k = (o : Int) ∧ o < no) (hS : Sn w 6 A) :
  Calls Tryz.prog 92 #[.agg #[.int .i64 p.sec, .slice (some ⟨wb, 0, none⟩) p.nw p.nw, .slice (some ⟨yb, 0, none⟩) p.ny p.ny, .slice (some ⟨bb, 0, none⟩) p.nb p.nb, .int .i64 p.hold, .slice (some ⟨ob, oo, none⟩) no oc, .slice (some ⟨pb, po, none⟩) np pc, .slice ia p.ny ic], .slice da (selN q p.nw) dc] w fun e w' => e = .returned (erV A (fxO q (wnS p S) p.nw)) ∧ Below w.heap.size w w' := by
 have H : Hid (p.small ∧ PlOwn 0 w p wb yb bb lo rr ∧ WlAt w ia p.ny N S ∧ VsAt 1 0 w (some ⟨ob, oo, none⟩) no (boolF O) ∧ Sn w 6 A) := ⟨hs, hP, h, hO, hS⟩
 have HQ : Hid ((∀ k, k < p.nw → q k = true → fxB p O S k = true) ∧ ∀ k, k < p.nw → ∃ o : Nat, p.W k = (o : Int) ∧ o < no) := ⟨hq, hsw⟩
 obtain ⟨n, HN⟩ : ∃ n, Hid (selN q p.nw = n) := ⟨_, rfl⟩
 have HDD : Hid (VsAt 1 0 w da n (oneF (selD q p.nw))) := by rw [← HN.out]; exact hD
 have hn : n ≤ 1048576 := by have := selN_le q p.nw; have := hs.1; have := HN.out; omega
 rw [HN.out]
 clear hq hD hs hP h hO hsw hS
 have S0 : Hid (Below w.heap.size w (w.alloc (.cells #[.int .i64 p.sec, .slice (some ⟨wb, 0, none⟩) p.nw p.nw, .slice (some ⟨yb, 0, none⟩) p.ny p.ny, .slice (some ⟨bb, 0, none⟩) p.nb p.nb, .int .i64 p.hold, .slice (some ⟨ob, oo, none⟩) no oc, .slice (some ⟨pb, po, none⟩) np pc, .slice ia p.ny ic] 73)) ∧ Box (w.alloc (.cells #[.int .i64 p.sec, .slice (some ⟨wb, 0, none⟩) p.nw p.nw, .slice (some ⟨yb, 0, none⟩) p.ny p.ny, .slice (some ⟨bb, 0, none⟩) p.nb p.nb, .int .i64 p.hold, .slice (some ⟨ob, oo, none⟩) no oc, .slice (some ⟨pb, po, none⟩) np pc, .slice ia p.ny ic] 73)) w.heap.size 73 #[.int .i64 p.sec, .slice (some ⟨wb, 0, none⟩) p.nw p.nw, .slice (some ⟨yb, 0, none⟩) p.ny p.ny, .slice (some ⟨bb, 0, none⟩) p.nb p.nb, .int .i64 p.hold, .slice (some ⟨ob, oo, none⟩) no oc, .slice (some ⟨pb, po, none⟩) np pc, .slice ia p.ny ic]) := ⟨bel1 _ _, Box.new _ _ _⟩
 obtain ⟨R, HR⟩ : ∃ R, Hid (erV A (fxO q (wnS p S) p.nw) = R) := ⟨_, rfl⟩
 rw [HR.out]
 go_enter Tryz.func92, Tryz.ntmps92
 go_wp2_with fail
 generalize (w.alloc (.cells #[.int .i64 p.sec, .slice (some ⟨wb, 0, none⟩) p.nw p.nw, .slice (some ⟨yb, 0, none⟩) p.ny p.ny, .slice (some ⟨bb, 0, none⟩) p.nb p.nb, .int .i64 p.hold, .slice (some ⟨ob, oo, none⟩) no oc, .slice (some ⟨pb, po, none⟩) np pc, .slice ia p.ny ic] 73)) = V0 at S0 ⊢
 go_loopw [5, 10] (fun u c wr => ∃ (k : Nat) (v : Value), k ≤ n ∧ c = .int .i64 k ∧ u = v ∧ Hid (v = erV A (if k = 0 then none else some 5)) ∧ Hid (∀ m j : Nat, m < k → selD q p.nw m = (j : Int) → wnS p S j = false) ∧ Hid (Below w.heap.size w wr ∧ Box wr w.heap.size 73 #[.int .i64 p.sec, .slice (some ⟨wb, 0, none⟩) p.nw p.nw, .slice (some ⟨yb, 0, none⟩) p.ny p.ny, .slice (some ⟨bb, 0, none⟩) p.nb p.nb, .int .i64 p.hold, .slice (some ⟨ob, oo, none⟩) no oc, .slice (some ⟨pb, po, none⟩) np pc, .slice ia p.ny ic])) (fun _ c _ => n - (intOf c).toNat)
 case atStart => exact ⟨0, _, Nat.zero_le _, rfl, rfl, rfl, fun m j hj => absurd hj (Nat.not_lt_zero _), S0⟩
 case round =>
  clear S0
  obtain ⟨k, v, hk, rfl, rfl, HUV, HK, T⟩ := hrel
  by_cases hlt : k < n
  ·
   have hk0 : (0 : Int) ≤ (k : Int) := by omega
   have hkn : (k : Int) < (n : Int) := by omega
   obtain ⟨j, hj, hqj, hDj⟩ := sel_mem q p.nw k (by rw [HN.out]; exact hlt)
   obtain ⟨o, hWo, hon⟩ := HQ.out.2 j hj
   have HJ : Hid (q j = true ∧ selD q p.nw k = (j : Int)) := ⟨hqj, hDj⟩
   have HO : Hid (p.W j = (o : Int) ∧ o < no) := ⟨hWo, hon⟩
   clear hWo hon
   obtain ⟨db, dof, rfl, _, hdl, hcd⟩ := HDD.out (by omega)
   have z0 : wr.cell? ⟨db, dof + k, none⟩ = some (.int .i64 (j : Int)) := by
    have := hcd k hlt 0 (by omega)
    rw [Nat.mul_one, Nat.add_zero, oneF, hDj] at this
    exact cell_keep T.out.1 hdl this
   clear hqj hDj hcd
   have d0 : wr.cell? ⟨w.heap.size, 0, none⟩ = some (.int .i64 p.sec) := T.out.2.cell 0
   have d1 : wr.cell? ⟨w.heap.size, 1, none⟩ = some (.slice (some ⟨wb, 0, none⟩) p.nw p.nw) := T.out.2.cell 1
   have d2 : wr.cell? ⟨w.heap.size, 2, none⟩ = some (.slice (some ⟨yb, 0, none⟩) p.ny p.ny) := T.out.2.cell 2
   have d3 : wr.cell? ⟨w.heap.size, 3, none⟩ = some (.slice (some ⟨bb, 0, none⟩) p.nb p.nb) := T.out.2.cell 3
   have d4 : wr.cell? ⟨w.heap.size, 4, none⟩ = some (.int .i64 p.hold) := T.out.2.cell 4
   have d5 : wr.cell? ⟨w.heap.size, 5, none⟩ = some (.slice (some ⟨ob, oo, none⟩) no oc) := T.out.2.cell 5
   have d6 : wr.cell? ⟨w.heap.size, 6, none⟩ = some (.slice (some ⟨pb, po, none⟩) np pc) := T.out.2.cell 6
   have d7 : wr.cell? ⟨w.heap.size, 7, none⟩ = some (.slice ia p.ny ic) := T.out.2.cell 7
   go_wp2_with fail
   clear d0 d1 d2 d3 d4 d5 d6 d7 z0
   have HSr := H.out.2.2.2.2.mono T.out.1 (Nat.le_refl _)
   refine (fixed100 p wb yb bb lo rr ob oo no oc (some ⟨pb, po, none⟩) np pc ia ic O S N j o 228 228 (.pointer (some (A 4))) (.pointer (some (A 5))) wr hj HO.out.1 HO.out.2 hno H.out.1 (H.out.2.1.mono (Nat.le_refl _) T.out.1 (Nat.le_refl _)) (H.out.2.2.2.1.mono (Nat.le_refl _) T.out.1 (Nat.le_refl _)) (H.out.2.2.1.mono T.out.1 (Nat.le_refl _)) (HSr.1 4 (by omega)) (HSr.1 5 (by omega)) (by have := HSr.2.2.2; omega) (by have := HSr.2.2.2; omega)).mono ?_
   clear HSr
   rintro e w3 ⟨he, hb3⟩
   have T3 : Hid (Below w.heap.size w w3 ∧ Box w3 w.heap.size 73 #[.int .i64 p.sec, .slice (some ⟨wb, 0, none⟩) p.nw p.nw, .slice (some ⟨yb, 0, none⟩) p.ny p.ny, .slice (some ⟨bb, 0, none⟩) p.nb p.nb, .int .i64 p.hold, .slice (some ⟨ob, oo, none⟩) no oc, .slice (some ⟨pb, po, none⟩) np pc, .slice ia p.ny ic]) := ⟨T.out.1.trans (hb3.mono T.out.1.size), T.out.2.mono hb3 (Nat.le_refl _)⟩
   clear hb3
   obtain ⟨u, HU⟩ : ∃ u, Hid (wnS p S j = u) := ⟨_, rfl⟩
   have HSr := H.out.2.2.2.2.mono T3.out.1 (Nat.le_refl _)
   have z4 : w3.cell? ⟨4, 0, none⟩ = some (.iface 228 (.pointer (some (A 4)))) := HSr.1 4 (by omega)
   cases u with
   | true =>
    rw [fxV_a _ HU.out] at he
    subst he
    go_wp2_with fail
    refine (is_same (A 4) w3).mono ?_
    rintro e w4 ⟨rfl, hw⟩
    have hw := hw.symm
    subst hw
    have HT : Hid (R = .iface 228 (.pointer (some (A 4)))) := by
     have h1 : anyB (fun k => q k && wnS p S k) p.nw = true := anyB_yes hj (by simp [HJ.out.1, HU.out])
     exact HR.out.symm.trans (by rw [fxO, if_pos h1]; rfl)
    clear HSr z4
    go_wp2_with fail
    go_ret
    exact ⟨by rw [HT.out]; rfl, T3.out.1⟩
   | false =>
    have h1 : O o = true := by
     have h2 := HQ.out.1 j hj HJ.out.1
     have h3 : decide (0 < selN (fun i => wantsS p S i j) p.ny) = false := HU.out
     rw [fxB, h3, HO.out.1] at h2
     simpa using h2
    rw [h1, fxV_b HU.out] at he
    clear h1
    subst he
    go_wp2_with fail
    obtain ⟨c4, t4, e4⟩ := HSr.2.2.1 4 (by omega)
    obtain ⟨c5, t5, e5⟩ := HSr.2.2.1 5 (by omega)
    refine (is_other (A 5) (A 4) c5 c4 t5 t4 w3 (fun e => absurd (HSr.2.1 5 4 (by omega) (by omega) e) (by decide)) e5 e4).mono ?_
    rintro e w4 ⟨rfl, hw⟩
    have hw := hw.symm
    subst hw
    have HK2 : Hid (∀ m j : Nat, m < k + 1 → selD q p.nw m = (j : Int) → wnS p S j = false) := fun m j2 hm he => by
     by_cases c : m = k
     ·
      subst c
      have h1 := HJ.out.2.symm.trans he
      have h2 : j = j2 := by omega
      rw [← h2]
      exact HU.out
     ·
      exact HK.out m j2 (by omega) he
    clear HSr z4 e4 e5
    go_wp2_with fail
    go_roundw
    case rel => exact ⟨k + 1, _, by omega, by go_num, rfl, by rw [if_neg (by omega)]; rfl, HK2, T3⟩
    case measure => simp [intOf]; omega
  ·
   have hkn : k = n := by omega
   subst hkn
   have HT : Hid (u5 = R) := by
    refine HUV.out.trans (HR.out.symm.trans ?_).symm
    have h1 : anyB (fun k => q k && wnS p S k) p.nw = false := anyB_no fun j hj => by
     cases c : q j with
     | false => rfl
     | true =>
      obtain ⟨i, h2, h3⟩ := sel_onto q p.nw j hj c
      rw [HK.out i j (by rw [← HN.out]; exact h2) h3]
      rfl
    rw [fxO, if_neg (by rw [h1]; decide), HN.out]
    by_cases c : k = 0
    ·
     rw [if_pos c, if_neg (by omega)]
    ·
     rw [if_neg c, if_pos (by omega)]
   have hge : ¬ ((k : Int) < (k : Int)) := by omega
   go_wp2_with fail
   go_ret
   exact ⟨by rw [← HT.out]; rfl, T.out.1⟩
end Go.Proofs.YtlgapgajgpilgaaGreatDoor
