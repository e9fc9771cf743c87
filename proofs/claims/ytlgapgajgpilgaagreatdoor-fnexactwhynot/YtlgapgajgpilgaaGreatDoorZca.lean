import Derived.Test.YtlgapgajgpilgaaGreatDoorZbu
import Derived.Test.YtlgapgajgpilgaaGreatDoorZbv
import Derived.Test.YtlgapgajgpilgaaGreatDoorZas
import Derived.Test.YtlgapgajgpilgaaGreatDoorZbz
import Derived.Test.YtlgapgajgpilgaaGreatDoorZbw
import Derived.Test.YtlgapgajgpilgaaGreatDoorZby
import Derived.Test.YtlgapgajgpilgaaGreatDoorZbd
namespace Go.Proofs.YtlgapgajgpilgaaGreatDoor
open Go.RowKit Go.Lib
set_option maxRecDepth 100000 in
set_option maxHeartbeats 8000000 in
theorem whyNot60 (p : Pl) (wb yb bb : Nat) (lo rr : Nat → Nat) (ob oo no oc pb po np pc : Nat) (ia : Option Addr) (ic : Nat) (O : Nat → Bool) (P : Nat → Nat → Int) (S : Nat → WS) (N : Nat → Nat) (x : Int) (A : Nat → Addr) (w : World) (hs : p.small) (hok : p.Ok) (hP : PlOwn 0 w p wb yb bb lo rr) (h : WlAt w ia p.ny N S) (hO : VsAt 1 0 w (some ⟨ob, oo, none⟩) no (boolF O)) (hPt : VsAt 2 0 w (some ⟨pb, po, none⟩) np (intF P)) (hin : ∀ i, i < p.ny → (p.Y i).In no np) (hno : no ≤ 1048576) (hnp : np ≤ 1048576) (hnpw : np = p.nw) (hsecn : (no : Int) = p.sec) (hsw : ∀ k, k < p.nw → ∃ o : Nat, p.W k = (o : Int) ∧ o < no) (hS : Sn w 6 A) :
  Calls Tryz.prog 60 #[.agg #[.int .i64 p.sec, .slice (some ⟨wb, 0, none⟩) p.nw p.nw, .slice (some ⟨yb, 0, none⟩) p.ny p.ny, .slice (some ⟨bb, 0, none⟩) p.nb p.nb, .int .i64 p.hold, .slice (some ⟨ob, oo, none⟩) no oc, .slice (some ⟨pb, po, none⟩) np pc, .slice ia p.ny ic], .int .i64 x] w fun e w' => e = .returned (erV A (if inB x 0 ((p.ny : Int) - 1) = true then whyO p O P S x.toNat else some 0)) ∧ Below w.heap.size w w' := by
 have H : Hid (p.small ∧ p.Ok ∧ PlOwn 0 w p wb yb bb lo rr ∧ WlAt w ia p.ny N S ∧ VsAt 1 0 w (some ⟨ob, oo, none⟩) no (boolF O) ∧ VsAt 2 0 w (some ⟨pb, po, none⟩) np (intF P) ∧ (∀ i, i < p.ny → (p.Y i).In no np) ∧ Sn w 6 A) := ⟨hs, hok, hP, h, hO, hPt, hin, hS⟩
 have HQ : Hid (np = p.nw ∧ (no : Int) = p.sec ∧ ∀ k, k < p.nw → ∃ o : Nat, p.W k = (o : Int) ∧ o < no) := ⟨hnpw, hsecn, hsw⟩
 have hny := hs.2.1
 clear hs hok hP h hO hPt hin hnpw hsecn hsw hS
 have S0 : Hid (Below w.heap.size w (w.alloc (.cells #[.int .i64 p.sec, .slice (some ⟨wb, 0, none⟩) p.nw p.nw, .slice (some ⟨yb, 0, none⟩) p.ny p.ny, .slice (some ⟨bb, 0, none⟩) p.nb p.nb, .int .i64 p.hold, .slice (some ⟨ob, oo, none⟩) no oc, .slice (some ⟨pb, po, none⟩) np pc, .slice ia p.ny ic] 73)) ∧ Box (w.alloc (.cells #[.int .i64 p.sec, .slice (some ⟨wb, 0, none⟩) p.nw p.nw, .slice (some ⟨yb, 0, none⟩) p.ny p.ny, .slice (some ⟨bb, 0, none⟩) p.nb p.nb, .int .i64 p.hold, .slice (some ⟨ob, oo, none⟩) no oc, .slice (some ⟨pb, po, none⟩) np pc, .slice ia p.ny ic] 73)) w.heap.size 73 #[.int .i64 p.sec, .slice (some ⟨wb, 0, none⟩) p.nw p.nw, .slice (some ⟨yb, 0, none⟩) p.ny p.ny, .slice (some ⟨bb, 0, none⟩) p.nb p.nb, .int .i64 p.hold, .slice (some ⟨ob, oo, none⟩) no oc, .slice (some ⟨pb, po, none⟩) np pc, .slice ia p.ny ic]) := ⟨bel1 _ _, Box.new _ _ _⟩
 have a2 := S0.out.2.cel 2
 obtain ⟨R, HR0⟩ : ∃ R, Hid (erV A (if inB x 0 ((p.ny : Int) - 1) = true then whyO p O P S x.toNat else some 0) = R) := ⟨_, rfl⟩
 rw [HR0.out]
 go_enter Tryz.func60, Tryz.ntmps60
 go_wp2_with fail
 clear a2
 generalize (w.alloc (.cells #[.int .i64 p.sec, .slice (some ⟨wb, 0, none⟩) p.nw p.nw, .slice (some ⟨yb, 0, none⟩) p.ny p.ny, .slice (some ⟨bb, 0, none⟩) p.nb p.nb, .int .i64 p.hold, .slice (some ⟨ob, oo, none⟩) no oc, .slice (some ⟨pb, po, none⟩) np pc, .slice ia p.ny ic] 73)) = V0 at S0 ⊢
 refine (place63 _ p.ny p.ny x V0 hny).mono ?_
 rintro e w1 ⟨he, hw⟩
 have hw := hw.symm
 subst hw
 obtain ⟨q, HI⟩ : ∃ q, Hid (inB x 0 ((p.ny : Int) - 1) = q) := ⟨_, rfl⟩
 rw [HI.out] at he
 subst he
 cases q with
 | false =>
  have z0 : V0.cell? ⟨0, 0, none⟩ = some (.iface 228 (.pointer (some (A 0)))) := (H.out.2.2.2.2.2.2.2.mono S0.out.1 nr).1 0 (by omega)
  have HT : Hid (R = .iface 228 (.pointer (some (A 0)))) := HR0.out.symm.trans (by rw [HI.out]; rfl)
  go_wp2_with fail
  go_ret
  exact ⟨by rw [HT.out]; rfl, S0.out.1⟩
 | true =>
  obtain ⟨i, rfl, hlt⟩ := inB_nat HI.out
  have HR : Hid (erV A (whyO p O P S i) = R) := Eq.trans (by rw [HI.out, if_pos rfl, Int.toNat_natCast]) HR0.out
  clear HR0
  have d0 := S0.out.2.cel 0
  have d1 := S0.out.2.cel 1
  have d2 := S0.out.2.cel 2
  have d3 := S0.out.2.cel 3
  have d4 := S0.out.2.cel 4
  have d5 := S0.out.2.cel 5
  have d6 := S0.out.2.cel 6
  have d7 := S0.out.2.cel 7
  go_wp2_with fail
  clear d0 d1 d2 d3 d4 d5 d6 d7
  have HSr := H.out.2.2.2.2.2.2.2.mono S0.out.1 nr
  refine (stays64 p wb yb bb lo rr ob oo no oc pb po np pc ia ic O P S N i 228 228 (.pointer (some (A 4))) (.pointer (some (A 5))) V0 hlt H.out.1 H.out.2.1 (H.out.2.2.1.mono nr S0.out.1 nr) (H.out.2.2.2.1.mono S0.out.1 nr) (H.out.2.2.2.2.1.mono nr S0.out.1 nr) (H.out.2.2.2.2.2.1.mono nr S0.out.1 nr) (H.out.2.2.2.2.2.2.1 i hlt) hno hnp HQ.out.1 HQ.out.2.1 HQ.out.2.2 (HSr.1 4 (by omega)) (HSr.1 5 (by omega)) (by have := HSr.2.2.2; omega) (by have := HSr.2.2.2; omega)).mono ?_
  clear HSr
  rintro e w2 ⟨a1, c1, a2, c2, a3, c3, he, ho1, ho2, ho3, _, _, hb⟩
  obtain ⟨n1, HN1⟩ : ∃ n, Hid (selN (fun k => agS p S i k) p.ny = n) := ⟨_, rfl⟩
  obtain ⟨n2, HN2⟩ : ∃ n, Hid (selN (scQ p O i) p.sec.toNat = n) := ⟨_, rfl⟩
  obtain ⟨n3, HN3⟩ : ∃ n, Hid (selN (swQ p O P S i) p.nw = n) := ⟨_, rfl⟩
  rw [HN1.out, HN2.out, HN3.out] at he
  rw [HN3.out] at ho3
  subst he
  have HL3 : Hid (VOwn V0.heap.size 3 1 (w2.alloc (.cells #[.slice a1 n1 c1, .slice a2 n2 c2, .slice a3 n3 c3] 53)) (.slice a3 n3 c3) n3 (oneF (selD (swQ p O P S i) p.nw))) := ho3.alloc _
  have T : Hid (Below w.heap.size w (w2.alloc (.cells #[.slice a1 n1 c1, .slice a2 n2 c2, .slice a3 n3 c3] 53)) ∧ Box (w2.alloc (.cells #[.slice a1 n1 c1, .slice a2 n2 c2, .slice a3 n3 c3] 53)) w.heap.size 73 #[.int .i64 p.sec, .slice (some ⟨wb, 0, none⟩) p.nw p.nw, .slice (some ⟨yb, 0, none⟩) p.ny p.ny, .slice (some ⟨bb, 0, none⟩) p.nb p.nb, .int .i64 p.hold, .slice (some ⟨ob, oo, none⟩) no oc, .slice (some ⟨pb, po, none⟩) np pc, .slice ia p.ny ic] ∧ Box (w2.alloc (.cells #[.slice a1 n1 c1, .slice a2 n2 c2, .slice a3 n3 c3] 53)) w2.heap.size 53 #[.slice a1 n1 c1, .slice a2 n2 c2, .slice a3 n3 c3]) := ⟨(S0.out.1.trans (hb.mono S0.out.1.size)).alloc (Nat.le_trans S0.out.1.size hb.size) _, (S0.out.2.mono hb nr).alloc _, Box.new _ _ _⟩
  clear ho1 ho2 ho3 hb S0
  have d0 := T.out.2.1.cel 0
  have d1 := T.out.2.1.cel 1
  have d2 := T.out.2.1.cel 2
  have d3 := T.out.2.1.cel 3
  have d4 := T.out.2.1.cel 4
  have d5 := T.out.2.1.cel 5
  have d6 := T.out.2.1.cel 6
  have d7 := T.out.2.1.cel 7
  go_wp2_with fail
  clear d0 d1 d2 d3 d4 d5 d6 d7
  generalize (w2.alloc (.cells #[.slice a1 n1 c1, .slice a2 n2 c2, .slice a3 n3 c3] 53)) = V3 at T HL3 ⊢
  generalize w2.heap.size = sq at T ⊢
  refine (isHeld114 p wb yb bb (some ⟨ob, oo, none⟩) no oc (some ⟨pb, po, none⟩) np pc ia ic S N i V3 hlt hny (H.out.2.2.2.1.mono T.out.1 nr)).mono ?_
  rintro e w4 ⟨he, hb4⟩
  have U : Hid ((Below w.heap.size w w4 ∧ Box w4 w.heap.size 73 #[.int .i64 p.sec, .slice (some ⟨wb, 0, none⟩) p.nw p.nw, .slice (some ⟨yb, 0, none⟩) p.ny p.ny, .slice (some ⟨bb, 0, none⟩) p.nb p.nb, .int .i64 p.hold, .slice (some ⟨ob, oo, none⟩) no oc, .slice (some ⟨pb, po, none⟩) np pc, .slice ia p.ny ic] ∧ Box w4 sq 53 #[.slice a1 n1 c1, .slice a2 n2 c2, .slice a3 n3 c3]) ∧ VOwn V0.heap.size 3 1 w4 (.slice a3 n3 c3) n3 (oneF (selD (swQ p O P S i) p.nw))) := ⟨⟨T.out.1.trans (hb4.mono T.out.1.size), T.out.2.1.mono hb4 nr, T.out.2.2.mono hb4 nr⟩, HL3.out.mono nr hb4 nr⟩
  clear hb4 T HL3
  have HSr : Hid (Sn w4 6 A) := H.out.2.2.2.2.2.2.2.mono U.out.1.1 nr
  obtain ⟨u, HU⟩ : ∃ u, Hid (heldS (S i) = u) := ⟨_, rfl⟩
  rw [HU.out] at he
  subst he
  cases u with
  | true =>
   have HT : Hid (R = .iface 228 (.pointer (some (A 1)))) := HR.out.symm.trans (by rw [whyO, if_pos HU.out]; rfl)
   have z1 : w4.cell? ⟨1, 0, none⟩ = some (.iface 228 (.pointer (some (A 1)))) := HSr.out.1 1 (by omega)
   go_wp2_with fail
   go_ret
   exact ⟨by rw [HT.out]; rfl, U.out.1.1⟩
  | false =>
   have y0 := U.out.1.2.2.cel 0
   have y1 := U.out.1.2.2.cel 1
   have y2 := U.out.1.2.2.cel 2
   have HNH : Hid (¬ (heldS (S i) = true)) := by rw [Hid, HU.out]; decide
   by_cases k1 : 0 < n1
   ·
    have HT : Hid (R = .iface 228 (.pointer (some (A 2)))) := HR.out.symm.trans (by rw [whyO, if_neg HNH.out, HN1.out, if_pos k1]; rfl)
    have z1 : w4.cell? ⟨2, 0, none⟩ = some (.iface 228 (.pointer (some (A 2)))) := HSr.out.1 2 (by omega)
    have hk1 : (0 : Int) < (n1 : Int) := by omega
    go_wp2_with fail
    go_ret
    exact ⟨by rw [HT.out]; rfl, U.out.1.1⟩
   have hk1 : ¬ ((0 : Int) < (n1 : Int)) := by omega
   by_cases k2 : 0 < n2
   ·
    have HT : Hid (R = .iface 228 (.pointer (some (A 3)))) := HR.out.symm.trans (by rw [whyO, if_neg HNH.out, HN1.out, if_neg k1, HN2.out, if_pos k2]; rfl)
    have z1 : w4.cell? ⟨3, 0, none⟩ = some (.iface 228 (.pointer (some (A 3)))) := HSr.out.1 3 (by omega)
    have hk2 : (0 : Int) < (n2 : Int) := by omega
    go_wp2_with fail
    go_ret
    exact ⟨by rw [HT.out]; rfl, U.out.1.1⟩
   have hk2 : ¬ ((0 : Int) < (n2 : Int)) := by omega
   have HT : Hid (erV A (fxO (swQ p O P S i) (wnS p S) p.nw) = R) := Eq.trans (by rw [whyO, if_neg HNH.out, HN1.out, if_neg k1, HN2.out, if_neg k2]) HR.out
   have d0 := U.out.1.2.1.cel 0
   have d1 := U.out.1.2.1.cel 1
   have d2 := U.out.1.2.1.cel 2
   have d3 := U.out.1.2.1.cel 3
   have d4 := U.out.1.2.1.cel 4
   have d5 := U.out.1.2.1.cel 5
   have d6 := U.out.1.2.1.cel 6
   have d7 := U.out.1.2.1.cel 7
   go_wp2_with fail
   clear d0 d1 d2 d3 d4 d5 d6 d7 y0 y1 y2
   have HWF := whyFixed92 p wb yb bb lo rr ob oo no oc pb po np pc ia ic O S N (swQ p O P S i) a3 c3 A w4 (fun k hk hq => by rw [swQ, Bool.and_eq_true] at hq; exact hq.2) (by rw [HN3.out]; exact U.out.2.vs.le (Nat.zero_le _)) H.out.1 (H.out.2.2.1.mono nr U.out.1.1 nr) (H.out.2.2.2.1.mono U.out.1.1 nr) (H.out.2.2.2.2.1.mono nr U.out.1.1 nr) hno HQ.out.2.2 HSr.out
   rw [HN3.out, HT.out] at HWF
   refine HWF.mono ?_
   clear HWF
   rintro e w5 ⟨rfl, hb5⟩
   have HE : Hid (Below w.heap.size w w5) := U.out.1.1.trans (hb5.mono U.out.1.1.size)
   clear hb5
   go_wp2_with fail
   go_ret
   exact ⟨rfl, HE.out⟩
end Go.Proofs.YtlgapgajgpilgaaGreatDoor
namespace Go.Proofs.YtlgapgajgpilgaaGreatDoor
open Go.RowKit Go.Lib
theorem hdF_all (q wn : Nat → Bool) : ∀ n, hdF q wn n = if anyB (fun k => q k && wn k) n = true then 5 else if 0 < selN q n then 6 else 0
 | 0 => by
  rw [if_neg (by rw [anyB_no fun i hi => absurd hi (Nat.not_lt_zero _)]; decide), if_neg (by rw [selN]; omega)]
  rfl
 | n + 1 => by
  have ih := hdF_all q wn n
  have hup : anyB (fun k => q k && wn k) n = true → anyB (fun k => q k && wn k) (n + 1) = true := fun h => by
   obtain ⟨i, h1, h2⟩ := anyB_iff.1 h
   exact anyB_yes (by omega) h2
  have hdn : (q n && wn n) = false → anyB (fun k => q k && wn k) n = false → anyB (fun k => q k && wn k) (n + 1) = false := fun h1 h2 => anyB_no fun i hi => by
   by_cases c : i = n
   ·
    subst c
    exact h1
   ·
    cases d : (q i && wn i) with
    | false => rfl
    | true => rw [anyB_yes (by omega : i < n) d] at h2; cases h2
  cases c : q n with
  | false =>
   rw [hdF_no c, ih, selN_no c]
   cases d : anyB (fun k => q k && wn k) n with
   | true => rw [hup d]
   | false => rw [hdn (by rw [c]; rfl) d]
  | true =>
   rw [selN_yes c, if_pos (show 0 < selN q n + 1 by omega)]
   cases e : wn n with
   | true => rw [hdF_yes c e, if_pos (anyB_yes (Nat.lt_succ_self n) (by rw [c, e]; rfl))]
   | false =>
    cases d : anyB (fun k => q k && wn k) n with
    | true =>
     rw [hdF_same c e (by rw [ih, if_pos d]; decide), ih, if_pos d, if_pos (hup d)]
    | false =>
     rw [if_neg (by rw [hdn (by rw [c, e]; rfl) d]; decide)]
     by_cases g : 0 < selN q n
     ·
      have h6 : hdF q wn n = 6 := by rw [ih, if_neg (by rw [d]; decide), if_pos g]
      rw [hdF_same c e (by rw [h6]; decide), h6]
     ·
      have h0 : hdF q wn n = 0 := by rw [ih, if_neg (by rw [d]; decide), if_neg g]
      rw [hdF_six c e h0]
def codO : Option Nat → Nat
 | none => 0
 | some g => g + 1
theorem codO_is (o : Option Nat) (h : ∀ g, o = some g → g < 6) : CodeIs 6 (fun i => #[0, 1, 2, 3, 4, 5].getD i 0) o (codO o) := by
 cases o with
 | none => exact Or.inl ⟨fun _ _ h => (by cases h), rfl⟩
 | some g =>
  have hg := h g rfl
  refine Or.inr ⟨g, hg, ?_, fun m hm => ?_, rfl⟩
  ·
   match g, hg with
   | 0, _ => rfl
   | 1, _ => rfl
   | 2, _ => rfl
   | 3, _ => rfl
   | 4, _ => rfl
   | 5, _ => rfl
  ·
   have hi : ∀ k, k < 6 → #[0, 1, 2, 3, 4, 5].getD k 0 = k := fun k hk => by
    match k, hk with
    | 0, _ => rfl
    | 1, _ => rfl
    | 2, _ => rfl
    | 3, _ => rfl
    | 4, _ => rfl
    | 5, _ => rfl
   intro e
   have e : g = #[0, 1, 2, 3, 4, 5].getD m 0 := Option.some.inj e
   rw [hi m (by omega)] at e
   omega
theorem fxO_code (q wn : Nat → Bool) (n : Nat) : ((codO (fxO q wn n) : Nat) : Int) = hdF q wn n := by
 rw [hdF_all, fxO]
 by_cases c : anyB (fun k => q k && wn k) n = true
 ·
  rw [if_pos c, if_pos c]
  rfl
 ·
  rw [if_neg c, if_neg c]
  by_cases d : 0 < selN q n
  ·
   rw [if_pos d, if_pos d]
   rfl
  ·
   rw [if_neg d, if_neg d]
   rfl
theorem fxO_lt (q wn : Nat → Bool) (n g : Nat) (h : fxO q wn n = some g) : g < 6 := by
 unfold fxO at h
 split at h
 ·
  cases h; decide
 ·
  split at h
  ·
   cases h; decide
  ·
   cases h
theorem whyO_lt {p : Pl} {O : Nat → Bool} {P : Nat → Nat → Int} {S : Nat → WS} {x g : Nat} (h : whyO p O P S x = some g) : g < 6 := by
 unfold whyO at h
 split at h
 ·
  cases h; decide
 ·
  split at h
  ·
   cases h; decide
  ·
   split at h
   ·
    cases h; decide
   ·
    exact fxO_lt _ _ _ _ h
def whyF (p : Pl) (f : Fm) (x : Nat) : Int := if (f.Y x).st ≠ 0 then 2 else cdE p f x
def whyA (p : Pl) (f : Fm) (x : Int) : Int := if blG p f x = true then whyF p f x.toNat else 1
theorem hdF_congr {q r wn wm : Nat → Bool} : ∀ {n : Nat}, (∀ k, k < n → q k = r k) → (∀ k, wn k = wm k) → hdF q wn n = hdF r wm n
 | 0, _, _ => rfl
 | n + 1, h, h2 => by
  have ih := hdF_congr (n := n) (fun k hk => h k (by omega)) h2
  simp only [hdF, h n (Nat.lt_succ_self n), h2 n, ih]
theorem why_same {p : Pl} {f : Fm} (h : frameB p f = true) {x : Nat} (hx : x < p.ny) : ((codO (whyO p f.O f.P (stS p f) x) : Nat) : Int) = whyF p f x := by
 have hh : heldS (stS p f x) = decide ((f.Y x).st ≠ 0) := held_st (frame_st h hx).2
 have h1 : selN (fun k => agS p (stS p f) x k) p.ny = selN (fun k => agB p f x k) p.ny := (sel_congr fun k hk => ag_same h x hk).1
 have h2 : p.sec.toNat = f.no := by have := (frame_in h).2.2.2.1; omega
 rw [whyO, whyF, hh, h1, h2]
 by_cases c : (f.Y x).st = 0
 ·
  rw [if_neg (show ¬ (decide ((f.Y x).st ≠ 0) = true) by simp [c]), if_neg (show ¬ ((f.Y x).st ≠ 0) by simp [c]), cdE]
  by_cases c1 : 0 < selN (fun k => agB p f x k) p.ny
  ·
   obtain ⟨m, hm⟩ : ∃ m, selN (fun k => agB p f x k) p.ny = m + 1 := ⟨selN (fun k => agB p f x k) p.ny - 1, by omega⟩
   have h3 : ∀ k, cd2 (cd1 (m + 1)) k = 3 := fun k => by cases k <;> rfl
   rw [if_pos c1, hm, h3, if_neg (by decide)]
   rfl
  ·
   have hm : selN (fun k => agB p f x k) p.ny = 0 := by omega
   rw [if_neg c1, hm]
   by_cases c2 : 0 < selN (scQ p f.O x) f.no
   ·
    obtain ⟨m, hm⟩ : ∃ m, selN (scQ p f.O x) f.no = m + 1 := ⟨selN (scQ p f.O x) f.no - 1, by omega⟩
    have h3 : cd2 (cd1 0) (m + 1) = 4 := rfl
    rw [if_pos c2, hm, h3, if_neg (by decide)]
    rfl
   ·
    have hm : selN (scQ p f.O x) f.no = 0 := by omega
    have h3 : cd2 (cd1 0) 0 = 0 := rfl
    rw [if_neg c2, hm, h3, if_pos rfl, fxO_code]
    exact hdF_congr (fun k _ => sw_same h hx k) fun k => wn_same h k
 ·
  rw [if_pos (show decide ((f.Y x).st ≠ 0) = true by simp [c]), if_pos (show (f.Y x).st ≠ 0 from c)]
  rfl
set_option maxRecDepth 100000 in
set_option maxHeartbeats 4000000 in
theorem why59 (p : Pl) (f : Fm) (wa ya ba : Option Addr) (wc yc bc : Nat) (ob oo pb po : Nat) (ha : Option Addr) (oc pc hc : Nat) (x : Nat) (w : World) (hx : x < p.ny) (hs : p.small) (hfs : f.small) (hf0 : frameB p f = true) (h : PlIn 0 w p wa ya ba) (hf : FmIn 0 w f (some ⟨ob, oo, none⟩) (some ⟨pb, po, none⟩) ha) :
  Calls Tryz.prog 59 #[.agg #[.int .i64 p.sec, .slice wa p.nw wc, .slice ya p.ny yc, .slice ba p.nb bc, .int .i64 p.hold], .agg #[.bool f.ok, .slice (some ⟨ob, oo, none⟩) f.no oc, .slice (some ⟨pb, po, none⟩) f.np pc, .slice ha f.nh hc], .int .i64 (x : Int)] w fun e w' => e = .returned (.int .i64 (whyF p f x)) ∧ Below w.heap.size w w' := by
 have H : Hid (PlIn 0 w p wa ya ba ∧ FmIn 0 w f (some ⟨ob, oo, none⟩) (some ⟨pb, po, none⟩) ha ∧ p.small ∧ f.small ∧ frameB p f = true) := ⟨h, hf, hs, hfs, hf0⟩
 have S0 : Hid (Below w.heap.size w ((w.alloc (.cells #[.int .i64 p.sec, .slice wa p.nw wc, .slice ya p.ny yc, .slice ba p.nb bc, .int .i64 p.hold] 37)).alloc (.cells #[.bool f.ok, .slice (some ⟨ob, oo, none⟩) f.no oc, .slice (some ⟨pb, po, none⟩) f.np pc, .slice ha f.nh hc] 42)) ∧ Box ((w.alloc (.cells #[.int .i64 p.sec, .slice wa p.nw wc, .slice ya p.ny yc, .slice ba p.nb bc, .int .i64 p.hold] 37)).alloc (.cells #[.bool f.ok, .slice (some ⟨ob, oo, none⟩) f.no oc, .slice (some ⟨pb, po, none⟩) f.np pc, .slice ha f.nh hc] 42)) w.heap.size 37 #[.int .i64 p.sec, .slice wa p.nw wc, .slice ya p.ny yc, .slice ba p.nb bc, .int .i64 p.hold] ∧ Box ((w.alloc (.cells #[.int .i64 p.sec, .slice wa p.nw wc, .slice ya p.ny yc, .slice ba p.nb bc, .int .i64 p.hold] 37)).alloc (.cells #[.bool f.ok, .slice (some ⟨ob, oo, none⟩) f.no oc, .slice (some ⟨pb, po, none⟩) f.np pc, .slice ha f.nh hc] 42)) (w.heap.size + 1) 42 #[.bool f.ok, .slice (some ⟨ob, oo, none⟩) f.no oc, .slice (some ⟨pb, po, none⟩) f.np pc, .slice ha f.nh hc]) := ⟨bel2 _ _ _, (Box.new _ _ _).alloc _, by have := Box.new (w.alloc (.cells #[.int .i64 p.sec, .slice wa p.nw wc, .slice ya p.ny yc, .slice ba p.nb bc, .int .i64 p.hold] 37)) 42 #[.bool f.ok, .slice (some ⟨ob, oo, none⟩) f.no oc, .slice (some ⟨pb, po, none⟩) f.np pc, .slice ha f.nh hc]; simpa using this⟩
 have hnh : f.nh = p.ny := (frame_in hf0).2.1
 have hnhs : f.nh ≤ 1048576 := hfs.2.2.1
 obtain ⟨fb, fo, rfl, _, hfl, hcf⟩ := hf.h (by omega)
 obtain ⟨_, _, y0, _⟩ := hcf x (by omega)
 have HY : Hid (fb < w.heap.size ∧ w.cell? ⟨fb, fo + x * 5, none⟩ = some (.int .i64 (f.Y x).st)) := ⟨hfl, y0⟩
 have hxn : (x : Int) < (f.nh : Int) := by omega
 have hx0 : (0 : Int) ≤ (x : Int) := by omega
 have HNH : Hid (f.nh = p.ny) := hnh
 clear h hf hs hfs hf0 hcf y0 hfl hnh
 obtain ⟨R, HR⟩ : ∃ R, Hid (whyF p f x = R) := ⟨_, rfl⟩
 rw [HR.out]
 go_enter Tryz.func59, Tryz.ntmps59
 go_upto_region 1 with fail
 generalize ((w.alloc (.cells #[.int .i64 p.sec, .slice wa p.nw wc, .slice ya p.ny yc, .slice ba p.nb bc, .int .i64 p.hold] 37)).alloc (.cells #[.bool f.ok, .slice (some ⟨ob, oo, none⟩) f.no oc, .slice (some ⟨pb, po, none⟩) f.np pc, .slice (some ⟨fb, fo, none⟩) f.nh hc] 42)) = V0 at S0 ⊢
 have z0 : V0.cell? ⟨fb, fo + x * 5, none⟩ = some (.int .i64 (f.Y x).st) := cell_keep S0.out.1 HY.out.1 HY.out.2
 have z1 := S0.out.2.2.cel 3
 by_cases c : (f.Y x).st = 0
 ·
  have HT : Hid (R = cdE p f x) := HR.out.symm.trans (by rw [whyF, if_neg (by simp [c])])
  rw [c] at z0
  clear c
  have a0 := S0.out.2.1.cel 0
  have a1 := S0.out.2.1.cel 1
  have a2 := S0.out.2.1.cel 2
  have a3 := S0.out.2.1.cel 3
  have a4 := S0.out.2.1.cel 4
  have b0 := S0.out.2.2.cel 0
  have b1 := S0.out.2.2.cel 1
  have b2 := S0.out.2.2.cel 2
  have b3 := S0.out.2.2.cel 3
  go_wp2_with fail
  clear a0 a1 a2 a3 a4 b0 b1 b2 b3 z0 z1
  have HF := frame_in H.out.2.2.2.2
  refine (stays62 p f wa ya ba wc yc bc ob oo pb po (some ⟨fb, fo, none⟩) oc pc hc x V0 hx H.out.2.2.1 H.out.2.2.2.1 HF.1 HF.2.1 HF.2.2.1 HF.2.2.2.1 (HF.2.2.2.2 x hx) (frame_sw H.out.2.2.2.2) (H.out.1.mono nr S0.out.1 nr) (H.out.2.1.mono nr S0.out.1 nr)).mono ?_
  clear HF
  rintro e w1 ⟨a1, c1, a2, c2, a3, c3, rfl, _, _, _, hb⟩
  have HE : Hid (Below w.heap.size w w1) := S0.out.1.trans (hb.mono S0.out.1.size)
  clear hb
  rw [← HT.out]
  go_wp2_with fail
  go_ret
  exact ⟨rfl, HE.out.alloc HE.out.size _⟩
 ·
  have HT : Hid (R = 2) := HR.out.symm.trans (by rw [whyF, if_pos c])
  go_wp2_with fail
  go_ret
  exact ⟨by rw [HT.out]; rfl, S0.out.1⟩
set_option maxRecDepth 100000 in
set_option maxHeartbeats 4000000 in
theorem why22 (p : Pl) (f : Fm) (wa ya ba : Option Addr) (wc yc bc : Nat) (ob oo pb po : Nat) (ha : Option Addr) (oc pc hc : Nat) (x : Int) (w : World) (hs : p.small) (hfs : f.small) (h : PlIn 0 w p wa ya ba) (hf : FmIn 0 w f (some ⟨ob, oo, none⟩) (some ⟨pb, po, none⟩) ha) :
  Calls Tryz.prog 22 #[.agg #[.int .i64 p.sec, .slice wa p.nw wc, .slice ya p.ny yc, .slice ba p.nb bc, .int .i64 p.hold], .agg #[.bool f.ok, .slice (some ⟨ob, oo, none⟩) f.no oc, .slice (some ⟨pb, po, none⟩) f.np pc, .slice ha f.nh hc], .int .i64 x] w fun e w' => e = .returned (.int .i64 (whyA p f x)) ∧ Below w.heap.size w w' := by
 have H : Hid (PlIn 0 w p wa ya ba ∧ FmIn 0 w f (some ⟨ob, oo, none⟩) (some ⟨pb, po, none⟩) ha ∧ p.small ∧ f.small) := ⟨h, hf, hs, hfs⟩
 have S0 : Hid (Below w.heap.size w ((w.alloc (.cells #[.int .i64 p.sec, .slice wa p.nw wc, .slice ya p.ny yc, .slice ba p.nb bc, .int .i64 p.hold] 37)).alloc (.cells #[.bool f.ok, .slice (some ⟨ob, oo, none⟩) f.no oc, .slice (some ⟨pb, po, none⟩) f.np pc, .slice ha f.nh hc] 42)) ∧ Box ((w.alloc (.cells #[.int .i64 p.sec, .slice wa p.nw wc, .slice ya p.ny yc, .slice ba p.nb bc, .int .i64 p.hold] 37)).alloc (.cells #[.bool f.ok, .slice (some ⟨ob, oo, none⟩) f.no oc, .slice (some ⟨pb, po, none⟩) f.np pc, .slice ha f.nh hc] 42)) w.heap.size 37 #[.int .i64 p.sec, .slice wa p.nw wc, .slice ya p.ny yc, .slice ba p.nb bc, .int .i64 p.hold] ∧ Box ((w.alloc (.cells #[.int .i64 p.sec, .slice wa p.nw wc, .slice ya p.ny yc, .slice ba p.nb bc, .int .i64 p.hold] 37)).alloc (.cells #[.bool f.ok, .slice (some ⟨ob, oo, none⟩) f.no oc, .slice (some ⟨pb, po, none⟩) f.np pc, .slice ha f.nh hc] 42)) (w.heap.size + 1) 42 #[.bool f.ok, .slice (some ⟨ob, oo, none⟩) f.no oc, .slice (some ⟨pb, po, none⟩) f.np pc, .slice ha f.nh hc]) := ⟨bel2 _ _ _, (Box.new _ _ _).alloc _, by have := Box.new (w.alloc (.cells #[.int .i64 p.sec, .slice wa p.nw wc, .slice ya p.ny yc, .slice ba p.nb bc, .int .i64 p.hold] 37)) 42 #[.bool f.ok, .slice (some ⟨ob, oo, none⟩) f.no oc, .slice (some ⟨pb, po, none⟩) f.np pc, .slice ha f.nh hc]; simpa using this⟩
 have hny : p.ny ≤ 1048576 := hs.2.1
 clear h hf hs hfs
 obtain ⟨R, HR⟩ : ∃ R, Hid (whyA p f x = R) := ⟨_, rfl⟩
 rw [HR.out]
 go_enter Tryz.func22, Tryz.ntmps22
 go_wp2_with fail
 generalize ((w.alloc (.cells #[.int .i64 p.sec, .slice wa p.nw wc, .slice ya p.ny yc, .slice ba p.nb bc, .int .i64 p.hold] 37)).alloc (.cells #[.bool f.ok, .slice (some ⟨ob, oo, none⟩) f.no oc, .slice (some ⟨pb, po, none⟩) f.np pc, .slice ha f.nh hc] 42)) = V0 at S0 ⊢
 refine (frame8 p f wa ya ba wc yc bc ob oo pb po ha oc pc hc V0 H.out.2.2.1 H.out.2.2.2 (H.out.1.mono nr S0.out.1 nr) (H.out.2.1.mono nr S0.out.1 nr)).mono ?_
 rintro e w1 ⟨he, hb1⟩
 have S1 : Hid (Below w.heap.size w w1 ∧ Box w1 w.heap.size 37 #[.int .i64 p.sec, .slice wa p.nw wc, .slice ya p.ny yc, .slice ba p.nb bc, .int .i64 p.hold] ∧ Box w1 (w.heap.size + 1) 42 #[.bool f.ok, .slice (some ⟨ob, oo, none⟩) f.no oc, .slice (some ⟨pb, po, none⟩) f.np pc, .slice ha f.nh hc]) := ⟨S0.out.1.trans (hb1.mono S0.out.1.size), S0.out.2.1.mono hb1 nr, S0.out.2.2.mono hb1 nr⟩
 clear hb1 S0
 obtain ⟨g, HG⟩ : ∃ g, Hid (frameB p f = g) := ⟨_, rfl⟩
 rw [HG.out] at he
 subst he
 cases g with
 | false =>
  have HT : Hid (R = 1) := HR.out.symm.trans (by rw [whyA, blG, HG.out]; rfl)
  go_wp2_with fail
  go_ret
  exact ⟨by rw [HT.out]; rfl, S1.out.1⟩
 | true =>
  have a2 := S1.out.2.1.cel 2
  go_wp2_with fail
  clear a2
  refine (in24 x 0 ((p.ny : Int) - 1) _).mono ?_
  rintro e w2 ⟨he, hw⟩
  have hw := hw.symm
  subst hw
  obtain ⟨q, HQ⟩ : ∃ q, Hid (inB x 0 ((p.ny : Int) - 1) = q) := ⟨_, rfl⟩
  rw [HQ.out] at he
  subst he
  cases q with
  | false =>
   have HT : Hid (R = 1) := HR.out.symm.trans (by rw [whyA, blG, HG.out, HQ.out]; rfl)
   go_wp2_with fail
   go_ret
   exact ⟨by rw [HT.out]; rfl, S1.out.1⟩
  | true =>
   obtain ⟨i, rfl, hlt⟩ := inB_nat HQ.out
   have HT : Hid (R = whyF p f i) := HR.out.symm.trans (by rw [whyA, blG, HG.out, HQ.out]; rfl)
   have a0 := S1.out.2.1.cel 0
   have a1 := S1.out.2.1.cel 1
   have a2 := S1.out.2.1.cel 2
   have a3 := S1.out.2.1.cel 3
   have a4 := S1.out.2.1.cel 4
   have b0 := S1.out.2.2.cel 0
   have b1 := S1.out.2.2.cel 1
   have b2 := S1.out.2.2.cel 2
   have b3 := S1.out.2.2.cel 3
   go_wp2_with fail
   clear a0 a1 a2 a3 a4 b0 b1 b2 b3
   refine (why59 p f wa ya ba wc yc bc ob oo pb po ha oc pc hc i w1 hlt H.out.2.2.1 H.out.2.2.2 HG.out (H.out.1.mono nr S1.out.1 nr) (H.out.2.1.mono nr S1.out.1 nr)).mono ?_
   rw [← HT.out]
   rintro e w3 ⟨rfl, hb3⟩
   have HE : Hid (Below w.heap.size w w3) := S1.out.1.trans (hb3.mono S1.out.1.size)
   clear hb3
   go_wp2_with fail
   go_ret
   exact ⟨rfl, HE.out⟩
end Go.Proofs.YtlgapgajgpilgaaGreatDoor
namespace Go.Proofs.YtlgapgajgpilgaaGreatDoor
open Go.RowKit Go.Lib
theorem code_ask {A : Nat → Addr} (o : Option Nat) (w : World) (hS : Sn w 6 A) (ho : ∀ g, o = some g → g < 6) :
  Calls Tryz.prog 61 #[erV A o, .int .i64 1] w fun e w' => e = .returned (.int .i64 ((codO o : Nat) : Int)) ∧ Below w.heap.size w w' :=
 codeOf61 6 _ o (codO o) 1 w hS nr (fun i hi => by
  match i, hi with
  | 0, _ => decide
  | 1, _ => decide
  | 2, _ => decide
  | 3, _ => decide
  | 4, _ => decide
  | 5, _ => decide) ho (codO_is o ho) (ers_ask w hS nr)
set_option maxRecDepth 100000 in
set_option maxHeartbeats 8000000 in
theorem why23 (p : Pl) (f : Fm) (wb yb bb : Nat) (lo rr : Nat → Nat) (ob pb hb : Nat) (r : Nat → Nat) (A : Nat → Addr) (x : Int) (w : World) (hs : p.small) (hfs : f.small) (hP : PlOwn 0 w p wb yb bb lo rr) (hF : FmOwn 0 w f (.slice (some ⟨ob, 0, none⟩) f.no f.no) (.slice (some ⟨pb, 0, none⟩) f.np f.np) (.slice (some ⟨hb, 0, none⟩) f.nh f.nh) r) (hS : Sn w 6 A) :
  Calls Tryz.prog 23 #[.agg #[.int .i64 p.sec, .slice (some ⟨wb, 0, none⟩) p.nw p.nw, .slice (some ⟨yb, 0, none⟩) p.ny p.ny, .slice (some ⟨bb, 0, none⟩) p.nb p.nb, .int .i64 p.hold], .agg #[.bool f.ok, .slice (some ⟨ob, 0, none⟩) f.no f.no, .slice (some ⟨pb, 0, none⟩) f.np f.np, .slice (some ⟨hb, 0, none⟩) f.nh f.nh], .int .i64 x] w fun e w' => e = .returned (.int .i64 (whyA p f x)) ∧ Below w.heap.size w w' := by
 have H : Hid (PlOwn 0 w p wb yb bb lo rr ∧ FmOwn 0 w f (.slice (some ⟨ob, 0, none⟩) f.no f.no) (.slice (some ⟨pb, 0, none⟩) f.np f.np) (.slice (some ⟨hb, 0, none⟩) f.nh f.nh) r ∧ p.small ∧ f.small ∧ Sn w 6 A) := ⟨hP, hF, hs, hfs, hS⟩
 have S0 : Hid (Below w.heap.size w ((w.alloc (.cells #[.int .i64 p.sec, .slice (some ⟨wb, 0, none⟩) p.nw p.nw, .slice (some ⟨yb, 0, none⟩) p.ny p.ny, .slice (some ⟨bb, 0, none⟩) p.nb p.nb, .int .i64 p.hold] 37)).alloc (.cells #[.bool f.ok, .slice (some ⟨ob, 0, none⟩) f.no f.no, .slice (some ⟨pb, 0, none⟩) f.np f.np, .slice (some ⟨hb, 0, none⟩) f.nh f.nh] 42))) := bel2 _ _ _
 clear hP hF hs hfs hS
 obtain ⟨R, HR⟩ : ∃ R, Hid (whyA p f x = R) := ⟨_, rfl⟩
 rw [HR.out]
 go_enter Tryz.func23, Tryz.ntmps23
 go_wp2_with fail
 generalize ((w.alloc (.cells #[.int .i64 p.sec, .slice (some ⟨wb, 0, none⟩) p.nw p.nw, .slice (some ⟨yb, 0, none⟩) p.ny p.ny, .slice (some ⟨bb, 0, none⟩) p.nb p.nb, .int .i64 p.hold] 37)).alloc (.cells #[.bool f.ok, .slice (some ⟨ob, 0, none⟩) f.no f.no, .slice (some ⟨pb, 0, none⟩) f.np f.np, .slice (some ⟨hb, 0, none⟩) f.nh f.nh] 42)) = V0 at S0 ⊢
 have HS0 := H.out.2.2.2.2.mono S0.out nr
 refine (desk42 p f wb yb bb lo rr ob pb hb r 228 (.pointer (some (A 0))) V0 H.out.2.2.1 H.out.2.2.2.1 (H.out.1.mono nr S0.out nr) (H.out.2.1.mono nr S0.out nr) (HS0.1 0 (by omega)) (by have := HS0.2.2.2; omega)).mono ?_
 clear HS0
 rintro e w1 ⟨hb1, hc⟩
 have HB : Hid (Below w.heap.size w w1) := S0.out.trans (hb1.mono S0.out.size)
 clear hb1 S0
 rcases hc with ⟨hf, rfl⟩ | ⟨hf, ia, ic, v, rfl, hwl⟩
 ·
  have HT : Hid (R = 1) := HR.out.symm.trans (by rw [whyA, blG, hf]; rfl)
  clear hf
  have HB2 : Hid (Below w.heap.size w (w1.alloc (.cells #[.int .i64 0, .slice none 0 0, .slice none 0 0, .slice none 0 0, .int .i64 0, .slice none 0 0, .slice none 0 0, .slice none 0 0] 73))) := HB.out.alloc HB.out.size _
  go_wp2_with fail
  generalize w1.alloc (.cells #[.int .i64 0, .slice none 0 0, .slice none 0 0, .slice none 0 0, .int .i64 0, .slice none 0 0, .slice none 0 0, .slice none 0 0] 73) = V1 at HB2 ⊢
  refine (code_ask (A := A) (some 0) V1 (H.out.2.2.2.2.mono HB2.out nr) (fun g e => by cases e; decide)).mono ?_
  rintro e w2 ⟨rfl, hb2⟩
  have HE : Hid (Below w.heap.size w w2) := HB2.out.trans (hb2.mono HB2.out.size)
  clear hb2
  go_wp2_with fail
  go_ret
  exact ⟨by rw [HT.out]; rfl, HE.out⟩
 ·
  have HX : Hid (frameB p f = true) := hf
  clear hf
  have HW0 := hwl.at
  clear hwl
  rw [(frame_in HX.out).2.1] at HW0 ⊢
  have T : Hid ((Below w.heap.size w (w1.alloc (.cells #[.int .i64 p.sec, .slice (some ⟨wb, 0, none⟩) p.nw p.nw, .slice (some ⟨yb, 0, none⟩) p.ny p.ny, .slice (some ⟨bb, 0, none⟩) p.nb p.nb, .int .i64 p.hold, .slice (some ⟨ob, 0, none⟩) f.no f.no, .slice (some ⟨pb, 0, none⟩) f.np f.np, .slice ia p.ny ic] 73)) ∧ Box (w1.alloc (.cells #[.int .i64 p.sec, .slice (some ⟨wb, 0, none⟩) p.nw p.nw, .slice (some ⟨yb, 0, none⟩) p.ny p.ny, .slice (some ⟨bb, 0, none⟩) p.nb p.nb, .int .i64 p.hold, .slice (some ⟨ob, 0, none⟩) f.no f.no, .slice (some ⟨pb, 0, none⟩) f.np f.np, .slice ia p.ny ic] 73)) w1.heap.size 73 #[.int .i64 p.sec, .slice (some ⟨wb, 0, none⟩) p.nw p.nw, .slice (some ⟨yb, 0, none⟩) p.ny p.ny, .slice (some ⟨bb, 0, none⟩) p.nb p.nb, .int .i64 p.hold, .slice (some ⟨ob, 0, none⟩) f.no f.no, .slice (some ⟨pb, 0, none⟩) f.np f.np, .slice ia p.ny ic]) ∧ WlAt (w1.alloc (.cells #[.int .i64 p.sec, .slice (some ⟨wb, 0, none⟩) p.nw p.nw, .slice (some ⟨yb, 0, none⟩) p.ny p.ny, .slice (some ⟨bb, 0, none⟩) p.nb p.nb, .int .i64 p.hold, .slice (some ⟨ob, 0, none⟩) f.no f.no, .slice (some ⟨pb, 0, none⟩) f.np f.np, .slice ia p.ny ic] 73)) ia p.ny (fun i => (p.Y i).ns) (stS p f)) := ⟨⟨HB.out.alloc HB.out.size _, Box.new _ _ _⟩, HW0.mono (bel1 _ _) nr⟩
  clear HW0
  go_wp2_with fail
  generalize (w1.alloc (.cells #[.int .i64 p.sec, .slice (some ⟨wb, 0, none⟩) p.nw p.nw, .slice (some ⟨yb, 0, none⟩) p.ny p.ny, .slice (some ⟨bb, 0, none⟩) p.nb p.nb, .int .i64 p.hold, .slice (some ⟨ob, 0, none⟩) f.no f.no, .slice (some ⟨pb, 0, none⟩) f.np f.np, .slice ia p.ny ic] 73)) = V1 at T ⊢
  generalize w1.heap.size = dq at T ⊢
  have HF := frame_in HX.out
  have hFV := H.out.2.1.mono nr T.out.1.1 nr
  have HSV : Hid (Sn V1 6 A) := H.out.2.2.2.2.mono T.out.1.1 nr
  refine (whyNot60 p wb yb bb lo rr ob 0 f.no f.no pb 0 f.np f.np ia ic f.O f.P (stS p f) (fun i => (p.Y i).ns) x A V1 H.out.2.2.1 HF.1 (H.out.1.mono nr T.out.1.1 nr) T.out.2 (hFV.in (Nat.zero_le _)).o (hFV.in (Nat.zero_le _)).p HF.2.2.2.2 H.out.2.2.2.1.1 H.out.2.2.2.1.2.1 HF.2.2.1 HF.2.2.2.1 (frame_sw HX.out) HSV.out).mono ?_
  clear HF hFV
  rintro e w2 ⟨he, hb2⟩
  have HB2 : Hid (Below w.heap.size w w2) := T.out.1.1.trans (hb2.mono T.out.1.1.size)
  have HS2 : Hid (Sn w2 6 A) := HSV.out.mono hb2 nr
  clear hb2
  obtain ⟨o, HO⟩ : ∃ o, Hid ((if inB x 0 ((p.ny : Int) - 1) = true then whyO p f.O f.P (stS p f) x.toNat else some 0) = o) := ⟨_, rfl⟩
  rw [HO.out] at he
  have HL : Hid (∀ g, o = some g → g < 6) := fun g hg => by
   have h1 := HO.out.trans hg
   split at h1
   ·
    exact whyO_lt h1
   ·
    cases h1; decide
  have HT : Hid (R = ((codO o : Nat) : Int)) := by
   refine HR.out.symm.trans ?_
   rw [← HO.out, whyA, blG, HX.out, Bool.true_and]
   cases c : inB x 0 ((p.ny : Int) - 1) with
   | false => rfl
   | true =>
    obtain ⟨i, hi, hlt⟩ := inB_nat c
    subst hi
    rw [if_pos rfl, if_pos rfl, Int.toNat_natCast]
    exact (why_same HX.out hlt).symm
  obtain ⟨u, HU⟩ : ∃ u, Hid (erV A o = u) := ⟨_, rfl⟩
  rw [HU.out] at he
  subst he
  go_wp2_with fail
  rw [← HU.out]
  refine (code_ask (A := A) o w2 HS2.out HL.out).mono ?_
  rw [HU.out, ← HT.out]
  rintro e w3 ⟨rfl, hb3⟩
  have HE : Hid (Below w.heap.size w w3) := HB2.out.trans (hb3.mono HB2.out.size)
  clear hb3
  go_wp2_with fail
  go_ret
  exact ⟨rfl, HE.out⟩
end Go.Proofs.YtlgapgajgpilgaaGreatDoor
