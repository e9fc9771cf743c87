import Derived.Test.YtlgapgajgpilgaaGreatDoorGMoSm
import Derived.Test.YtlgapgajgpilgaaGreatDoorFq
import Derived.Test.YtlgapgajgpilgaaGreatDoorGK16Ma
import Derived.Test.YtlgapgajgpilgaaGreatDoorH15
import Derived.Test.YtlgapgajgpilgaaGreatDoorGH14H1
import Derived.Test.YtlgapgajgpilgaaGreatDoorTp
import Derived.Test.YtlgapgajgpilgaaGreatDoorGMdSz
import Derived.Test.YtlgapgajgpilgaaGreatDoorK17
namespace Go.Proofs.YtlgapgajgpilgaaGreatDoor
open Go.RowKit

/-- the first place at which a number stands in a list -/
def idxF (S : Nat → Int) (n : Nat) (x : Int) : Option Nat := firstB (fun j => decide (S j = x)) n
/-- as the program answers it -/
def placeZ : Option Nat → Int
  | some j => (j : Int)
  | none => -1
/-- whether a way in a state keeps its section at a place -/
def keepN : WS → Nat → Bool
  | .idle, _ => false
  | .used g _ _, j => decide (g ≤ j)
  | _, _ => true
/-- a way holds a section yet -/
def holdsB (p : Pl) (f : Fm) (i : Nat) (x : Int) : Bool := decide ((f.Y i).st ≠ 0) && anyB (fun j => decide ((p.Y i).S j = x) && decide ((f.Y i).gone ≤ (j : Int))) (p.Y i).ns

end Go.Proofs.YtlgapgajgpilgaaGreatDoor

namespace Go.Proofs.YtlgapgajgpilgaaGreatDoor
open Go.RowKit

/-- the way by which a section is locked -/
def lockF (p : Pl) (f : Fm) (x : Int) : Int := if frameB p f then placeZ (firstB (fun i => holdsB p f i x) p.ny) else -1
/-- what the program asks -/
def keepsB (p : Pl) (S : Nat → WS) (i : Nat) (x : Int) : Bool := match idxF (p.Y i).S (p.Y i).ns x with
  | some j => keepN (S i) j
  | none => false
theorem frame_in {p : Pl} {f : Fm} (h : frameB p f = true) : p.Ok ∧ f.nh = p.ny ∧ f.np = p.nw ∧ (f.no : Int) = p.sec ∧ ∀ k, k < p.ny → (p.Y k).In f.no f.np := by
  have hz : sizesB p f = true := by
    simp only [frameB, Bool.and_eq_true] at h
    exact h.1
  obtain ⟨hok, _, _, h1, h2, h3⟩ := sizes_ok hz
  refine ⟨hok, h3, h2, h1, fun k hk => ?_⟩
  have h4 := (wayF_in (hok.way k hk)).2
  have e1 : p.sec.toNat = f.no := by omega
  rw [e1, ← h2] at h4
  exact h4
theorem frame_st {p : Pl} {f : Fm} (h : frameB p f = true) {i : Nat} (hi : i < p.ny) : heldB (f.Y i) (p.Y i).ns p.hold = true ∧ stateF (f.Y i) (p.Y i).ns p.hold = some (stS p f i) := by
  have h2 := h
  rw [← desk_frame] at h2
  obtain ⟨_, hnh, _⟩ := frame_in h
  simp only [frameB, Bool.and_eq_true] at h
  have h3 := allB_iff.1 h.2.2.1 i (by omega)
  simp only [wayB, Bool.and_eq_true] at h3
  simp only [deskB, Bool.and_eq_true] at h2
  have h4 := allB_iff.1 h2.2.2.1 i (by omega)
  obtain ⟨s, hst⟩ := Option.isSome_iff_exists.1 h4
  exact ⟨h3.1, by rw [hst, stS, hst]; rfl⟩
theorem held_gone {h : Hl} {n : Nat} {hold : Int} (hb : heldB h n hold = true) : 0 ≤ h.gone ∧ (h.st ≠ 4 → h.gone = 0) := by
  simp only [heldB, Bool.and_eq_true, Bool.or_eq_true, decide_eq_true_eq] at hb
  have h1 := hb.1.2.2
  simp only [inB, Bool.and_eq_true, decide_eq_true_eq] at h1
  refine ⟨h1.1, fun h4 => ?_⟩
  rcases hb.2.1 with h5 | h5
  · exact absurd h5 h4
  · exact h5.2
theorem keepN_st {p : Pl} {f : Fm} (h : frameB p f = true) {i : Nat} (hi : i < p.ny) (j : Nat) : keepN (stS p f i) j = (decide ((f.Y i).st ≠ 0) && decide ((f.Y i).gone ≤ (j : Int))) := by
  obtain ⟨hb, hst⟩ := frame_st h hi
  obtain ⟨hg0, hg⟩ := held_gone hb
  obtain ⟨_, hc⟩ := stateF_cases hst
  generalize stS p f i = s at hc ⊢
  rcases hc with ⟨e, rfl⟩ | ⟨e, rfl⟩ | ⟨e, rfl⟩ | ⟨e, rfl, _⟩ | ⟨e, rfl, _⟩
  · simp [keepN, e]
  · have := hg (by omega)
    simp [keepN, e, this]
  · have := hg (by omega)
    simp [keepN, e, this]
  · have := hg (by omega)
    simp [keepN, e, this]
  · simp only [keepN, e]
    have : ((f.Y i).gone.toNat ≤ j) = ((f.Y i).gone ≤ (j : Int)) := by
      apply propext
      omega
    simp [this]
theorem way_one {p : Pl} {y : Wy} (h : wayF p y = true) {i j : Nat} (hi : i < y.ns) (hj : j < y.ns) (e : y.S i = y.S j) : i = j := by
  have key : ∀ a b, a < y.ns → b < a → y.S b ≠ y.S a := fun a b ha hb => by
    simp only [wayF, Bool.and_eq_true, decide_eq_true_eq] at h
    have h1 := h.1.1.1.1.1.1.2
    simp only [listF, Bool.and_eq_true] at h1
    have h2 := allB_iff.1 h1.1 a ha
    simp only [elF, Bool.and_eq_true] at h2
    have h3 := allB_iff.1 h2.2 b hb
    simpa using h3
  rcases Nat.lt_trichotomy i j with c | c | c
  · exact absurd e (key j i hj c)
  · exact c
  · exact absurd e.symm (key i j hi c)
theorem firstB_spec {q : Nat → Bool} : ∀ {n k : Nat}, firstB q n = some k → k < n ∧ q k = true := by
  intro n k h
  by_cases hx : ∃ i, i < n ∧ q i = true
  · obtain ⟨i, hi, hq⟩ := hx
    have : ∃ i, (i < n ∧ q i = true) ∧ ∀ m, m < i → q m = false := by
      induction i using Nat.strongRecOn with
      | _ i ih =>
        by_cases c : ∃ m, m < i ∧ q m = true
        · obtain ⟨m, hm, hqm⟩ := c
          exact ih m hm (by omega) hqm
        · exact ⟨i, ⟨hi, hq⟩, fun m hm => by
            cases hqm : q m with
            | false => rfl
            | true => exact absurd ⟨m, hm, hqm⟩ c⟩
    obtain ⟨i, ⟨hi, hq⟩, hm⟩ := this
    have h2 := firstB_hit hm hi hq
    rw [h2] at h
    cases h
    exact ⟨hi, hq⟩
  · have h2 : firstB q n = none := firstB_none fun i hi => by
      cases hqi : q i with
      | false => rfl
      | true => exact absurd ⟨i, hi, hqi⟩ hx
    rw [h2] at h
    cases h
theorem keeps_holds {p : Pl} {f : Fm} (h : frameB p f = true) {i : Nat} (hi : i < p.ny) (x : Int) : keepsB p (stS p f) i x = holdsB p f i x := by
  have hw := (frame_in h).1.way i hi
  unfold keepsB holdsB
  cases hx : idxF (p.Y i).S (p.Y i).ns x with
  | none =>
    have hn : anyB (fun j => decide ((p.Y i).S j = x) && decide ((f.Y i).gone ≤ (j : Int))) (p.Y i).ns = false := anyB_no fun j hj => by
      rw [firstB_all hx j hj, Bool.false_and]
    rw [hn, Bool.and_false]
  | some j =>
    obtain ⟨hj, hq⟩ := firstB_spec hx
    show keepN (stS p f i) j = _
    rw [keepN_st h hi]
    congr 1
    cases hd : decide ((f.Y i).gone ≤ (j : Int)) with
    | true => exact (anyB_yes hj (by rw [hq, hd]; rfl)).symm
    | false =>
      refine (anyB_no fun m hm => ?_).symm
      cases hm2 : decide ((p.Y i).S m = x) with
      | false => rfl
      | true =>
        have e1 : (p.Y i).S m = x := by simpa using hm2
        have e2 : (p.Y i).S j = x := by simpa using hq
        rw [way_one hw hm hj (e1.trans e2.symm), hd]
        rfl
theorem holds_out {p : Pl} {f : Fm} (h : frameB p f = true) {x : Int} (hx : inB x 0 (p.sec - 1) = false) {i : Nat} (hi : i < p.ny) : holdsB p f i x = false := by
  obtain ⟨_, _, _, h1, hin⟩ := frame_in h
  have hn : anyB (fun j => decide ((p.Y i).S j = x) && decide ((f.Y i).gone ≤ (j : Int))) (p.Y i).ns = false := anyB_no fun j hj => by
    obtain ⟨o, ho, hlt⟩ := (hin i hi).s j hj
    have : (p.Y i).S j ≠ x := fun e => by
      rw [ho] at e
      rw [← e] at hx
      simp [inB] at hx
      omega
    simp [this]
  rw [holdsB, hn, Bool.and_false]
theorem lock_out {p : Pl} {f : Fm} {x : Int} (h : frameB p f = true) (hx : inB x 0 (p.sec - 1) = false) : lockF p f x = -1 := by
  rw [lockF, h, if_pos rfl, firstB_none fun i hi => holds_out h hx hi]
  rfl
theorem lock_hit {p : Pl} {f : Fm} {x : Int} {k : Nat} (h : frameB p f = true) (hm : ∀ m, m < k → holdsB p f m x = false) (hk : k < p.ny) (hq : holdsB p f k x = true) : lockF p f x = (k : Int) := by
  rw [lockF, h, if_pos rfl, firstB_hit hm hk hq]
  rfl
theorem lock_none {p : Pl} {f : Fm} {x : Int} (h : frameB p f = true) (hm : ∀ m, m < p.ny → holdsB p f m x = false) : lockF p f x = -1 := by
  rw [lockF, h, if_pos rfl, firstB_none hm]
  rfl
theorem lock_bad {p : Pl} {f : Fm} {x : Int} (h : frameB p f = false) : lockF p f x = -1 := by
  rw [lockF, h]
  rfl

end Go.Proofs.YtlgapgajgpilgaaGreatDoor

namespace Go.Proofs.YtlgapgajgpilgaaGreatDoor
open Go.RowKit

set_option maxHeartbeats 1000000 in
theorem index83 (a : Option Addr) (n cap : Nat) (S : Nat → Int) (x : Int) (w : World) (hn : n ≤ 1048576) (h : VsAt 1 0 w a n (oneF S)) :
    Calls Tryz.prog 112 #[.slice a n cap, .int .i64 x] w fun e w' => e = .returned (.int .i64 (placeZ (idxF S n x))) ∧ w' = w := by
  have H : Hid (VsAt 1 0 w a n (oneF S)) := h
  clear h
  obtain ⟨R, HR⟩ : ∃ R, Hid (placeZ (idxF S n x) = R) := ⟨_, rfl⟩
  rw [HR.out]
  go_enter Tryz.func112, Tryz.ntmps112
  go_wp2_with fail
  go_loop [8] (fun i => ∃ k : Nat, k ≤ n ∧ i = .int .i64 k ∧ Hid (∀ j, j < k → decide (S j = x) = false)) (fun i => n - (intOf i).toNat)
  case atStart => exact ⟨0, Nat.zero_le _, rfl, fun i hi => absurd hi (Nat.not_lt_zero _)⟩
  case round =>
    obtain ⟨k, hk, rfl, HK⟩ := hrel
    by_cases hlt : k < n
    · obtain ⟨b, off, rfl, _, hb, hc⟩ := H.out (by omega)
      have c0 : w.cell? ⟨b, off + k, none⟩ = some (.int .i64 (S k)) := by have := hc k hlt 0 (by omega); rwa [Nat.mul_one] at this
      have hk0 : (0 : Int) ≤ (k : Int) := by omega
      have hkn : (k : Int) < (n : Int) := by omega
      clear hc
      by_cases hB : x = S k
      · have HF : Hid (R = (k : Int)) := by
          rw [Hid, ← HR.out, idxF, firstB_hit HK.out hlt (by simp [hB])]
          rfl
        have zz : (x == S k) = true := by simpa using hB
        clear hB
        go_wp2_with fail
        go_ret
        exact ⟨by rw [HF.out]; rfl, rfl⟩
      · have HK2 : Hid (∀ j, j < k + 1 → decide (S j = x) = false) := fun j hj => by
          by_cases c : j = k
          · subst c
            simpa using fun e => hB (Eq.symm e)
          · exact HK.out j (by omega)
        have zz : (x == S k) = false := by simpa using hB
        clear hB
        go_wp2_with fail
        go_round
        case rel => exact ⟨k + 1, by omega, by go_num, HK2⟩
        case measure => simp [intOf]; omega
    · obtain rfl : k = n := by omega
      have HF : Hid (R = -1) := by
        rw [Hid, ← HR.out, idxF, firstB_none HK.out]
        rfl
      go_wp2_with fail
      go_ret
      exact ⟨by rw [HF.out]; rfl, rfl⟩
set_option maxHeartbeats 400000 in
theorem keeps174 (x : Int) (w : World) :
    Calls Tryz.prog 175 #[.agg #[], .int .i64 x] w fun e w' => e = .returned (.bool (false)) ∧ Below w.heap.size w w' := by
  go_enter Tryz.func175, Tryz.ntmps175
  go_wp2
  all_goals go_ret
  all_goals first | exact ⟨rfl, Below.refl _ _⟩ | exact ⟨rfl, bel1 _ _⟩ | (exact ⟨by simp_all, bel1 _ _⟩) | (exact ⟨by simp_all, Below.refl _ _⟩)
set_option maxHeartbeats 400000 in
theorem keeps177 (sh : Bool) (x : Int) (w : World) :
    Calls Tryz.prog 178 #[.agg #[.bool sh], .int .i64 x] w fun e w' => e = .returned (.bool (true)) ∧ Below w.heap.size w w' := by
  go_enter Tryz.func178, Tryz.ntmps178
  go_wp2
  all_goals go_ret
  all_goals first | exact ⟨rfl, Below.refl _ _⟩ | exact ⟨rfl, bel1 _ _⟩ | (exact ⟨by simp_all, bel1 _ _⟩) | (exact ⟨by simp_all, Below.refl _ _⟩)
set_option maxHeartbeats 400000 in
theorem keeps185 (x : Int) (w : World) :
    Calls Tryz.prog 186 #[.agg #[], .int .i64 x] w fun e w' => e = .returned (.bool (true)) ∧ Below w.heap.size w w' := by
  go_enter Tryz.func186, Tryz.ntmps186
  go_wp2
  all_goals go_ret
  all_goals first | exact ⟨rfl, Below.refl _ _⟩ | exact ⟨rfl, bel1 _ _⟩ | (exact ⟨by simp_all, bel1 _ _⟩) | (exact ⟨by simp_all, Below.refl _ _⟩)
set_option maxHeartbeats 400000 in
theorem keeps188 (t : Int) (x : Int) (w : World) :
    Calls Tryz.prog 189 #[.agg #[.int .i64 t], .int .i64 x] w fun e w' => e = .returned (.bool (true)) ∧ Below w.heap.size w w' := by
  go_enter Tryz.func189, Tryz.ntmps189
  go_wp2
  all_goals go_ret
  all_goals first | exact ⟨rfl, Below.refl _ _⟩ | exact ⟨rfl, bel1 _ _⟩ | (exact ⟨by simp_all, bel1 _ _⟩) | (exact ⟨by simp_all, Below.refl _ _⟩)
set_option maxHeartbeats 400000 in
theorem keeps191 (g : Int) (a : Option Addr) (n c : Nat) (sh : Bool) (x : Int) (w : World) :
    Calls Tryz.prog 192 #[.agg #[.int .i64 g, .slice a n c, .bool sh], .int .i64 x] w fun e w' => e = .returned (.bool (decide (g ≤ x))) ∧ Below w.heap.size w w' := by
  go_enter Tryz.func192, Tryz.ntmps192
  go_wp2
  all_goals go_ret
  all_goals first | exact ⟨rfl, Below.refl _ _⟩ | exact ⟨rfl, bel1 _ _⟩ | (exact ⟨by simp_all, bel1 _ _⟩) | (exact ⟨by simp_all, Below.refl _ _⟩)

end Go.Proofs.YtlgapgajgpilgaaGreatDoor

namespace Go.Proofs.YtlgapgajgpilgaaGreatDoor
open Go.RowKit Go.Lib

set_option maxRecDepth 100000 in
set_option maxHeartbeats 4000000 in
theorem keeps45 (p : Pl) (wb yb bb : Nat) (lo rr : Nat → Nat) (oa : Option Addr) (no oc : Nat) (pa : Option Addr) (np pc : Nat) (ia : Option Addr) (ic : Nat) (S : Nat → WS) (N : Nat → Nat) (k : Nat) (x : Int) (w : World) (hk : k < p.ny) (hs : p.small) (hP : PlOwn 0 w p wb yb bb lo rr) (h : WlAt w ia p.ny N S) :
    Calls Tryz.prog 83 #[.agg #[.int .i64 p.sec, .slice (some ⟨wb, 0, none⟩) p.nw p.nw, .slice (some ⟨yb, 0, none⟩) p.ny p.ny, .slice (some ⟨bb, 0, none⟩) p.nb p.nb, .int .i64 p.hold, .slice oa no oc, .slice pa np pc, .slice ia p.ny ic], .int .i64 (k : Int), .int .i64 x] w fun e w' => e = .returned (.bool (keepsB p S k x)) ∧ Below w.heap.size w w' := by
  have hny := hs.2.1
  have hsm := hs.2.2.1 k hk
  obtain ⟨yb2, off2, hya, _, hyl, hcy⟩ := (hP.in (Nat.le_refl 0)).wy (by omega)
  cases hya
  obtain ⟨sa, sc, la, lc, fa, fc, oo, oc2, ma, mc, x0, _, _, _, _, hy⟩ := hcy k hk
  rw [Nat.zero_add] at x0
  obtain ⟨b, off, rfl, hb, hc⟩ := h (by omega)
  obtain ⟨v, c0, hv⟩ := hc k hk
  have HV : Hid (WsV w (N k) (S k) v) := hv
  have HY : Hid (VsAt 1 0 w sa (p.Y k).ns (oneF (p.Y k).S)) := hy.s
  have hns : (p.Y k).ns ≤ 1048576 := by have := hsm.1; omega
  clear hcy hy hP hc h hv hsm
  have hk0 : (0 : Int) ≤ (k : Int) := by omega
  have hkn : (k : Int) < (p.ny : Int) := by omega
  have SX : Hid (Below w.heap.size w (w.alloc (.cells #[.int .i64 p.sec, .slice (some ⟨wb, 0, none⟩) p.nw p.nw, .slice (some ⟨yb, 0, none⟩) p.ny p.ny, .slice (some ⟨bb, 0, none⟩) p.nb p.nb, .int .i64 p.hold, .slice oa no oc, .slice pa np pc, .slice (some ⟨b, off, none⟩) p.ny ic] 73)) ∧ Box (w.alloc (.cells #[.int .i64 p.sec, .slice (some ⟨wb, 0, none⟩) p.nw p.nw, .slice (some ⟨yb, 0, none⟩) p.ny p.ny, .slice (some ⟨bb, 0, none⟩) p.nb p.nb, .int .i64 p.hold, .slice oa no oc, .slice pa np pc, .slice (some ⟨b, off, none⟩) p.ny ic] 73)) w.heap.size 73 #[.int .i64 p.sec, .slice (some ⟨wb, 0, none⟩) p.nw p.nw, .slice (some ⟨yb, 0, none⟩) p.ny p.ny, .slice (some ⟨bb, 0, none⟩) p.nb p.nb, .int .i64 p.hold, .slice oa no oc, .slice pa np pc, .slice (some ⟨b, off, none⟩) p.ny ic]) := ⟨bel1 _ _, Box.new _ _ _⟩
  go_enter Tryz.func83, Tryz.ntmps83
  go_wp2_with fail
  generalize (w.alloc (.cells #[.int .i64 p.sec, .slice (some ⟨wb, 0, none⟩) p.nw p.nw, .slice (some ⟨yb, 0, none⟩) p.ny p.ny, .slice (some ⟨bb, 0, none⟩) p.nb p.nb, .int .i64 p.hold, .slice oa no oc, .slice pa np pc, .slice (some ⟨b, off, none⟩) p.ny ic] 73)) = W at SX ⊢
  refine (index83 sa (p.Y k).ns sc (p.Y k).S x W hns (HY.out.mono (Nat.le_refl _) SX.out.1 (Nat.le_refl _))).mono ?_
  rintro e w1 ⟨rfl, hw⟩
  have hw := hw.symm
  subst hw
  clear HY x0
  cases hid : idxF (p.Y k).S (p.Y k).ns x with
  | none =>
    have HID : Hid (idxF (p.Y k).S (p.Y k).ns x = none) := hid
    clear hid
    simp only [placeZ]
    go_wp2_with fail
    go_ret
    exact ⟨by rw [keepsB, HID.out]; rfl, SX.out.1⟩
  | some j =>
    have HID : Hid (idxF (p.Y k).S (p.Y k).ns x = some j) := hid
    clear hid
    simp only [placeZ]
    have hj0 : (0 : Int) ≤ (j : Int) := by omega
    cases HS : S k with
    | idle =>
      have HKN : Hid (keepsB p S k x = keepN (.idle) j) := by rw [Hid, keepsB, HID.out, HS]
      have hv : v = .iface 155 (.agg #[]) := by have := HV.out; rw [HS] at this; exact this
      subst hv
      clear HV HS
      have d7 : W.cell? ⟨w.heap.size, 7, none⟩ = some (.slice (some ⟨b, off, none⟩) p.ny ic) := SX.out.2.cell 7
      have e0 := (SX.out.1.cell (p := ⟨b, off + k, none⟩) (by show b < w.heap.size; omega)).trans c0
      go_wp2_with fail
      refine (keeps174 (j : Int) _).mono ?_
      rintro e w2 ⟨he, hb2⟩
      have he2 : e = .returned (.bool (keepsB p S k x)) := by rw [he, HKN.out]; simp [keepN]
      have HB2 : Hid (Below w.heap.size w w2) := SX.out.1.trans (hb2.mono SX.out.1.size)
      clear he hb2
      subst he2
      go_wp2_with fail
      go_ret
      exact ⟨rfl, HB2.out⟩
    | set sh =>
      have HKN : Hid (keepsB p S k x = keepN (.set sh) j) := by rw [Hid, keepsB, HID.out, HS]
      have hv : v = .iface 157 (.agg #[.bool sh]) := by have := HV.out; rw [HS] at this; exact this
      subst hv
      clear HV HS
      have d7 : W.cell? ⟨w.heap.size, 7, none⟩ = some (.slice (some ⟨b, off, none⟩) p.ny ic) := SX.out.2.cell 7
      have e0 := (SX.out.1.cell (p := ⟨b, off + k, none⟩) (by show b < w.heap.size; omega)).trans c0
      go_wp2_with fail
      refine (keeps177 sh (j : Int) _).mono ?_
      rintro e w2 ⟨he, hb2⟩
      have he2 : e = .returned (.bool (keepsB p S k x)) := by rw [he, HKN.out]; simp [keepN]
      have HB2 : Hid (Below w.heap.size w w2) := SX.out.1.trans (hb2.mono SX.out.1.size)
      clear he hb2
      subst he2
      go_wp2_with fail
      go_ret
      exact ⟨rfl, HB2.out⟩
    | clear =>
      have HKN : Hid (keepsB p S k x = keepN (.clear) j) := by rw [Hid, keepsB, HID.out, HS]
      have hv : v = .iface 158 (.agg #[]) := by have := HV.out; rw [HS] at this; exact this
      subst hv
      clear HV HS
      have d7 : W.cell? ⟨w.heap.size, 7, none⟩ = some (.slice (some ⟨b, off, none⟩) p.ny ic) := SX.out.2.cell 7
      have e0 := (SX.out.1.cell (p := ⟨b, off + k, none⟩) (by show b < w.heap.size; omega)).trans c0
      go_wp2_with fail
      refine (keeps185 (j : Int) _).mono ?_
      rintro e w2 ⟨he, hb2⟩
      have he2 : e = .returned (.bool (keepsB p S k x)) := by rw [he, HKN.out]; simp [keepN]
      have HB2 : Hid (Below w.heap.size w w2) := SX.out.1.trans (hb2.mono SX.out.1.size)
      clear he hb2
      subst he2
      go_wp2_with fail
      go_ret
      exact ⟨rfl, HB2.out⟩
    | taking t =>
      have HKN : Hid (keepsB p S k x = keepN (.taking t) j) := by rw [Hid, keepsB, HID.out, HS]
      have hv : v = .iface 160 (.agg #[.int .i64 t]) := by have := HV.out; rw [HS] at this; exact this
      subst hv
      clear HV HS
      have d7 : W.cell? ⟨w.heap.size, 7, none⟩ = some (.slice (some ⟨b, off, none⟩) p.ny ic) := SX.out.2.cell 7
      have e0 := (SX.out.1.cell (p := ⟨b, off + k, none⟩) (by show b < w.heap.size; omega)).trans c0
      go_wp2_with fail
      refine (keeps188 t (j : Int) _).mono ?_
      rintro e w2 ⟨he, hb2⟩
      have he2 : e = .returned (.bool (keepsB p S k x)) := by rw [he, HKN.out]; simp [keepN]
      have HB2 : Hid (Below w.heap.size w w2) := SX.out.1.trans (hb2.mono SX.out.1.size)
      clear he hb2
      subst he2
      go_wp2_with fail
      go_ret
      exact ⟨rfl, HB2.out⟩
    | used g B sh =>
      have HKN : Hid (keepsB p S k x = keepN (.used g B sh) j) := by rw [Hid, keepsB, HID.out, HS]
      obtain ⟨rb, rc, cur, hv, _, _⟩ : ∃ rb rc cur, v = .iface 163 (.agg #[.int .i64 (g : Int), .slice (some ⟨rb, 0, none⟩) (N k) rc, .bool sh]) ∧ Box w rb 4 cur ∧ VsAt 1 0 w (some ⟨rb, 0, none⟩) (N k) (boolF B) := by have := HV.out; rw [HS] at this; exact this
      subst hv
      clear HV HS
      have d7 : W.cell? ⟨w.heap.size, 7, none⟩ = some (.slice (some ⟨b, off, none⟩) p.ny ic) := SX.out.2.cell 7
      have e0 := (SX.out.1.cell (p := ⟨b, off + k, none⟩) (by show b < w.heap.size; omega)).trans c0
      go_wp2_with fail
      refine (keeps191 g (some ⟨rb, 0, none⟩) (N k) rc sh (j : Int) _).mono ?_
      rintro e w2 ⟨he, hb2⟩
      have he2 : e = .returned (.bool (keepsB p S k x)) := by rw [he, HKN.out]; simp [keepN]
      have HB2 : Hid (Below w.heap.size w w2) := SX.out.1.trans (hb2.mono SX.out.1.size)
      clear he hb2
      subst he2
      go_wp2_with fail
      go_ret
      exact ⟨rfl, HB2.out⟩

end Go.Proofs.YtlgapgajgpilgaaGreatDoor

namespace Go.Proofs.YtlgapgajgpilgaaGreatDoor
open Go.RowKit Go.Lib

set_option maxRecDepth 100000 in
set_option maxHeartbeats 4000000 in
theorem holds37 (p : Pl) (f : Fm) (wa ya ba oa pa ha : Option Addr) (wc yc bc oc pc hc : Nat) (i : Nat) (x : Int) (w : World) (hs : p.small) (hnh : f.nh ≤ 1048576) (hi : i < p.ny) (hif : i < f.nh) (h : PlIn 0 w p wa ya ba) (hh : HsAt 0 w ha f.nh f.Y) :
    Calls Tryz.prog 37 #[.agg #[.int .i64 p.sec, .slice wa p.nw wc, .slice ya p.ny yc, .slice ba p.nb bc, .int .i64 p.hold], .agg #[.bool f.ok, .slice oa f.no oc, .slice pa f.np pc, .slice ha f.nh hc], .int .i64 (i : Int), .int .i64 x] w fun e w' => e = .returned (.bool (holdsB p f i x)) ∧ Below w.heap.size w w' := by
  have hny := hs.2.1
  have hsm := hs.2.2.1 i hi
  obtain ⟨yb, yo, rfl, _, hyl, hcy⟩ := h.wy (by omega)
  obtain ⟨sa, sc, la, lc, fa, fc, oo, oc2, ma, mc, x0, _, _, _, _, hy⟩ := hcy i hi
  obtain ⟨fb, fo, rfl, _, hfl, hcf⟩ := hh (by omega)
  obtain ⟨ra, rc, y0, y1, _, _, _, _⟩ := hcf i hif
  have HY : Hid (VsAt 1 0 w sa (p.Y i).ns (oneF (p.Y i).S)) := hy.s
  have hns : (p.Y i).ns ≤ 1048576 := by have := hsm.1; omega
  clear hcy hy hcf hsm h hh
  have hi0 : (0 : Int) ≤ (i : Int) := by omega
  have hin : (i : Int) < (p.ny : Int) := by omega
  have hin2 : (i : Int) < (f.nh : Int) := by omega
  have SX : Hid (Below w.heap.size w ((w.alloc (.cells #[.int .i64 p.sec, .slice wa p.nw wc, .slice (some ⟨yb, yo, none⟩) p.ny yc, .slice ba p.nb bc, .int .i64 p.hold] 37)).alloc (.cells #[.bool f.ok, .slice oa f.no oc, .slice pa f.np pc, .slice (some ⟨fb, fo, none⟩) f.nh hc] 42))) := bel2 _ _ _
  obtain ⟨R, HR⟩ : ∃ R, Hid (holdsB p f i x = R) := ⟨_, rfl⟩
  rw [HR.out]
  by_cases h0 : (f.Y i).st = 0
  · have HF : Hid (R = false) := by rw [Hid, ← HR.out, holdsB]; simp [h0]
    have zz : ((f.Y i).st == 0) = true := by simpa using h0
    clear h0
    go_enter Tryz.func37, Tryz.ntmps37
    go_wp2_with fail
    go_ret
    exact ⟨by rw [HF.out]; rfl, SX.out⟩
  · have HF : Hid (∀ g, anyB (fun j => decide ((p.Y i).S j = x) && decide ((f.Y i).gone ≤ (j : Int))) (p.Y i).ns = g → R = g) := fun g hg => by rw [← HR.out, holdsB, hg]; simp [h0]
    have zz : ((f.Y i).st == 0) = false := by simpa using h0
    clear h0
    go_enter Tryz.func37, Tryz.ntmps37
    go_wp2_with fail
    clear zz y0 x0
    go_loop [25] (fun c => ∃ k : Nat, k ≤ (p.Y i).ns ∧ c = .int .i64 k ∧ Hid (∀ j, j < k → (decide ((p.Y i).S j = x) && decide ((f.Y i).gone ≤ (j : Int))) = false)) (fun c => (p.Y i).ns - (intOf c).toNat)
    case atStart => exact ⟨0, Nat.zero_le _, rfl, fun j hj => absurd hj (Nat.not_lt_zero _)⟩
    case round =>
      obtain ⟨k, hk, rfl, HK⟩ := hrel
      by_cases hlt : k < (p.Y i).ns
      · obtain ⟨sb, so, rfl, _, hsb, hcs⟩ := HY.out (by omega)
        have c0 : w.cell? ⟨sb, so + k, none⟩ = some (.int .i64 ((p.Y i).S k)) := by have := hcs k hlt 0 (by omega); rwa [Nat.mul_one] at this
        have hk0 : (0 : Int) ≤ (k : Int) := by omega
        have hkn : (k : Int) < ((p.Y i).ns : Int) := by omega
        clear hcs
        have HK2 : Hid ((decide ((p.Y i).S k = x) && decide ((f.Y i).gone ≤ (k : Int))) = false → ∀ j, j < k + 1 → (decide ((p.Y i).S j = x) && decide ((f.Y i).gone ≤ (j : Int))) = false) := fun e j hj => by
          by_cases c : j = k
          · subst c
            exact e
          · exact HK.out j (by omega)
        by_cases hB : (p.Y i).S k = x
        · have HBB : Hid ((p.Y i).S k = x) := hB
          have zz : ((p.Y i).S k == x) = true := by simpa using hB
          clear hB
          by_cases hG : (f.Y i).gone ≤ (k : Int)
          · have HT : Hid (R = true) := HF.out true (anyB_yes hlt (by rw [HBB.out]; simp [hG]))
            go_wp2_with fail
            go_ret
            exact ⟨by rw [HT.out]; rfl, SX.out⟩
          · have HN : Hid (∀ j, j < k + 1 → (decide ((p.Y i).S j = x) && decide ((f.Y i).gone ≤ (j : Int))) = false) := HK2.out (by simp [hG])
            go_wp2_with fail
            go_round
            case rel => exact ⟨k + 1, by omega, by go_num, HN⟩
            case measure => simp [intOf]; omega
        · have HN : Hid (∀ j, j < k + 1 → (decide ((p.Y i).S j = x) && decide ((f.Y i).gone ≤ (j : Int))) = false) := HK2.out (by simp [hB])
          have zz : ((p.Y i).S k == x) = false := by simpa using hB
          clear hB
          go_wp2_with fail
          go_round
          case rel => exact ⟨k + 1, by omega, by go_num, HN⟩
          case measure => simp [intOf]; omega
      · have HT : Hid (R = false) := HF.out false (anyB_no fun j hj => HK.out j (by omega))
        have hge : ¬ ((k : Int) < ((p.Y i).ns : Int)) := by omega
        go_wp2_with fail
        go_ret
        exact ⟨by rw [HT.out]; rfl, SX.out⟩

end Go.Proofs.YtlgapgajgpilgaaGreatDoor

namespace Go.Proofs.YtlgapgajgpilgaaGreatDoor
open Go.RowKit Go.Lib

set_option maxRecDepth 100000 in
set_option maxHeartbeats 8000000 in
theorem lock9 (p : Pl) (f : Fm) (wa ya ba : Option Addr) (wc yc bc : Nat) (ob oo pb po : Nat) (ha : Option Addr) (oc pc hc : Nat) (x : Int) (w : World) (hs : p.small) (hfs : f.small) (h : PlIn 0 w p wa ya ba) (hf : FmIn 0 w f (some ⟨ob, oo, none⟩) (some ⟨pb, po, none⟩) ha) :
    Calls Tryz.prog 9 #[.agg #[.int .i64 p.sec, .slice wa p.nw wc, .slice ya p.ny yc, .slice ba p.nb bc, .int .i64 p.hold], .agg #[.bool f.ok, .slice (some ⟨ob, oo, none⟩) f.no oc, .slice (some ⟨pb, po, none⟩) f.np pc, .slice ha f.nh hc], .int .i64 x] w fun e w' => e = .returned (.int .i64 (lockF p f x)) ∧ Below w.heap.size w w' := by
  have H : Hid (PlIn 0 w p wa ya ba ∧ FmIn 0 w f (some ⟨ob, oo, none⟩) (some ⟨pb, po, none⟩) ha ∧ p.small ∧ f.small) := ⟨h, hf, hs, hfs⟩
  have S0 : Hid (Below w.heap.size w ((w.alloc (.cells #[.int .i64 p.sec, .slice wa p.nw wc, .slice ya p.ny yc, .slice ba p.nb bc, .int .i64 p.hold] 37)).alloc (.cells #[.bool f.ok, .slice (some ⟨ob, oo, none⟩) f.no oc, .slice (some ⟨pb, po, none⟩) f.np pc, .slice ha f.nh hc] 42)) ∧ Box ((w.alloc (.cells #[.int .i64 p.sec, .slice wa p.nw wc, .slice ya p.ny yc, .slice ba p.nb bc, .int .i64 p.hold] 37)).alloc (.cells #[.bool f.ok, .slice (some ⟨ob, oo, none⟩) f.no oc, .slice (some ⟨pb, po, none⟩) f.np pc, .slice ha f.nh hc] 42)) w.heap.size 37 #[.int .i64 p.sec, .slice wa p.nw wc, .slice ya p.ny yc, .slice ba p.nb bc, .int .i64 p.hold] ∧ Box ((w.alloc (.cells #[.int .i64 p.sec, .slice wa p.nw wc, .slice ya p.ny yc, .slice ba p.nb bc, .int .i64 p.hold] 37)).alloc (.cells #[.bool f.ok, .slice (some ⟨ob, oo, none⟩) f.no oc, .slice (some ⟨pb, po, none⟩) f.np pc, .slice ha f.nh hc] 42)) (w.heap.size + 1) 42 #[.bool f.ok, .slice (some ⟨ob, oo, none⟩) f.no oc, .slice (some ⟨pb, po, none⟩) f.np pc, .slice ha f.nh hc]) := ⟨bel2 _ _ _, (Box.new _ _ _).alloc _, by have := Box.new (w.alloc (.cells #[.int .i64 p.sec, .slice wa p.nw wc, .slice ya p.ny yc, .slice ba p.nb bc, .int .i64 p.hold] 37)) 42 #[.bool f.ok, .slice (some ⟨ob, oo, none⟩) f.no oc, .slice (some ⟨pb, po, none⟩) f.np pc, .slice ha f.nh hc]; simpa using this⟩
  have hny : p.ny ≤ 1048576 := hs.2.1
  have hno : f.no ≤ 1048576 := hfs.1
  clear h hf hs hfs
  obtain ⟨R, HR⟩ : ∃ R, Hid (lockF p f x = R) := ⟨_, rfl⟩
  rw [HR.out]
  go_enter Tryz.func9, Tryz.ntmps9
  go_wp2_with fail
  generalize ((w.alloc (.cells #[.int .i64 p.sec, .slice wa p.nw wc, .slice ya p.ny yc, .slice ba p.nb bc, .int .i64 p.hold] 37)).alloc (.cells #[.bool f.ok, .slice (some ⟨ob, oo, none⟩) f.no oc, .slice (some ⟨pb, po, none⟩) f.np pc, .slice ha f.nh hc] 42)) = V0 at S0 ⊢
  refine (frame8 p f wa ya ba wc yc bc ob oo pb po ha oc pc hc V0 H.out.2.2.1 H.out.2.2.2 (H.out.1.mono (Nat.le_refl _) S0.out.1 (Nat.le_refl _)) (H.out.2.1.mono (Nat.le_refl _) S0.out.1 (Nat.le_refl _))).mono ?_
  rintro e w1 ⟨he, hb1⟩
  have S1 : Hid (Below w.heap.size w w1 ∧ Box w1 w.heap.size 37 #[.int .i64 p.sec, .slice wa p.nw wc, .slice ya p.ny yc, .slice ba p.nb bc, .int .i64 p.hold] ∧ Box w1 (w.heap.size + 1) 42 #[.bool f.ok, .slice (some ⟨ob, oo, none⟩) f.no oc, .slice (some ⟨pb, po, none⟩) f.np pc, .slice ha f.nh hc]) := ⟨S0.out.1.trans (hb1.mono S0.out.1.size), S0.out.2.1.mono hb1 (Nat.le_refl _), S0.out.2.2.mono hb1 (Nat.le_refl _)⟩
  clear hb1 S0
  obtain ⟨g, HG⟩ : ∃ g, Hid (frameB p f = g) := ⟨_, rfl⟩
  rw [HG.out] at he
  subst he
  cases g with
  | false =>
    have HT : Hid (R = -1) := HR.out.symm.trans (lock_bad HG.out)
    go_wp2_with fail
    go_ret
    exact ⟨by rw [HT.out]; rfl, S1.out.1⟩
  | true =>
    have hs1 : 0 ≤ p.sec := by have := (frame_in HG.out).2.2.2.1; omega
    have hs2 : p.sec ≤ 1048576 := by have := (frame_in HG.out).2.2.2.1; omega
    have HNH : Hid (f.nh = p.ny) := (frame_in HG.out).2.1
    have a0 : w1.cell? ⟨w.heap.size, 0, none⟩ = some (.int .i64 p.sec) := S1.out.2.1.cell 0
    go_wp2_with fail
    clear a0
    refine (in24 x 0 (p.sec - 1) _).mono ?_
    rintro e w2 ⟨he, hw⟩
    have hw := hw.symm
    subst hw
    obtain ⟨q, HQ⟩ : ∃ q, Hid (inB x 0 (p.sec - 1) = q) := ⟨_, rfl⟩
    rw [HQ.out] at he
    subst he
    cases q with
    | false =>
      have HT : Hid (R = -1) := HR.out.symm.trans (lock_out HG.out HQ.out)
      go_wp2_with fail
      go_ret
      exact ⟨by rw [HT.out]; rfl, S1.out.1⟩
    | true =>
      have a2 : w1.cell? ⟨w.heap.size, 2, none⟩ = some (.slice ya p.ny yc) := S1.out.2.1.cell 2
      go_wp2_with fail
      clear a2
      go_loopw [23] (fun c wr => ∃ k : Nat, k ≤ p.ny ∧ c = .int .i64 k ∧ Hid (∀ m, m < k → holdsB p f m x = false) ∧ Hid (Below w.heap.size w wr ∧ Box wr w.heap.size 37 #[.int .i64 p.sec, .slice wa p.nw wc, .slice ya p.ny yc, .slice ba p.nb bc, .int .i64 p.hold] ∧ Box wr (w.heap.size + 1) 42 #[.bool f.ok, .slice (some ⟨ob, oo, none⟩) f.no oc, .slice (some ⟨pb, po, none⟩) f.np pc, .slice ha f.nh hc])) (fun c _ => p.ny - (intOf c).toNat)
      case atStart => exact ⟨0, Nat.zero_le _, rfl, fun j hj => absurd hj (Nat.not_lt_zero _), S1⟩
      case round =>
        clear S1
        obtain ⟨k, hk, rfl, HK, S1⟩ := hrel
        by_cases hlt : k < p.ny
        · have hk0 : (0 : Int) ≤ (k : Int) := by omega
          have hkn : (k : Int) < (p.ny : Int) := by omega
          have a0 : wr.cell? ⟨w.heap.size, 0, none⟩ = some (.int .i64 p.sec) := S1.out.2.1.cell 0
          have a1 : wr.cell? ⟨w.heap.size, 1, none⟩ = some (.slice wa p.nw wc) := S1.out.2.1.cell 1
          have a2 : wr.cell? ⟨w.heap.size, 2, none⟩ = some (.slice ya p.ny yc) := S1.out.2.1.cell 2
          have a3 : wr.cell? ⟨w.heap.size, 3, none⟩ = some (.slice ba p.nb bc) := S1.out.2.1.cell 3
          have a4 : wr.cell? ⟨w.heap.size, 4, none⟩ = some (.int .i64 p.hold) := S1.out.2.1.cell 4
          have b0 : wr.cell? ⟨(w.heap.size + 1), 0, none⟩ = some (.bool f.ok) := S1.out.2.2.cell 0
          have b1 : wr.cell? ⟨(w.heap.size + 1), 1, none⟩ = some (.slice (some ⟨ob, oo, none⟩) f.no oc) := S1.out.2.2.cell 1
          have b2 : wr.cell? ⟨(w.heap.size + 1), 2, none⟩ = some (.slice (some ⟨pb, po, none⟩) f.np pc) := S1.out.2.2.cell 2
          have b3 : wr.cell? ⟨(w.heap.size + 1), 3, none⟩ = some (.slice ha f.nh hc) := S1.out.2.2.cell 3
          go_wp2_with fail
          clear a0 a1 a2 a3 a4 b0 b1 b2 b3
          refine (holds37 p f wa ya ba (some ⟨ob, oo, none⟩) (some ⟨pb, po, none⟩) ha wc yc bc oc pc hc k x wr H.out.2.2.1 H.out.2.2.2.2.2.1 hlt (by rw [HNH.out]; exact hlt) (H.out.1.mono (Nat.le_refl _) S1.out.1 (Nat.le_refl _)) (H.out.2.1.h.mono (Nat.le_refl _) S1.out.1 (Nat.le_refl _))).mono ?_
          rintro e w3 ⟨he, hb3⟩
          have S3 : Hid (Below w.heap.size w w3 ∧ Box w3 w.heap.size 37 #[.int .i64 p.sec, .slice wa p.nw wc, .slice ya p.ny yc, .slice ba p.nb bc, .int .i64 p.hold] ∧ Box w3 (w.heap.size + 1) 42 #[.bool f.ok, .slice (some ⟨ob, oo, none⟩) f.no oc, .slice (some ⟨pb, po, none⟩) f.np pc, .slice ha f.nh hc]) := ⟨S1.out.1.trans (hb3.mono S1.out.1.size), S1.out.2.1.mono hb3 (Nat.le_refl _), S1.out.2.2.mono hb3 (Nat.le_refl _)⟩
          clear hb3
          obtain ⟨u, HU⟩ : ∃ u, Hid (holdsB p f k x = u) := ⟨_, rfl⟩
          rw [HU.out] at he
          subst he
          cases u with
          | true =>
            have HT : Hid (R = (k : Int)) := HR.out.symm.trans (lock_hit HG.out HK.out hlt HU.out)
            go_wp2_with fail
            go_ret
            exact ⟨by rw [HT.out]; rfl, S3.out.1⟩
          | false =>
            have HK2 : Hid (∀ m, m < k + 1 → holdsB p f m x = false) := fun m hm => by
              by_cases c : m = k
              · subst c
                exact HU.out
              · exact HK.out m (by omega)
            go_wp2_with fail
            go_roundw
            case rel => exact ⟨k + 1, by omega, by go_num, HK2, S3⟩
            case measure => simp [intOf]; omega
        · have HT : Hid (R = -1) := HR.out.symm.trans (lock_none HG.out fun m hm => HK.out m (by omega))
          have hge : ¬ ((k : Int) < (p.ny : Int)) := by omega
          go_wp2_with fail
          go_ret
          exact ⟨by rw [HT.out]; rfl, S1.out.1⟩

end Go.Proofs.YtlgapgajgpilgaaGreatDoor

namespace Go.Proofs.YtlgapgajgpilgaaGreatDoor
open Go.RowKit Go.Lib

/-- the first way that keeps a section -/
def LkS (p : Pl) (S : Nat → WS) (x R : Int) : Prop := (∃ k : Nat, k < p.ny ∧ keepsB p S k x = true ∧ (∀ m, m < k → keepsB p S m x = false) ∧ R = (k : Int)) ∨ ((∀ m, m < p.ny → keepsB p S m x = false) ∧ R = -1)
theorem lock_is {p : Pl} {f : Fm} (h : frameB p f = true) (x : Int) : LkS p (stS p f) x (lockF p f x) := by
  by_cases c : ∃ k, k < p.ny ∧ holdsB p f k x = true
  · obtain ⟨k, h1, h2⟩ := c
    obtain ⟨k0, h3, h4⟩ : ∃ k0, (k0 < p.ny ∧ holdsB p f k0 x = true) ∧ ∀ m, m < k0 → holdsB p f m x = false := by
      induction k using Nat.strongRecOn with
      | ind k ih =>
        by_cases d : ∃ m, m < k ∧ holdsB p f m x = true
        · obtain ⟨m, d1, d2⟩ := d
          exact ih m d1 (by omega) d2
        · exact ⟨k, ⟨h1, h2⟩, fun m hm => by
            cases e : holdsB p f m x with
            | false => rfl
            | true => exact absurd ⟨m, hm, e⟩ d⟩
    exact Or.inl ⟨k0, h3.1, by rw [keeps_holds h h3.1]; exact h3.2, fun m hm => by rw [keeps_holds h (by omega)]; exact h4 m hm, lock_hit h h4 h3.1 h3.2⟩
  · have h3 : ∀ m, m < p.ny → holdsB p f m x = false := fun m hm => by
      cases e : holdsB p f m x with
      | false => rfl
      | true => exact absurd ⟨m, hm, e⟩ c
    exact Or.inr ⟨fun m hm => by rw [keeps_holds h hm]; exact h3 m hm, lock_none h h3⟩
set_option maxRecDepth 100000 in
set_option maxHeartbeats 8000000 in
theorem locked45 (p : Pl) (wb yb bb : Nat) (lo rr : Nat → Nat) (oa : Option Addr) (no oc : Nat) (pa : Option Addr) (np pc : Nat) (ia : Option Addr) (ic : Nat) (S : Nat → WS) (N : Nat → Nat) (x R : Int) (w : World) (hR : LkS p S x R) (hs : p.small) (hP : PlOwn 0 w p wb yb bb lo rr) (h : WlAt w ia p.ny N S) :
    Calls Tryz.prog 45 #[.agg #[.int .i64 p.sec, .slice (some ⟨wb, 0, none⟩) p.nw p.nw, .slice (some ⟨yb, 0, none⟩) p.ny p.ny, .slice (some ⟨bb, 0, none⟩) p.nb p.nb, .int .i64 p.hold, .slice oa no oc, .slice pa np pc, .slice ia p.ny ic], .int .i64 x] w fun e w' => e = .returned (.int .i64 R) ∧ Below w.heap.size w w' := by
  have H : Hid (p.small ∧ PlOwn 0 w p wb yb bb lo rr ∧ WlAt w ia p.ny N S ∧ LkS p S x R) := ⟨hs, hP, h, hR⟩
  have hny : p.ny ≤ 1048576 := hs.2.1
  clear hs hP h hR
  have T0 : Hid (Below w.heap.size w (w.alloc (.cells #[.int .i64 p.sec, .slice (some ⟨wb, 0, none⟩) p.nw p.nw, .slice (some ⟨yb, 0, none⟩) p.ny p.ny, .slice (some ⟨bb, 0, none⟩) p.nb p.nb, .int .i64 p.hold, .slice oa no oc, .slice pa np pc, .slice ia p.ny ic] 73)) ∧ Box (w.alloc (.cells #[.int .i64 p.sec, .slice (some ⟨wb, 0, none⟩) p.nw p.nw, .slice (some ⟨yb, 0, none⟩) p.ny p.ny, .slice (some ⟨bb, 0, none⟩) p.nb p.nb, .int .i64 p.hold, .slice oa no oc, .slice pa np pc, .slice ia p.ny ic] 73)) w.heap.size 73 #[.int .i64 p.sec, .slice (some ⟨wb, 0, none⟩) p.nw p.nw, .slice (some ⟨yb, 0, none⟩) p.ny p.ny, .slice (some ⟨bb, 0, none⟩) p.nb p.nb, .int .i64 p.hold, .slice oa no oc, .slice pa np pc, .slice ia p.ny ic]) := ⟨bel1 _ _, Box.new _ _ _⟩
  go_enter Tryz.func45, Tryz.ntmps45
  go_wp2_with fail
  generalize (w.alloc (.cells #[.int .i64 p.sec, .slice (some ⟨wb, 0, none⟩) p.nw p.nw, .slice (some ⟨yb, 0, none⟩) p.ny p.ny, .slice (some ⟨bb, 0, none⟩) p.nb p.nb, .int .i64 p.hold, .slice oa no oc, .slice pa np pc, .slice ia p.ny ic] 73)) = V1 at T0 ⊢
  go_loopw [9] (fun c wr => ∃ k : Nat, k ≤ p.ny ∧ c = .int .i64 k ∧ Hid (∀ m, m < k → keepsB p S m x = false) ∧ Hid (Below w.heap.size w wr ∧ Box wr w.heap.size 73 #[.int .i64 p.sec, .slice (some ⟨wb, 0, none⟩) p.nw p.nw, .slice (some ⟨yb, 0, none⟩) p.ny p.ny, .slice (some ⟨bb, 0, none⟩) p.nb p.nb, .int .i64 p.hold, .slice oa no oc, .slice pa np pc, .slice ia p.ny ic])) (fun c _ => p.ny - (intOf c).toNat)
  case atStart => exact ⟨0, Nat.zero_le _, rfl, fun j hj => absurd hj (Nat.not_lt_zero _), T0⟩
  case round =>
    clear T0
    obtain ⟨k, hk, rfl, HK, T⟩ := hrel
    by_cases hlt : k < p.ny
    · have hk0 : (0 : Int) ≤ (k : Int) := by omega
      have hkn : (k : Int) < (p.ny : Int) := by omega
      have d0 : wr.cell? ⟨w.heap.size, 0, none⟩ = some (.int .i64 p.sec) := T.out.2.cell 0
      have d1 : wr.cell? ⟨w.heap.size, 1, none⟩ = some (.slice (some ⟨wb, 0, none⟩) p.nw p.nw) := T.out.2.cell 1
      have d2 : wr.cell? ⟨w.heap.size, 2, none⟩ = some (.slice (some ⟨yb, 0, none⟩) p.ny p.ny) := T.out.2.cell 2
      have d3 : wr.cell? ⟨w.heap.size, 3, none⟩ = some (.slice (some ⟨bb, 0, none⟩) p.nb p.nb) := T.out.2.cell 3
      have d4 : wr.cell? ⟨w.heap.size, 4, none⟩ = some (.int .i64 p.hold) := T.out.2.cell 4
      have d5 : wr.cell? ⟨w.heap.size, 5, none⟩ = some (.slice oa no oc) := T.out.2.cell 5
      have d6 : wr.cell? ⟨w.heap.size, 6, none⟩ = some (.slice pa np pc) := T.out.2.cell 6
      have d7 : wr.cell? ⟨w.heap.size, 7, none⟩ = some (.slice ia p.ny ic) := T.out.2.cell 7
      go_wp2_with fail
      clear d0 d1 d2 d3 d4 d5 d6 d7
      refine (keeps45 p wb yb bb lo rr oa no oc pa np pc ia ic S N k x wr hlt H.out.1 (H.out.2.1.mono (Nat.le_refl _) T.out.1 (Nat.le_refl _)) (H.out.2.2.1.mono T.out.1 (Nat.le_refl _))).mono ?_
      rintro e w3 ⟨he, hb3⟩
      have T3 : Hid (Below w.heap.size w w3 ∧ Box w3 w.heap.size 73 #[.int .i64 p.sec, .slice (some ⟨wb, 0, none⟩) p.nw p.nw, .slice (some ⟨yb, 0, none⟩) p.ny p.ny, .slice (some ⟨bb, 0, none⟩) p.nb p.nb, .int .i64 p.hold, .slice oa no oc, .slice pa np pc, .slice ia p.ny ic]) := ⟨T.out.1.trans (hb3.mono T.out.1.size), T.out.2.mono hb3 (Nat.le_refl _)⟩
      clear hb3
      obtain ⟨u, HU⟩ : ∃ u, Hid (keepsB p S k x = u) := ⟨_, rfl⟩
      rw [HU.out] at he
      subst he
      cases u with
      | true =>
        have HT : Hid (R = (k : Int)) := by
          rcases H.out.2.2.2 with ⟨i, _, h2, h3, h4⟩ | ⟨h1, _⟩
          · rcases Nat.lt_trichotomy i k with c | c | c
            · rw [HK.out i c] at h2
              cases h2
            · subst c
              exact h4
            · have := HU.out.symm.trans (h3 k c)
              cases this
          · have := HU.out.symm.trans (h1 k hlt)
            cases this
        go_wp2_with fail
        go_ret
        exact ⟨by rw [HT.out]; rfl, T3.out.1⟩
      | false =>
        have HK2 : Hid (∀ m, m < k + 1 → keepsB p S m x = false) := fun m hm => by
          by_cases c : m = k
          · subst c
            exact HU.out
          · exact HK.out m (by omega)
        go_wp2_with fail
        go_roundw
        case rel => exact ⟨k + 1, by omega, by go_num, HK2, T3⟩
        case measure => simp [intOf]; omega
    · have HT : Hid (R = -1) := by
        rcases H.out.2.2.2 with ⟨i, h1, h2, _, _⟩ | ⟨_, h2⟩
        · rw [HK.out i (by omega)] at h2
          cases h2
        · exact h2
      have hge : ¬ ((k : Int) < (p.ny : Int)) := by omega
      go_wp2_with fail
      go_ret
      exact ⟨by rw [HT.out]; rfl, T.out.1⟩
set_option maxRecDepth 100000 in
set_option maxHeartbeats 8000000 in
theorem lock12 (p : Pl) (f : Fm) (wb yb bb : Nat) (lo rr : Nat → Nat) (ob pb hb : Nat) (r : Nat → Nat) (et : TypeId) (ev : Value) (x : Int) (w : World) (hs : p.small) (hfs : f.small) (hP : PlOwn 0 w p wb yb bb lo rr) (hF : FmOwn 0 w f (.slice (some ⟨ob, 0, none⟩) f.no f.no) (.slice (some ⟨pb, 0, none⟩) f.np f.np) (.slice (some ⟨hb, 0, none⟩) f.nh f.nh) r) (he : w.cell? ⟨0, 0, none⟩ = some (.iface et ev)) (h0 : 0 < w.heap.size) :
    Calls Tryz.prog 12 #[.agg #[.int .i64 p.sec, .slice (some ⟨wb, 0, none⟩) p.nw p.nw, .slice (some ⟨yb, 0, none⟩) p.ny p.ny, .slice (some ⟨bb, 0, none⟩) p.nb p.nb, .int .i64 p.hold], .agg #[.bool f.ok, .slice (some ⟨ob, 0, none⟩) f.no f.no, .slice (some ⟨pb, 0, none⟩) f.np f.np, .slice (some ⟨hb, 0, none⟩) f.nh f.nh], .int .i64 x] w fun e w' => e = .returned (.int .i64 (lockF p f x)) ∧ Below w.heap.size w w' := by
  have H : Hid (PlOwn 0 w p wb yb bb lo rr ∧ FmOwn 0 w f (.slice (some ⟨ob, 0, none⟩) f.no f.no) (.slice (some ⟨pb, 0, none⟩) f.np f.np) (.slice (some ⟨hb, 0, none⟩) f.nh f.nh) r ∧ w.cell? ⟨0, 0, none⟩ = some (.iface et ev) ∧ 0 < w.heap.size ∧ p.small ∧ f.small) := ⟨hP, hF, he, h0, hs, hfs⟩
  have S0 : Hid (Below w.heap.size w ((w.alloc (.cells #[.int .i64 p.sec, .slice (some ⟨wb, 0, none⟩) p.nw p.nw, .slice (some ⟨yb, 0, none⟩) p.ny p.ny, .slice (some ⟨bb, 0, none⟩) p.nb p.nb, .int .i64 p.hold] 37)).alloc (.cells #[.bool f.ok, .slice (some ⟨ob, 0, none⟩) f.no f.no, .slice (some ⟨pb, 0, none⟩) f.np f.np, .slice (some ⟨hb, 0, none⟩) f.nh f.nh] 42))) := bel2 _ _ _
  clear hP hF he h0 hs hfs
  obtain ⟨R, HR⟩ : ∃ R, Hid (lockF p f x = R) := ⟨_, rfl⟩
  rw [HR.out]
  go_enter Tryz.func12, Tryz.ntmps12
  go_wp2_with fail
  generalize ((w.alloc (.cells #[.int .i64 p.sec, .slice (some ⟨wb, 0, none⟩) p.nw p.nw, .slice (some ⟨yb, 0, none⟩) p.ny p.ny, .slice (some ⟨bb, 0, none⟩) p.nb p.nb, .int .i64 p.hold] 37)).alloc (.cells #[.bool f.ok, .slice (some ⟨ob, 0, none⟩) f.no f.no, .slice (some ⟨pb, 0, none⟩) f.np f.np, .slice (some ⟨hb, 0, none⟩) f.nh f.nh] 42)) = V0 at S0 ⊢
  refine (desk42 p f wb yb bb lo rr ob pb hb r et ev V0 H.out.2.2.2.2.1 H.out.2.2.2.2.2 (H.out.1.mono (Nat.le_refl _) S0.out (Nat.le_refl _)) (H.out.2.1.mono (Nat.le_refl _) S0.out (Nat.le_refl _)) (cell_keep S0.out H.out.2.2.2.1 H.out.2.2.1) (Nat.lt_of_lt_of_le H.out.2.2.2.1 S0.out.size)).mono ?_
  rintro e w1 ⟨hb1, hc⟩
  have HB : Hid (Below w.heap.size w w1) := S0.out.trans (hb1.mono S0.out.size)
  clear hb1 S0
  rcases hc with ⟨hf, rfl⟩ | ⟨hf, ia, ic, v, rfl, hwl⟩
  · have HT : Hid (R = -1) := HR.out.symm.trans (lock_bad hf)
    clear hf
    go_wp2_with fail
    go_ret
    exact ⟨by rw [HT.out]; rfl, HB.out.alloc HB.out.size _⟩
  · have HX : Hid (frameB p f = true) := hf
    clear hf
    have HW0 := hwl.at
    clear hwl
    rw [(frame_in HX.out).2.1] at HW0 ⊢
    have T0 : Hid (Below w.heap.size w (w1.alloc (.cells #[.int .i64 p.sec, .slice (some ⟨wb, 0, none⟩) p.nw p.nw, .slice (some ⟨yb, 0, none⟩) p.ny p.ny, .slice (some ⟨bb, 0, none⟩) p.nb p.nb, .int .i64 p.hold, .slice (some ⟨ob, 0, none⟩) f.no f.no, .slice (some ⟨pb, 0, none⟩) f.np f.np, .slice ia p.ny ic] 73)) ∧ WlAt (w1.alloc (.cells #[.int .i64 p.sec, .slice (some ⟨wb, 0, none⟩) p.nw p.nw, .slice (some ⟨yb, 0, none⟩) p.ny p.ny, .slice (some ⟨bb, 0, none⟩) p.nb p.nb, .int .i64 p.hold, .slice (some ⟨ob, 0, none⟩) f.no f.no, .slice (some ⟨pb, 0, none⟩) f.np f.np, .slice ia p.ny ic] 73)) ia p.ny (fun i => (p.Y i).ns) (stS p f)) := ⟨HB.out.alloc HB.out.size _, HW0.mono (bel1 _ _) (Nat.le_refl _)⟩
    clear HW0
    go_wp2_with fail
    generalize (w1.alloc (.cells #[.int .i64 p.sec, .slice (some ⟨wb, 0, none⟩) p.nw p.nw, .slice (some ⟨yb, 0, none⟩) p.ny p.ny, .slice (some ⟨bb, 0, none⟩) p.nb p.nb, .int .i64 p.hold, .slice (some ⟨ob, 0, none⟩) f.no f.no, .slice (some ⟨pb, 0, none⟩) f.np f.np, .slice ia p.ny ic] 73)) = V1 at T0 ⊢
    refine (locked45 p wb yb bb lo rr (some ⟨ob, 0, none⟩) f.no f.no (some ⟨pb, 0, none⟩) f.np f.np ia ic (stS p f) (fun i => (p.Y i).ns) x R V1 (by have := lock_is HX.out x; rwa [HR.out] at this) H.out.2.2.2.2.1 (H.out.1.mono (Nat.le_refl _) T0.out.1 (Nat.le_refl _)) T0.out.2).mono ?_
    rintro e w2 ⟨rfl, hb2⟩
    have HE : Hid (Below w.heap.size w w2) := T0.out.1.trans (hb2.mono T0.out.1.size)
    clear hb2
    go_wp2_with fail
    go_ret
    exact ⟨rfl, HE.out⟩

end Go.Proofs.YtlgapgajgpilgaaGreatDoor
