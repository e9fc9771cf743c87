import Derived.Test.YtflomaagenjfpaaMo
namespace Go.Proofs.Ytflomaagenjfpaa
open Go.RowKit

/-- the greatest number below k whose lamp works, -1 when there is none -/
def lampN (T : Nat → Bool) : Nat → Int
  | 0 => -1
  | k + 1 => if T k then (k : Int) else lampN T k
theorem lampN_ge (T : Nat → Bool) : ∀ k, -1 ≤ lampN T k
  | 0 => Int.le_refl _
  | k + 1 => by
    have := lampN_ge T k
    unfold lampN
    split <;> omega
theorem lampN_lt (T : Nat → Bool) : ∀ k, lampN T k ≤ (k : Int) - 1
  | 0 => by simp [lampN]
  | k + 1 => by
    have := lampN_lt T k
    unfold lampN
    split <;> omega
theorem lampN_mono (T : Nat → Bool) {k m : Nat} (h : k ≤ m) : lampN T k ≤ lampN T m := by
  induction m with
  | zero =>
    obtain rfl : k = 0 := by omega
    exact Int.le_refl _
  | succ m ih =>
    by_cases e : k = m + 1
    · subst e
      exact Int.le_refl _
    · have h1 := ih (by omega)
      have h2 := lampN_lt T m
      show lampN T k ≤ if T m then (m : Int) else lampN T m
      split <;> omega
theorem lampN_yes {T : Nat → Bool} {k : Nat} (h : T k = true) : lampN T (k + 1) = (k : Int) := by simp [lampN, h]
theorem lampN_no {T : Nat → Bool} {k : Nat} (h : T k = false) : lampN T (k + 1) = lampN T k := by simp [lampN, h]
/-- what a signal shows that wants so much -/
def lampF (T : Nat → Bool) (m : Int) : Int := lampN T (m + 1).toNat
theorem lampF_ge (T : Nat → Bool) (m : Int) : -1 ≤ lampF T m := lampN_ge _ _
theorem lampF_le (T : Nat → Bool) {m : Int} (h : -1 ≤ m) : lampF T m ≤ m := by
  have := lampN_lt T (m + 1).toNat
  unfold lampF
  omega
theorem lampF_mono (T : Nat → Bool) {m n : Int} (h : m ≤ n) : lampF T m ≤ lampF T n := lampN_mono T (by omega)
/-- what a signal wants, by what is shown -/
def wantF (r : Rw) (S : Nat → Int) (i : Nat) : Int := if r.O i then (if r.X i < 0 then 1 else if 3 < S (r.X i).toNat + 1 then 3 else S (r.X i).toNat + 1) else 0
def showF (r : Rw) (S : Nat → Int) (i : Nat) : Int := lampF (r.T i) (wantF r S i)
theorem wantF_le (r : Rw) (S : Nat → Int) (i : Nat) : wantF r S i ≤ 3 := by
  unfold wantF
  split
  · split
    · omega
    · split <;> omega
  · omega
/-- the next ones are signals of the row -/
def Good (r : Rw) : Prop := r.nn ≤ 60 ∧ (∀ i, i < r.nn → -1 ≤ r.X i ∧ r.X i < r.nn) ∧ (∀ i, i < r.nn → r.K i = 4) ∧ r.nf = r.nn ∧ r.no = r.nn ∧ r.nk = r.nn
/-- no less than dark -/
def Low (n : Nat) (S : Nat → Int) : Prop := ∀ i, i < n → -1 ≤ S i ∧ S i ≤ 3
theorem wantF_ge {r : Rw} (hr : Good r) {S : Nat → Int} (hS : Low r.nn S) {i : Nat} (hi : i < r.nn) : 0 ≤ wantF r S i := by
  have hx := hr.2.1 i hi
  unfold wantF
  split
  · split
    · omega
    · have := hS (r.X i).toNat (by omega)
      split <;> omega
  · omega
theorem wantF_mono {r : Rw} (hr : Good r) {S P : Nat → Int} (h : ∀ i, i < r.nn → S i ≤ P i) {i : Nat} (hi : i < r.nn) : wantF r S i ≤ wantF r P i := by
  have hx := hr.2.1 i hi
  unfold wantF
  split
  · split
    · omega
    · have := h (r.X i).toNat (by omega)
      split <;> split <;> omega
  · omega
theorem showF_mono {r : Rw} (hr : Good r) {S P : Nat → Int} (h : ∀ i, i < r.nn → S i ≤ P i) {i : Nat} (hi : i < r.nn) : showF r S i ≤ showF r P i := lampF_mono _ (wantF_mono hr h hi)
theorem showF_low {r : Rw} (hr : Good r) {S : Nat → Int} (hS : Low r.nn S) : Low r.nn (showF r S) := fun i hi => by
  have h1 := wantF_le r S i
  have h2 := wantF_ge hr hS hi
  have h3 := lampF_le (r.T i) (m := wantF r S i) (by omega)
  have h4 := lampF_ge (r.T i) (wantF r S i)
  unfold showF
  omega
/-- what agrees with what each signal asks -/
def Fix (r : Rw) (S : Nat → Int) : Prop := ∀ i, i < r.nn → S i = showF r S i
/-- the least such -/
def Least (r : Rw) (S : Nat → Int) : Prop := Fix r S ∧ ∀ P, Low r.nn P → Fix r P → ∀ i, i < r.nn → S i ≤ P i
theorem Least.unique {r : Rw} {S P : Nat → Int} (h : Least r S) (k : Least r P) (hS : Low r.nn S) (hP : Low r.nn P) : ∀ i, i < r.nn → S i = P i := fun i hi => by
  have h1 := h.2 P hP k.1 i hi
  have h2 := k.2 S hS h.1 i hi
  omega
theorem wantF_congr {r : Rw} (hr : Good r) {S P : Nat → Int} (h : ∀ i, i < r.nn → S i = P i) {i : Nat} (hi : i < r.nn) : wantF r S i = wantF r P i := by
  have h1 := wantF_mono hr (S := S) (P := P) (fun j hj => by rw [h j hj]; exact Int.le_refl _) hi
  have h2 := wantF_mono hr (S := P) (P := S) (fun j hj => by rw [h j hj]; exact Int.le_refl _) hi
  omega
/-- a sum -/
def sumN (f : Nat → Nat) : Nat → Nat
  | 0 => 0
  | n + 1 => sumN f n + f n
theorem sumN_le {f g : Nat → Nat} : ∀ {n : Nat}, (∀ i, i < n → f i ≤ g i) → sumN f n ≤ sumN g n
  | 0, _ => Nat.le_refl _
  | n + 1, h => by
    have h1 := sumN_le (f := f) (g := g) (n := n) fun i hi => h i (by omega)
    have h2 := h n (by omega)
    simp only [sumN]
    omega
theorem sumN_lt {f g : Nat → Nat} : ∀ {n k : Nat}, (∀ i, i < n → f i ≤ g i) → k < n → f k < g k → sumN f n < sumN g n
  | 0, k, _, hk, _ => by omega
  | n + 1, k, h, hk, hl => by
    have h2 := h n (by omega)
    simp only [sumN]
    by_cases e : k = n
    · subst e
      have h1 := sumN_le (f := f) (g := g) (n := k) fun i hi => h i (by omega)
      omega
    · have h1 := sumN_lt (f := f) (g := g) (n := n) (k := k) (fun i hi => h i (by omega)) (by omega) hl
      omega
theorem sumN_bound {f : Nat → Nat} {m : Nat} : ∀ {n : Nat}, (∀ i, i < n → f i ≤ m) → sumN f n ≤ n * m
  | 0, _ => by simp [sumN]
  | n + 1, h => by
    have h1 := sumN_bound (f := f) (m := m) (n := n) fun i hi => h i (by omega)
    have h2 := h n (by omega)
    simp only [sumN, Nat.succ_mul]
    omega
/-- how much more can be shown -/
def roomN (n : Nat) (S : Nat → Int) : Nat := sumN (fun i => (3 - S i).toNat) n
theorem roomN_le {n : Nat} {S P : Nat → Int} (h : ∀ i, i < n → S i ≤ P i) : roomN n P ≤ roomN n S := sumN_le fun i hi => by have := h i hi; omega
theorem roomN_lt {n k : Nat} {S P : Nat → Int} (h : ∀ i, i < n → S i ≤ P i) (hk : k < n) (hP : P k ≤ 3) (hl : S k < P k) : roomN n P < roomN n S := sumN_lt (k := k) (fun i hi => by have := h i hi; omega) hk (by omega)
/-- while all are asked at once -/
structure Ask (r : Rw) (S W : Nat → Int) : Prop where
  low : Low r.nn S
  up : ∀ i, i < r.nn → S i ≤ showF r S i
  un : ∀ P, Low r.nn P → Fix r P → ∀ i, i < r.nn → S i ≤ P i
  wl : ∀ i, i < r.nn → 0 ≤ W i ∧ W i ≤ wantF r S i
theorem Ask.begin {r : Rw} (hr : Good r) : Ask r (fun i => lampF (r.T i) 0) (fun _ => 0) := by
  have hl : Low r.nn (fun i => lampF (r.T i) 0) := fun i _ => by
    have h1 := lampF_le (r.T i) (m := 0) (by omega)
    have h2 := lampF_ge (r.T i) 0
    show -1 ≤ lampF (r.T i) 0 ∧ lampF (r.T i) 0 ≤ 3
    omega
  refine ⟨hl, fun i hi => lampF_mono _ (wantF_ge hr hl hi), fun P hP hF i hi => ?_, fun i hi => ⟨Int.le_refl _, wantF_ge hr hl hi⟩⟩
  rw [hF i hi]
  exact lampF_mono _ (wantF_ge hr hP hi)
theorem Ask.next {r : Rw} (hr : Good r) {S W : Nat → Int} (h : Ask r S W) : Ask r (showF r S) (wantF r S) := by
  refine ⟨showF_low hr h.low, fun i hi => showF_mono hr h.up hi, fun P hP hF i hi => ?_, fun i hi => ⟨wantF_ge hr h.low hi, wantF_mono hr h.up hi⟩⟩
  rw [hF i hi]
  exact showF_mono hr (h.un P hP hF) hi
theorem Ask.least {r : Rw} {S W : Nat → Int} (h : Ask r S W) (hs : ∀ i, i < r.nn → showF r S i = S i) : Least r S := ⟨fun i hi => (hs i hi).symm, h.un⟩
/-- another thing in its place -/
def updI (S : Nat → Int) (i : Nat) (x : Int) : Nat → Int := fun k => if k = i then x else S k
theorem updI_same (S : Nat → Int) (i : Nat) (x : Int) : updI S i x i = x := by simp [updI]
theorem updI_other (S : Nat → Int) {i k : Nat} (x : Int) (h : k ≠ i) : updI S i x k = S k := by simp [updI, h]
/-- while they are asked one by one: those in Q have not been asked since something changed -/
structure Turns (r : Rw) (S W : Nat → Int) (Q : List Int) : Prop where
  low : Low r.nn S
  up : ∀ i, i < r.nn → S i ≤ showF r S i
  un : ∀ P, Low r.nn P → Fix r P → ∀ i, i < r.nn → S i ≤ P i
  din : ∀ x, x ∈ Q → 0 ≤ x ∧ x < r.nn
  done : ∀ i, i < r.nn → (i : Int) ∉ Q → W i = wantF r S i ∧ S i = showF r S i
theorem Turns.begin {r : Rw} (hr : Good r) (Q : List Int) (hQ : ∀ i, i < r.nn → (i : Int) ∈ Q) (hd : ∀ x, x ∈ Q → 0 ≤ x ∧ x < r.nn) : Turns r (fun i => lampF (r.T i) 0) (fun _ => 0) Q :=
  ⟨(Ask.begin hr).low, (Ask.begin hr).up, (Ask.begin hr).un, hd, fun i hi h => absurd (hQ i hi) h⟩
theorem Turns.least {r : Rw} {S W : Nat → Int} (h : Turns r S W []) : Least r S ∧ ∀ i, i < r.nn → W i = wantF r S i :=
  ⟨⟨fun i hi => (h.done i hi (by simp)).2, h.un⟩, fun i hi => (h.done i hi (by simp)).1⟩
theorem Turns.grow {r : Rw} (hr : Good r) {S W : Nat → Int} {Q : List Int} (h : Turns r S W Q) {i : Nat} (hi : i < r.nn) :
    let S' := updI S i (showF r S i)
    Low r.nn S' ∧ (∀ k, k < r.nn → S k ≤ S' k) ∧ (∀ k, k < r.nn → S' k ≤ showF r S' k) ∧ ∀ P, Low r.nn P → Fix r P → ∀ k, k < r.nn → S' k ≤ P k := by
  intro S'
  have hle : ∀ k, k < r.nn → S k ≤ S' k := fun k hk => by
    by_cases e : k = i
    · subst e
      show S k ≤ updI S k (showF r S k) k
      rw [updI_same]
      exact h.up k hk
    · show S k ≤ updI S i (showF r S i) k
      rw [updI_other _ _ e]
      exact Int.le_refl _
  refine ⟨fun k hk => ?_, hle, fun k hk => ?_, fun P hP hF k hk => ?_⟩
  · by_cases e : k = i
    · subst e
      show -1 ≤ updI S k (showF r S k) k ∧ updI S k (showF r S k) k ≤ 3
      rw [updI_same]
      exact showF_low hr h.low k hk
    · show -1 ≤ updI S i (showF r S i) k ∧ updI S i (showF r S i) k ≤ 3
      rw [updI_other _ _ e]
      exact h.low k hk
  · have h1 := showF_mono hr hle hk
    have h2 := h.up k hk
    by_cases e : k = i
    · subst e
      show updI S k (showF r S k) k ≤ _
      rw [updI_same]
      exact h1
    · show updI S i (showF r S i) k ≤ _
      rw [updI_other _ _ e]
      omega
  · by_cases e : k = i
    · subst e
      show updI S k (showF r S k) k ≤ _
      rw [updI_same, hF k hk]
      exact showF_mono hr (h.un P hP hF) hk
    · show updI S i (showF r S i) k ≤ _
      rw [updI_other _ _ e]
      exact h.un P hP hF k hk
/-- it answers as before: it is done -/
theorem Turns.same {r : Rw} (_hr : Good r) {S W : Nat → Int} {i : Nat} {Q : List Int} (h : Turns r S W ((i : Int) :: Q)) (he : showF r S i = S i) : Turns r (updI S i (showF r S i)) (updI W i (wantF r S i)) Q := by
  have hi : i < r.nn := by have := h.din (i : Int) (by simp); omega
  have hS : updI S i (showF r S i) = S := by
    funext k
    by_cases e : k = i
    · subst e
      rw [updI_same, he]
    · rw [updI_other _ _ e]
  rw [hS]
  refine ⟨h.low, h.up, h.un, fun x hx => h.din x (List.mem_cons_of_mem _ hx), fun k hk hq => ?_⟩
  by_cases e : k = i
  · subst e
    rw [updI_same]
    exact ⟨rfl, he.symm⟩
  · rw [updI_other _ _ e]
    refine h.done k hk ?_
    simp only [List.mem_cons, not_or]
    exact ⟨by omega, hq⟩
/-- it answers otherwise: those behind it are asked anew -/
theorem Turns.more {r : Rw} (hr : Good r) {S W : Nat → Int} {i : Nat} {Q M : List Int} (h : Turns r S W ((i : Int) :: Q)) (hM : ∀ x, x ∈ M ↔ ∃ j : Nat, j < r.nn ∧ r.X j = (i : Int) ∧ x = (j : Int)) : Turns r (updI S i (showF r S i)) (updI W i (wantF r S i)) (Q ++ M) := by
  have hi : i < r.nn := by have := h.din (i : Int) (by simp); omega
  obtain ⟨g1, g2, g3, g4⟩ := h.grow hr hi
  refine ⟨g1, g3, g4, fun x hx => ?_, fun k hk hq => ?_⟩
  · rcases List.mem_append.1 hx with h1 | h1
    · exact h.din x (List.mem_cons_of_mem _ h1)
    · obtain ⟨j, hj, _, rfl⟩ := (hM x).1 h1
      omega
  · simp only [List.mem_append, not_or] at hq
    have hx : r.X k ≠ (i : Int) := fun e => hq.2 ((hM k).2 ⟨k, hk, e, rfl⟩)
    have hw : wantF r (updI S i (showF r S i)) k = wantF r S k := by
      have hk2 := hr.2.1 k hk
      unfold wantF
      split
      · split
        · rfl
        · rw [updI_other S (showF r S i) (show (r.X k).toNat ≠ i by omega)]
      · rfl
    have hsh : showF r (updI S i (showF r S i)) k = showF r S k := by
      unfold showF at hw ⊢
      rw [hw]
    rw [hw, hsh]
    by_cases e : k = i
    · subst e
      rw [updI_same, updI_same]
      exact ⟨rfl, rfl⟩
    · rw [updI_other _ _ e, updI_other _ _ e]
      refine h.done k hk ?_
      simp only [List.mem_cons, not_or]
      exact ⟨by omega, hq.1⟩
theorem min_of {Q : Nat → Prop} : ∀ m, Q m → ∃ k, Q k ∧ ∀ j, Q j → k ≤ j := fun m => by
  induction m using Nat.strongRecOn with
  | _ m ih =>
    intro hm
    by_cases h : ∃ j, j < m ∧ Q j
    · obtain ⟨j, hj, hq⟩ := h
      exact ih j hj hq
    · refine ⟨m, hm, fun j hj => ?_⟩
      by_cases e : m ≤ j
      · exact e
      · exact absurd ⟨j, by omega, hj⟩ h
/-- the least number of which something is so -/
noncomputable def leastN (Q : Nat → Prop) : Nat := Classical.epsilon fun k => Q k ∧ ∀ j, Q j → k ≤ j
theorem leastN_spec {Q : Nat → Prop} (h : ∃ m, Q m) : Q (leastN Q) := by
  obtain ⟨m, hm⟩ := h
  exact (Classical.epsilon_spec (min_of m hm)).1
theorem leastN_le {Q : Nat → Prop} {m : Nat} (h : Q m) : leastN Q ≤ m := (Classical.epsilon_spec (min_of m h)).2 m h

end Go.Proofs.Ytflomaagenjfpaa
