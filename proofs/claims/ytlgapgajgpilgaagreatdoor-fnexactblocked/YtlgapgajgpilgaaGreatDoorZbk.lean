import Derived.Test.YtlgapgajgpilgaaGreatDoorZal
import Derived.Test.YtlgapgajgpilgaaGreatDoorZar
import Derived.Test.YtlgapgajgpilgaaGreatDoorZae
namespace Go.Proofs.YtlgapgajgpilgaaGreatDoor
open Go.RowKit
def trM (x : Int) : Bool := x.tmod 3 == 0
theorem VOwn.store1 {B : Nat} {e : TypeId} {w : World} {g cap n : Nat} {F G : Nat → Nat → Value} (h : VOwn B e 1 w (.slice (some ⟨g, 0, none⟩) n cap) n F) {i : Nat} (hi : i < n) (u : Value) (hG : ∀ i', i' < n → upd F i 0 u i' 0 = G i' 0) : VOwn B e 1 (w.setCell ⟨g, i, none⟩ u) (.slice (some ⟨g, 0, none⟩) n cap) n G := by
 have := h.store hi (j := 0) (by omega) u
 rw [Nat.mul_one, Nat.add_zero] at this
 exact this.congr fun i' hi' j' hj' => by
  obtain rfl : j' = 0 := by omega
  exact hG i' hi'
set_option maxHeartbeats 2000000 in
theorem mark44 (B : Nat) (a : Option Addr) (n c : Nat) (F : Nat → Bool) (k : Nat) (w : World) (hn : n ≤ 1048576) (hk : k ≤ 100000000000000) (hQ : VOwn B 4 1 w (.slice a n c) n (boolF F)) :
  Calls Tryz.prog 56 #[.slice a n c, .int .i64 (k : Int)] w fun e w' => e = .returned (.int .i64 ((k + n : Nat) : Int)) ∧ VOwn B 4 1 w' (.slice a n c) n (boolF fun j => trM ((k + j : Nat) : Int)) ∧ Fr (fun b => (Value.slice a n c).ownBlock = some b) w w' := by
 have HQ : Hid (VOwn B 4 1 w (.slice a n c) n (boolF F)) := hQ
 clear hQ
 go_enter Tryz.func56, Tryz.ntmps56
 go_wp2_with fail
 go_loopw [1, 5] (fun l i wr => ∃ q : Nat, q ≤ n ∧ i = .int .i64 (q : Int) ∧ l = .int .i64 ((k + q : Nat) : Int) ∧ Hid (VOwn B 4 1 wr (.slice a n c) n (boolF fun j => if j < q then trM ((k + j : Nat) : Int) else F j) ∧ Fr (fun b => (Value.slice a n c).ownBlock = some b) w wr)) (fun _ i _ => n - (intOf i).toNat)
 case atStart => exact ⟨0, Nat.zero_le _, rfl, rfl, HQ.out.congr fun j _ _ _ => by simp, Fr.refl _ _⟩
 case round =>
  obtain ⟨q, hq, rfl, rfl, M⟩ := hrel
  by_cases hlt : q < n
  ·
   obtain ⟨g, ha, _, _⟩ := M.out.1.addr (by omega)
   subst ha
   have hq0 : (0 : Int) ≤ (q : Int) := by omega
   have hqn : (q : Int) < (n : Int) := by omega
   have d0 : wr.cell? ⟨g, q, none⟩ = some (.bool (if q < q then trM ((k + q : Nat) : Int) else F q)) := by have := M.out.1.cell hlt (j := 0) (by omega); rwa [Nat.mul_one] at this
   have d1 := M.out.1.free q
   have M2 : Hid (VOwn B 4 1 (wr.setCell ⟨g, q, none⟩ (.bool (trM ((k + q : Nat) : Int)))) (.slice (some ⟨g, 0, none⟩) n c) n (boolF fun j => if j < q + 1 then trM ((k + j : Nat) : Int) else F j) ∧ Fr (fun b => (Value.slice (some ⟨g, 0, none⟩) n c).ownBlock = some b) w (wr.setCell ⟨g, q, none⟩ (.bool (trM ((k + q : Nat) : Int))))) := by
    refine ⟨M.out.1.store1 hlt _ fun j hj => ?_, M.out.2.cells rfl _ _⟩
    unfold upd
    by_cases e : j = q
    ·
     subst e
     simp [boolF]
    ·
     have h1 : (j < q + 1) = (j < q) := by simp; omega
     simp [boolF, e, h1]
   clear M
   go_wp2_with fail
   go_roundw
   case rel => exact ⟨q + 1, by omega, by go_num, by go_num, M2⟩
   case measure => simp [intOf]; omega
  ·
   have hge : ¬ ((q : Int) < (n : Int)) := by omega
   have hqn : q = n := by omega
   have HR : Hid (VOwn B 4 1 wr (.slice a n c) n (boolF fun j => trM ((k + j : Nat) : Int)) ∧ Fr (fun b => (Value.slice a n c).ownBlock = some b) w wr) := by
    refine ⟨M.out.1.congr fun j hj _ _ => ?_, M.out.2⟩
    have hjq : j < q := by omega
    simp [boolF, hjq]
   clear M
   go_wp2_with fail
   go_ret
   exact ⟨by first | rfl | (rw [hqn]; rfl), HR.out⟩
def ptM (k i j : Nat) : Int := ((k + 2 * i + j : Nat) : Int)
set_option maxHeartbeats 2000000 in
theorem mark45 (B : Nat) (a : Option Addr) (n c : Nat) (F : Nat → Nat → Int) (k : Nat) (w : World) (hn : n ≤ 1048576) (hk : k ≤ 70000000000000) (hQ : VOwn B 107 2 w (.slice a n c) n (intF F)) :
  Calls Tryz.prog 57 #[.slice a n c, .int .i64 (k : Int)] w fun e w' => e = .returned (.int .i64 ((k + 2 * n : Nat) : Int)) ∧ VOwn B 107 2 w' (.slice a n c) n (intF (ptM k)) ∧ Fr (fun b => (Value.slice a n c).ownBlock = some b) w w' := by
 have HQ : Hid (VOwn B 107 2 w (.slice a n c) n (intF F)) := hQ
 clear hQ
 go_enter Tryz.func57, Tryz.ntmps57
 go_wp2_with fail
 go_loopw [1, 5] (fun l i wr => ∃ q : Nat, q ≤ n ∧ i = .int .i64 (q : Int) ∧ l = .int .i64 ((k + 2 * q : Nat) : Int) ∧ Hid (VOwn B 107 2 wr (.slice a n c) n (intF fun i j => if i < q then ptM k i j else F i j) ∧ Fr (fun b => (Value.slice a n c).ownBlock = some b) w wr)) (fun _ i _ => n - (intOf i).toNat)
 case atStart => exact ⟨0, Nat.zero_le _, rfl, rfl, HQ.out.congr fun j _ _ _ => by simp [intF], Fr.refl _ _⟩
 case round =>
  obtain ⟨q, hq, rfl, rfl, M⟩ := hrel
  by_cases hlt : q < n
  ·
   obtain ⟨g, ha, _, _⟩ := M.out.1.addr (by omega)
   subst ha
   have hq0 : (0 : Int) ≤ (q : Int) := by omega
   have hqn : (q : Int) < (n : Int) := by omega
   have S1 := M.out.1.store hlt (j := 0) (by omega) (.int .i64 ((k + 2 * q : Nat) : Int))
   have S2 := S1.store hlt (j := 1) (by omega) (.int .i64 ((k + 2 * q + 1 : Nat) : Int))
   have d0 := M.out.1.cell hlt (j := 0) (by omega)
   have d1 := M.out.1.free (q * 2)
   have e0 := M.out.1.cell hlt (j := 1) (by omega)
   have e1 := M.out.1.free (q * 2 + 1)
   rw [Nat.add_zero] at d0 S2
   have M2 : Hid (VOwn B 107 2 ((wr.setCell ⟨g, q * 2, none⟩ (.int .i64 ((k + 2 * q : Nat) : Int))).setCell ⟨g, q * 2 + 1, none⟩ (.int .i64 ((k + 2 * q + 1 : Nat) : Int))) (.slice (some ⟨g, 0, none⟩) n c) n (intF fun i j => if i < q + 1 then ptM k i j else F i j) ∧ Fr (fun b => (Value.slice (some ⟨g, 0, none⟩) n c).ownBlock = some b) w ((wr.setCell ⟨g, q * 2, none⟩ (.int .i64 ((k + 2 * q : Nat) : Int))).setCell ⟨g, q * 2 + 1, none⟩ (.int .i64 ((k + 2 * q + 1 : Nat) : Int)))) := by
    refine ⟨S2.congr fun i hi j hj => ?_, (M.out.2.cells rfl _ _).cells rfl _ _⟩
    unfold upd
    by_cases e : i = q
    ·
     subst e
     rcases (show j = 0 ∨ j = 1 by omega) with rfl | rfl
     ·
      simp [intF, ptM]
     ·
      simp [intF, ptM]
    ·
     have h1 : (i < q + 1) = (i < q) := by simp; omega
     simp [intF, e, h1]
   clear M S1 S2
   go_wp2_with fail
   go_roundw
   case rel => exact ⟨q + 1, by omega, by go_num, by go_num, M2⟩
   case measure => simp [intOf]; omega
  ·
   have hge : ¬ ((q : Int) < (n : Int)) := by omega
   have hqn : q = n := by omega
   have HR : Hid (VOwn B 107 2 wr (.slice a n c) n (intF (ptM k)) ∧ Fr (fun b => (Value.slice a n c).ownBlock = some b) w wr) := by
    refine ⟨M.out.1.congr fun j hj _ _ => ?_, M.out.2⟩
    have hjq : j < q := by omega
    simp [intF, hjq]
   clear M
   go_wp2_with fail
   go_ret
   exact ⟨by first | rfl | (rw [hqn]; rfl), HR.out⟩
end Go.Proofs.YtlgapgajgpilgaaGreatDoor
namespace Go.Proofs.YtlgapgajgpilgaaGreatDoor
open Go.RowKit Go.Lib
def mkI (k : Nat) (j : Nat) : Int := ((k + j : Nat) : Int)
set_option maxHeartbeats 2000000 in
theorem mark20 (B : Nat) (a : Option Addr) (n c : Nat) (F : Nat → Int) (k : Nat) (w : World) (hn : n ≤ 1048576) (hk : k ≤ 100000000000000) (hQ : VOwn B 3 1 w (.slice a n c) n (oneF F)) :
  Calls Tryz.prog 20 #[.slice a n c, .int .i64 (k : Int)] w fun e w' => e = .returned (.int .i64 ((k + n : Nat) : Int)) ∧ VOwn B 3 1 w' (.slice a n c) n (oneF (mkI k)) ∧ Fr (fun b => (Value.slice a n c).ownBlock = some b) w w' := by
 have HQ : Hid (VOwn B 3 1 w (.slice a n c) n (oneF F)) := hQ
 clear hQ
 go_enter Tryz.func20, Tryz.ntmps20
 go_wp2_with fail
 go_loopw [1, 5] (fun l i wr => ∃ q : Nat, q ≤ n ∧ i = .int .i64 (q : Int) ∧ l = .int .i64 ((k + q : Nat) : Int) ∧ Hid (VOwn B 3 1 wr (.slice a n c) n (oneF fun j => if j < q then mkI k j else F j) ∧ Fr (fun b => (Value.slice a n c).ownBlock = some b) w wr)) (fun _ i _ => n - (intOf i).toNat)
 case atStart => exact ⟨0, Nat.zero_le _, rfl, rfl, HQ.out.congr fun j _ _ _ => by simp [oneF], Fr.refl _ _⟩
 case round =>
  obtain ⟨q, hq, rfl, rfl, M⟩ := hrel
  by_cases hlt : q < n
  ·
   obtain ⟨g, ha, _, _⟩ := M.out.1.addr (by omega)
   subst ha
   have hq0 : (0 : Int) ≤ (q : Int) := by omega
   have hqn : (q : Int) < (n : Int) := by omega
   have d0 : wr.cell? ⟨g, q, none⟩ = some (.int .i64 (if q < q then mkI k q else F q)) := by have := M.out.1.cell hlt (j := 0) (by omega); rwa [Nat.mul_one] at this
   have d1 := M.out.1.free q
   have M2 : Hid (VOwn B 3 1 (wr.setCell ⟨g, q, none⟩ (.int .i64 ((k + q : Nat) : Int))) (.slice (some ⟨g, 0, none⟩) n c) n (oneF fun j => if j < q + 1 then mkI k j else F j) ∧ Fr (fun b => (Value.slice (some ⟨g, 0, none⟩) n c).ownBlock = some b) w (wr.setCell ⟨g, q, none⟩ (.int .i64 ((k + q : Nat) : Int)))) := by
    refine ⟨M.out.1.store1 hlt _ fun j hj => ?_, M.out.2.cells rfl _ _⟩
    unfold upd
    by_cases e : j = q
    ·
     subst e
     simp [oneF, mkI]
    ·
     have h1 : (j < q + 1) = (j < q) := by simp; omega
     simp [oneF, e, h1]
   clear M
   go_wp2_with fail
   go_roundw
   case rel => exact ⟨q + 1, by omega, by go_num, by go_num, M2⟩
   case measure => simp [intOf]; omega
  ·
   have hge : ¬ ((q : Int) < (n : Int)) := by omega
   have hqn : q = n := by omega
   have HR : Hid (VOwn B 3 1 wr (.slice a n c) n (oneF (mkI k)) ∧ Fr (fun b => (Value.slice a n c).ownBlock = some b) w wr) := by
    refine ⟨M.out.1.congr fun j hj _ _ => ?_, M.out.2⟩
    have hjq : j < q := by omega
    simp [oneF, hjq]
   clear M
   go_wp2_with fail
   go_ret
   exact ⟨by first | rfl | (rw [hqn]; rfl), HR.out⟩
set_option maxHeartbeats 2000000 in
theorem held21 (a : Option Addr) (n c : Nat) (k : Nat) (w : World) (hn : n ≤ 1048576) (hk : k ≤ 100000000000000) (hQ : VsAt 1 0 w a n (oneF (mkI k))) :
  Calls Tryz.prog 21 #[.slice a n c, .int .i64 (k : Int)] w fun e w' => e = .returned (.int .i64 ((k + n : Nat) : Int)) ∧ w' = w := by
 have H : Hid (VsAt 1 0 w a n (oneF (mkI k))) := hQ
 clear hQ
 go_enter Tryz.func21, Tryz.ntmps21
 go_wp2_with fail
 go_loop [1, 5] (fun l i => ∃ q : Nat, q ≤ n ∧ i = .int .i64 (q : Int) ∧ l = .int .i64 ((k + q : Nat) : Int)) (fun _ i => n - (intOf i).toNat)
 case atStart => exact ⟨0, Nat.zero_le _, rfl, rfl⟩
 case round =>
  obtain ⟨q, hq, rfl, rfl⟩ := hrel
  by_cases hlt : q < n
  ·
   obtain ⟨b, off, rfl, _, hb, hc⟩ := H.out (by omega)
   have c0 : w.cell? ⟨b, off + q, none⟩ = some (.int .i64 ((k + q : Nat) : Int)) := by have := hc q hlt 0 (by omega); rwa [Nat.mul_one] at this
   have hk0 : (0 : Int) ≤ (q : Int) := by omega
   have hkn : (q : Int) < (n : Int) := by omega
   clear hc
   go_wp2_with fail
   go_round
   case rel => exact ⟨q + 1, by omega, by go_num, by go_num⟩
   case measure => simp [intOf]; omega
  ·
   have hge : ¬ ((q : Int) < (n : Int)) := by omega
   have hqn : q = n := by omega
   go_wp2_with fail
   go_ret
   exact ⟨by first | rfl | (rw [hqn]; rfl), rfl⟩
end Go.Proofs.YtlgapgajgpilgaaGreatDoor
namespace Go.Proofs.YtlgapgajgpilgaaGreatDoor
open Go.RowKit
def mkH (y : Hl) (k : Nat) : Hl := ⟨(k : Int), ((k + 1 : Nat) : Int), y.nb, fun j => trM ((k + 2 + j : Nat) : Int), trM ((k + 2 + y.nb : Nat) : Int), ((k + 2 + y.nb + 1 : Nat) : Int)⟩
def kAt (Y : Nat → Hl) (k : Nat) : Nat → Nat
 | 0 => k
 | q + 1 => kAt Y k q + 2 + (Y q).nb + 1 + 1
def mkY (Y : Nat → Hl) (k i : Nat) : Hl := mkH (Y i) (kAt Y k i)
def mixY (Y : Nat → Hl) (k q i : Nat) : Hl := if i < q then mkY Y k i else Y i
theorem mixY_nb (Y : Nat → Hl) (k q i : Nat) : (mixY Y k q i).nb = (Y i).nb := by
 unfold mixY mkY mkH
 split <;> rfl
theorem mixY_ne (Y : Nat → Hl) (k : Nat) {q i : Nat} (h : i ≠ q) : mixY Y k (q + 1) i = mixY Y k q i := by
 unfold mixY
 by_cases c : i < q
 ·
  rw [if_pos c, if_pos (by omega)]
 ·
  rw [if_neg c, if_neg (by omega)]
theorem kAt_le (Y : Nat → Hl) (k : Nat) {n : Nat} (h : ∀ i, i < n → (Y i).nb ≤ 1048576) : ∀ q, q ≤ n → kAt Y k q ≤ k + q * 1048580
 | 0, _ => by simp [kAt]
 | q + 1, hq => by
  have h1 := kAt_le Y k h q (by omega)
  have h2 := h q (by omega)
  simp only [kAt]
  omega
theorem HsOwn.by2 {B : Nat} {w w' : World} {v : Value} {n : Nat} {Y : Nat → Hl} {r : Nat → Nat} (h : HsOwn B w v n Y r) (hk : ∀ b cur, Box w b 4 cur → w'.heap[b]? = w.heap[b]?) (ho : VOwn B 109 5 w' v n (hlF Y r)) : HsOwn B w' v n Y r :=
 ⟨ho, fun i hi => ⟨(h.row i hi).1.by_ hk, (h.row i hi).2⟩, h.inj⟩
set_option maxRecDepth 100000 in
set_option maxHeartbeats 8000000 in
theorem mark46 (B : Nat) (a : Option Addr) (n c : Nat) (Y : Nat → Hl) (r : Nat → Nat) (k : Nat) (w : World) (hn : n ≤ 1048576) (hk : k ≤ 70000000000000) (hL : ∀ i, i < n → (Y i).nb ≤ 1048576) (hQ : HsOwn B w (.slice a n c) n Y r) :
  Calls Tryz.prog 58 #[.slice a n c, .int .i64 (k : Int)] w fun e w' => e = .returned (.int .i64 ((kAt Y k n : Nat) : Int)) ∧ HsOwn B w' (.slice a n c) n (mkY Y k) r ∧ Fr (fun b => (Value.slice a n c).ownBlock = some b ∨ ∃ i, i < n ∧ b = r i) w w' := by
 have HQ : Hid (HsOwn B w (.slice a n c) n Y r) := hQ
 have HL : Hid (∀ i, i < n → (Y i).nb ≤ 1048576) := hL
 clear hQ hL
 go_enter Tryz.func58, Tryz.ntmps58
 go_wp2_with fail
 go_loopw [1, 5] (fun l i wr => ∃ q : Nat, q ≤ n ∧ i = .int .i64 (q : Int) ∧ l = .int .i64 ((kAt Y k q : Nat) : Int) ∧ Hid (HsOwn B wr (.slice a n c) n (mixY Y k q) r ∧ Fr (fun b => (Value.slice a n c).ownBlock = some b ∨ ∃ i, i < n ∧ b = r i) w wr)) (fun _ i _ => n - (intOf i).toNat)
 case atStart => exact ⟨0, Nat.zero_le _, rfl, rfl, HQ.out, Fr.refl _ _⟩
 case round =>
  obtain ⟨q, hq, rfl, rfl, M⟩ := hrel
  by_cases hlt : q < n
  ·
   obtain ⟨g, ha, hBg, _⟩ := M.out.1.own.addr (by omega)
   subst ha
   have hq0 : (0 : Int) ≤ (q : Int) := by omega
   have hqn : (q : Int) < (n : Int) := by omega
   have hkq := kAt_le Y k HL.out q (by omega)
   have hnb := HL.out q hlt
   obtain ⟨x, hx⟩ : ∃ x, Hid (kAt Y k q = x) := ⟨_, rfl⟩
   rw [hx.out] at hkq
   rw [hx.out]
   obtain ⟨m, hm⟩ : ∃ m, Hid ((Y q).nb = m) := ⟨_, rfl⟩
   rw [hm.out] at hnb
   have mixq : mixY Y k q q = Y q := if_neg (Nat.lt_irrefl _)
   have hrow := (M.out.1.row q hlt)
   rw [mixq, hm.out] at hrow
   have T0 := M.out.1.own
   have T1 := T0.store hlt (j := 0) (by omega) (.int .i64 (x : Int))
   rw [Nat.add_zero] at T1
   have T2 := T1.store hlt (j := 1) (by omega) (.int .i64 ((x + 1 : Nat) : Int))
   have bx : ∃ cur, Box wr g 109 cur := T0.box rfl
   obtain ⟨cur, hbx⟩ := bx
   have K : ∀ (u v : Value) b cu, Box wr b 4 cu → ((wr.setCell ⟨g, q * 5, none⟩ u).setCell ⟨g, q * 5 + 1, none⟩ v).heap[b]? = wr.heap[b]? := fun u v b cu hb => by
    have hne : b ≠ g := hb.ne hbx (by decide)
    rw [Below.heap_setCell _ _ _ _ hne, Below.heap_setCell _ _ _ _ hne]
   have hr2 := hrow.1.by_ (K (.int .i64 (x : Int)) (.int .i64 ((x + 1 : Nat) : Int)))
   have HM44 : Hid (Calls Tryz.prog 56 #[.slice (some ⟨r q, 0, none⟩) m m, .int .i64 ((x + 2 : Nat) : Int)] ((wr.setCell ⟨g, q * 5, none⟩ (.int .i64 (x : Int))).setCell ⟨g, q * 5 + 1, none⟩ (.int .i64 ((x + 1 : Nat) : Int))) fun e w' => e = .returned (.int .i64 ((x + 2 + m : Nat) : Int)) ∧
     (∃ cur, Box w' g 109 cur) ∧ w'.cell? ⟨g, q * 5 + 3, none⟩ = some (.bool (Y q).shown) ∧ w'.frozen? ⟨g, q * 5 + 3, none⟩ = false ∧ w'.cell? ⟨g, q * 5 + 4, none⟩ = some (.int .i64 (Y q).timer) ∧ w'.frozen? ⟨g, q * 5 + 4, none⟩ = false ∧
     HsOwn B ((w'.setCell ⟨g, q * 5 + 3, none⟩ (.bool (trM ((x + 2 + m : Nat) : Int)))).setCell ⟨g, q * 5 + 4, none⟩ (.int .i64 ((x + 2 + m + 1 : Nat) : Int))) (.slice (some ⟨g, 0, none⟩) n c) n (mixY Y k (q + 1)) r ∧ Fr (fun b => (Value.slice (some ⟨g, 0, none⟩) n c).ownBlock = some b ∨ ∃ i, i < n ∧ b = r i) w ((w'.setCell ⟨g, q * 5 + 3, none⟩ (.bool (trM ((x + 2 + m : Nat) : Int)))).setCell ⟨g, q * 5 + 4, none⟩ (.int .i64 ((x + 2 + m + 1 : Nat) : Int)))) := by
    refine (mark44 (r q) (some ⟨r q, 0, none⟩) m m (Y q).B (x + 2) _ hnb (by omega) hr2).mono ?_
    rintro e w' ⟨he, hv, hf⟩
    have T3 : VOwn B 109 5 w' (.slice (some ⟨g, 0, none⟩) n c) n _ := T2.by_ fun b cu hb => hf.block b hb.lt fun e => by
     have e' := own_block e
     obtain ⟨c4, hc4⟩ := hr2.box (g := r q) rfl
     exact hb.ne hc4 (by decide) e'
    have T4 := T3.store hlt (j := 3) (by omega) (.bool (trM ((x + 2 + m : Nat) : Int)))
    have T5 := T4.store hlt (j := 4) (by omega) (.int .i64 ((x + 2 + m + 1 : Nat) : Int))
    obtain ⟨c5, hb5⟩ := T3.box (g := g) rfl
    have K2 : ∀ (u v : Value) b cu, Box w' b 4 cu → ((w'.setCell ⟨g, q * 5 + 3, none⟩ u).setCell ⟨g, q * 5 + 4, none⟩ v).heap[b]? = w'.heap[b]? := fun u v b cu hb => by
     have hne : b ≠ g := hb.ne hb5 (by decide)
     rw [Below.heap_setCell _ _ _ _ hne, Below.heap_setCell _ _ _ _ hne]
    have d3 := T3.cell hlt (j := 3) (by omega)
    have d4 := T3.cell hlt (j := 4) (by omega)
    refine ⟨he, ⟨c5, hb5⟩, ?_, T3.free _, ?_, T3.free _, ⟨T5.congr fun i hi j hj => ?_, fun i hi => ⟨?_, (M.out.1.row i hi).2⟩, M.out.1.inj⟩, ?_⟩
    ·
     rw [d3]
     simp [upd, hlF, mixq]
    ·
     rw [d4]
     simp [upd, hlF, mixq]
    ·
     unfold upd
     by_cases e : i = q
     ·
      subst e
      have e1 : mixY Y k (i + 1) i = mkH (Y i) x := by rw [mixY, if_pos (by omega), mkY, hx.out]
      rcases (show j = 0 ∨ j = 1 ∨ j = 2 ∨ j = 3 ∨ j = 4 by omega) with rfl | rfl | rfl | rfl | rfl <;> simp [hlF, e1, mkH, mixq, hm.out]
     ·
      have e1 : mixY Y k (q + 1) i = mixY Y k q i := mixY_ne Y k e
      simp [e, hlF, e1]
    ·
     by_cases e : i = q
     ·
      subst e
      have e1 : mixY Y k (i + 1) i = mkH (Y i) x := by rw [mixY, if_pos (by omega), mkY, hx.out]
      rw [e1]
      have := hv.by_ (K2 (.bool (trM ((x + 2 + m : Nat) : Int))) (.int .i64 ((x + 2 + m + 1 : Nat) : Int)))
      show VOwn (r i) 4 1 _ (.slice (some ⟨r i, 0, none⟩) (Y i).nb (Y i).nb) (Y i).nb _
      rw [hm.out]
      exact this
     ·
      have e1 : mixY Y k (q + 1) i = mixY Y k q i := mixY_ne Y k e
      rw [e1]
      have h1 := (M.out.1.row i hi).1.by_ (K (.int .i64 (x : Int)) (.int .i64 ((x + 1 : Nat) : Int)))
      have h2 := h1.fr hf fun g' e' e'' => by
       have a1 := own_block e'
       have a2 := own_block e''
       exact e (M.out.1.inj i hi q hlt (by omega))
      exact h2.by_ (K2 _ _)
    ·
     have hf2 : Fr (fun b => (Value.slice (some ⟨g, 0, none⟩) n c).ownBlock = some b ∨ ∃ i, i < n ∧ b = r i) ((wr.setCell ⟨g, q * 5, none⟩ (.int .i64 (x : Int))).setCell ⟨g, q * 5 + 1, none⟩ (.int .i64 ((x + 1 : Nat) : Int))) w' := hf.mono fun b _ e => .inr ⟨q, hlt, own_block e⟩
     exact ((((M.out.2.cells (.inl rfl) _ _).cells (.inl rfl) _ _).trans hf2).cells (.inl rfl) _ _).cells (.inl rfl) _ _
   have d0 : wr.cell? ⟨g, q * 5, none⟩ = some (.int .i64 (Y q).st) := by have := T0.cell hlt (j := 0) (by omega); simpa [hlF, mixq] using this
   have d1 : wr.cell? ⟨g, q * 5 + 1, none⟩ = some (.int .i64 (Y q).gone) := by have := T0.cell hlt (j := 1) (by omega); simpa [hlF, mixq] using this
   have d2 : wr.cell? ⟨g, q * 5 + 2, none⟩ = some (.slice (some ⟨r q, 0, none⟩) m m) := by have := T0.cell hlt (j := 2) (by omega); simpa [hlF, mixq, hm.out] using this
   have f0 := T0.free (q * 5)
   have f1 := T0.free (q * 5 + 1)
   have HX : Hid (kAt Y k (q + 1) = x + 2 + m + 1 + 1) := by show kAt Y k q + 2 + (Y q).nb + 1 + 1 = _; rw [hx.out, hm.out]
   clear M hrow T0 T1 T2 hbx K hr2 mixq
   go_wp2_with fail
   refine HM44.out.mono ?_
   rintro e w' ⟨rfl, _, c3, f3, c4, f4, hH, hF⟩
   have M2 : Hid (HsOwn B ((w'.setCell ⟨g, q * 5 + 3, none⟩ (.bool (trM ((x + 2 + m : Nat) : Int)))).setCell ⟨g, q * 5 + 4, none⟩ (.int .i64 ((x + 2 + m + 1 : Nat) : Int))) (.slice (some ⟨g, 0, none⟩) n c) n (mixY Y k (q + 1)) r ∧ Fr (fun b => (Value.slice (some ⟨g, 0, none⟩) n c).ownBlock = some b ∨ ∃ i, i < n ∧ b = r i) w ((w'.setCell ⟨g, q * 5 + 3, none⟩ (.bool (trM ((x + 2 + m : Nat) : Int)))).setCell ⟨g, q * 5 + 4, none⟩ (.int .i64 ((x + 2 + m + 1 : Nat) : Int)))) := ⟨hH, hF⟩
   clear HM44 hH hF
   go_wp2_with fail
   go_roundw
   case rel => exact ⟨q + 1, by omega, by go_num, by rw [HX.out]; go_num, M2⟩
   case measure => simp [intOf]; omega
  ·
   have hge : ¬ ((q : Int) < (n : Int)) := by omega
   have hqn : q = n := by omega
   have HR : Hid (HsOwn B wr (.slice a n c) n (mkY Y k) r ∧ Fr (fun b => (Value.slice a n c).ownBlock = some b ∨ ∃ i, i < n ∧ b = r i) w wr) := by
    obtain ⟨h1, h2, h3⟩ := M.out.1
    have e : ∀ i, i < n → mixY Y k q i = mkY Y k i := fun i hi => if_pos (by omega)
    refine ⟨⟨h1.congr fun i hi j _ => by simp only [hlF, e i hi], fun i hi => ?_, h3⟩, M.out.2⟩
    have := h2 i hi
    rw [e i hi] at this
    exact this
   have HK : Hid (kAt Y k q = kAt Y k n) := congrArg (kAt Y k) hqn
   clear M
   go_wp2_with fail
   go_ret
   exact ⟨by first | rfl | (rw [← HK.out]; rfl), HR.out⟩
end Go.Proofs.YtlgapgajgpilgaaGreatDoor
namespace Go.Proofs.YtlgapgajgpilgaaGreatDoor
open Go.RowKit
def mkF (f : Fm) (k : Nat) : Fm := ⟨f.ok, f.no, fun j => trM ((k + j : Nat) : Int), f.np, ptM (k + f.no), f.nh, mkY f.Y (k + f.no + 2 * f.np)⟩
def kEnd (f : Fm) (k : Nat) : Nat := kAt f.Y (k + f.no + 2 * f.np) f.nh
set_option maxRecDepth 100000 in
set_option maxHeartbeats 4000000 in
theorem mark16 (B : Nat) (f : Fm) (oa pa ha : Option Addr) (oc pc hc : Nat) (r : Nat → Nat) (k0 : Nat) (w : World) (hk0 : k0 ≤ 60000000000000) (hs : f.small) (_hB : B ≤ w.heap.size) (h : FmOwn B w f (.slice oa f.no oc) (.slice pa f.np pc) (.slice ha f.nh hc) r) :
  Calls Tryz.prog 19 #[.agg #[.bool f.ok, .slice oa f.no oc, .slice pa f.np pc, .slice ha f.nh hc], .int .i64 (k0 : Int)] w fun e w' => e = .returned (.int .i64 ((kEnd f k0 : Nat) : Int)) ∧ FmOwn B w' (mkF f k0) (.slice oa f.no oc) (.slice pa f.np pc) (.slice ha f.nh hc) r ∧ Fr (fun b => B ≤ b) w w' ∧ (∀ b T cur, Box w b T cur → T ≠ 4 → T ≠ 107 → T ≠ 109 → Box w' b T cur) := by
 obtain ⟨s1, s2, s3, s4⟩ := hs
 have HS : Hid (∀ i, i < f.nh → (f.Y i).nb ≤ 1048576) := s4
 have M0 : Hid (∃ w0, w0 = w.alloc (.cells #[.bool f.ok, .slice oa f.no oc, .slice pa f.np pc, .slice ha f.nh hc] 42) ∧ Box w0 w.heap.size 42 #[.bool f.ok, .slice oa f.no oc, .slice pa f.np pc, .slice ha f.nh hc] ∧ FmOwn B w0 f (.slice oa f.no oc) (.slice pa f.np pc) (.slice ha f.nh hc) r ∧ Fr (fun b => B ≤ b) w w0 ∧ (∀ b T cur, Box w b T cur → T ≠ 4 → T ≠ 107 → T ≠ 109 → Box w0 b T cur)) := ⟨_, rfl, Box.new w 42 _, h.mono nr (bel1 _ _) nr, Fr.of_below (bel1 _ _), fun b T cur hb _ _ _ => hb.alloc _⟩
 clear h s4
 go_enter Tryz.func19, Tryz.ntmps19
 go_wp2_with fail
 obtain ⟨w0, hw0, k1, k2, k3, kt⟩ := M0.out
 rw [← hw0]
 clear hw0 M0
 refine (mark44 B oa f.no oc f.O k0 w0 s1 (by omega) k2.o).mono ?_
 rintro e w1 ⟨rfl, hv1, hf1⟩
 have M1 : Hid (Box w1 w.heap.size 42 #[.bool f.ok, .slice oa f.no oc, .slice pa f.np pc, .slice ha f.nh hc] ∧ VOwn B 4 1 w1 (.slice oa f.no oc) f.no (boolF fun j => trM ((k0 + j : Nat) : Int)) ∧ VOwn B 107 2 w1 (.slice pa f.np pc) f.np (intF f.P) ∧ HsOwn B w1 (.slice ha f.nh hc) f.nh f.Y r ∧ (∀ g, (Value.slice oa f.no oc).ownBlock = some g → ∀ i, i < f.nh → r i ≠ g) ∧ Fr (fun b => B ≤ b) w w1 ∧ (∀ b T cur, Box w b T cur → T ≠ 4 → T ≠ 107 → T ≠ 109 → Box w1 b T cur)) := by
  have nb : ∀ {q T cur}, Box w0 q T cur → T ≠ 4 → ¬ (Value.slice oa f.no oc).ownBlock = some q := fun hb hT e => k2.o.off hb hT e rfl
  refine ⟨k1.fr hf1 (nb k1 (by decide)), hv1, k2.p.by_ fun b cur hb => hf1.block b hb.lt (nb hb (by decide)), ⟨k2.h.own.by_ fun b cur hb => hf1.block b hb.lt (nb hb (by decide)), fun i hi => ⟨(k2.h.row i hi).1.fr hf1 fun g e e' => ?_, (k2.h.row i hi).2⟩, k2.h.inj⟩, k2.ne, k3.trans (hf1.mono fun b _ e => (k2.o.lt e).1), fun b T cur hb h1 h2 h3 => (kt b T cur hb h1 h2 h3).fr hf1 (nb (kt b T cur hb h1 h2 h3) h1)⟩
  have := own_block e
  exact k2.ne g e' i hi (by omega)
 have a2 := M1.out.1.cel 2
 obtain ⟨x1, hx1⟩ : ∃ x, Hid (k0 + f.no = x) := ⟨_, rfl⟩
 have hb1 : x1 ≤ 60000001048576 := by have := hx1.out; omega
 rw [hx1.out]
 clear k1 k2 k3 kt hv1 hf1
 go_wp2_with fail
 clear a2
 obtain ⟨k1, k2, k3, k4, k5, k6, kt⟩ := M1.out
 clear M1
 refine (mark45 B pa f.np pc f.P x1 w1 s2 (by omega) k3).mono ?_
 rintro e w2 ⟨rfl, hv1, hf1⟩
 have M2 : Hid (Box w2 w.heap.size 42 #[.bool f.ok, .slice oa f.no oc, .slice pa f.np pc, .slice ha f.nh hc] ∧ VOwn B 4 1 w2 (.slice oa f.no oc) f.no (boolF fun j => trM ((k0 + j : Nat) : Int)) ∧ VOwn B 107 2 w2 (.slice pa f.np pc) f.np (intF (ptM x1)) ∧ HsOwn B w2 (.slice ha f.nh hc) f.nh f.Y r ∧ (∀ g, (Value.slice oa f.no oc).ownBlock = some g → ∀ i, i < f.nh → r i ≠ g) ∧ Fr (fun b => B ≤ b) w w2 ∧ (∀ b T cur, Box w b T cur → T ≠ 4 → T ≠ 107 → T ≠ 109 → Box w2 b T cur)) := by
  have nb : ∀ {q T cur}, Box w1 q T cur → T ≠ 107 → ¬ (Value.slice pa f.np pc).ownBlock = some q := fun hb hT e => k3.off hb hT e rfl
  exact ⟨k1.fr hf1 (nb k1 (by decide)), k2.by_ fun b cur hb => hf1.block b hb.lt (nb hb (by decide)), hv1, k4.by_ fun b T cur hb hT => hf1.block b hb.lt (nb hb (by rcases hT with rfl | rfl <;> decide)), k5, k6.trans (hf1.mono fun b _ e => (k3.lt e).1), fun b T cur hb h1 h2 h3 => (kt b T cur hb h1 h2 h3).fr hf1 (nb (kt b T cur hb h1 h2 h3) h2)⟩
 have a3 := M2.out.1.cel 3
 obtain ⟨x2, hx2⟩ : ∃ x, Hid (x1 + 2 * f.np = x) := ⟨_, rfl⟩
 have hb2 : x2 ≤ 60000003145728 := by have := hx2.out; omega
 rw [hx2.out]
 clear k1 k2 k3 k4 k5 k6 kt hv1 hf1
 go_wp2_with fail
 clear a3
 obtain ⟨k1, k2, k3, k4, k5, k6, kt⟩ := M2.out
 clear M2
 refine (mark46 B ha f.nh hc f.Y r x2 w2 s3 (by omega) HS.out k4).mono ?_
 rintro e w3 ⟨rfl, hv1, hf1⟩
 have M3 : Hid (FmOwn B w3 (mkF f k0) (.slice oa f.no oc) (.slice pa f.np pc) (.slice ha f.nh hc) r ∧ Fr (fun b => B ≤ b) w w3 ∧ (∀ b T cur, Box w b T cur → T ≠ 4 → T ≠ 107 → T ≠ 109 → Box w3 b T cur)) := by
  have nb : ∀ {q T cur}, Box w2 q T cur → T ≠ 109 → T ≠ 4 → ¬ ((Value.slice ha f.nh hc).ownBlock = some q ∨ ∃ i, i < f.nh ∧ q = r i) := fun hb hT hT4 e => by
   rcases e with e | ⟨i, hi, rfl⟩
   ·
    exact k4.own.off hb hT e rfl
   ·
    obtain ⟨c4, hc4⟩ := (k4.row i hi).1.box (g := r i) rfl
    exact hb.ne hc4 hT4 rfl
  have e1 : mkF f k0 = ⟨f.ok, f.no, fun j => trM ((k0 + j : Nat) : Int), f.np, ptM x1, f.nh, mkY f.Y x2⟩ := by rw [mkF, hx1.out, hx2.out]
  rw [e1]
  refine ⟨⟨k2.fr hf1 fun g e e' => ?_, k3.by_ fun b cur hb => hf1.block b hb.lt (nb hb (by decide) (by decide)), hv1, k5⟩, k6.trans (hf1.mono fun b _ e => ?_), fun b T cur hb h1 h2 h3 => (kt b T cur hb h1 h2 h3).fr hf1 (nb (kt b T cur hb h1 h2 h3) h3 h1)⟩
  ·
   rcases e' with e' | ⟨i, hi, rfl⟩
   ·
    obtain ⟨c4, hc4⟩ := k2.box e
    exact k4.own.off hc4 (by decide) e' rfl
   ·
    exact k5 (r i) e i hi rfl
  ·
   rcases e with e | ⟨i, hi, rfl⟩
   ·
    exact (k4.own.lt e).1
   ·
    exact (k4.row i hi).2
 have HK : Hid (kAt f.Y x2 f.nh = kEnd f k0) := by rw [Hid, kEnd, hx1.out, hx2.out]
 rw [HK.out]
 clear k1 k2 k3 k4 k5 k6 kt hv1 hf1
 go_wp2_with fail
 go_ret
 exact ⟨rfl, M3.out⟩
end Go.Proofs.YtlgapgajgpilgaaGreatDoor
namespace Go.Proofs.YtlgapgajgpilgaaGreatDoor
open Go.RowKit
structure Mk (w w' : World) : Prop where
 shape : ∀ b T cur, Box w b T cur → ∃ cur', Box w' b T cur' ∧ cur'.size = cur.size ∧ (T = 3 ∨ T = 133 ∨ T = 4 ∨ cur' = cur)
theorem Mk.refl (w : World) : Mk w w := ⟨fun _b _T cur h => ⟨cur, h, rfl, .inr (.inr (.inr rfl))⟩⟩
theorem Mk.trans {a b c : World} (h : Mk a b) (k : Mk b c) : Mk a c := ⟨fun x T cur hx => by
 obtain ⟨c1, h1, h2, h3⟩ := h.shape x T cur hx
 obtain ⟨c2, k1, k2, k3⟩ := k.shape x T c1 h1
 refine ⟨c2, k1, by omega, ?_⟩
 rcases k3 with k3 | k3 | k3 | k3
 ·
  exact .inl k3
 ·
  exact .inr (.inl k3)
 ·
  exact .inr (.inr (.inl k3))
 ·
  rcases h3 with h3 | h3 | h3 | h3
  ·
   exact .inl h3
  ·
   exact .inr (.inl h3)
  ·
   exact .inr (.inr (.inl h3))
  ·
   exact .inr (.inr (.inr (by rw [k3, h3])))⟩
theorem Mk.of_below {w w' : World} (h : Below w.heap.size w w') : Mk w w' := ⟨fun _b _T cur hb => ⟨cur, hb.mono h nr, rfl, .inr (.inr (.inr rfl))⟩⟩
theorem Mk.set {w w' : World} (h : Mk w w') {g : Nat} {T : TypeId} {cu : Array Value} (hg : Box w' g T cu) (hT : T = 3 ∨ T = 133 ∨ T = 4) (j : Nat) (v : Value) : Mk w (w'.setCell ⟨g, j, none⟩ v) := h.trans ⟨fun b T' cur hb => by
 by_cases e : b = g
 ·
  subst e
  refine ⟨_, hb.set j v, by simp, ?_⟩
  have a1 : w'.heap[b]? = some (.cells cu T (0, 0)) := hg
  have a2 : w'.heap[b]? = some (.cells cur T' (0, 0)) := hb
  rw [a1] at a2
  simp only [Option.some.injEq, Obj.cells.injEq] at a2
  rcases hT with rfl | rfl | rfl
  ·
   exact .inl a2.2.1.symm
  ·
   exact .inr (.inl a2.2.1.symm)
  ·
   exact .inr (.inr (.inl a2.2.1.symm))
 ·
  exact ⟨cur, hb.other (p := ⟨g, j, none⟩) e v, rfl, .inr (.inr (.inr rfl))⟩⟩
def Wd (w : World) (g : Nat) (T : TypeId) (m : Nat) : Prop := ∃ cur, Box w g T cur ∧ m ≤ cur.size
theorem Wd.mk {w w' : World} {g : Nat} {T : TypeId} {m : Nat} (h : Wd w g T m) (k : Mk w w') : Wd w' g T m := by
 obtain ⟨cur, h1, h2⟩ := h
 obtain ⟨c2, k1, k2, _⟩ := k.shape g T cur h1
 exact ⟨c2, k1, by omega⟩
theorem VOwn.wd {B : Nat} {e : TypeId} {c : Nat} {w : World} {g n : Nat} {F : Nat → Nat → Value} (h : VOwn B e c w (.slice (some ⟨g, 0, none⟩) n n) n F) : Wd w g e (n * c) := by
 rcases h with ⟨e, _⟩ | ⟨g', cap, cur, e, k1, k2, k3, k4, k5, k6⟩
 ·
  cases e
 ·
  simp only [Value.slice.injEq, Option.some.injEq, Addr.mk.injEq, and_true, true_and] at e
  obtain ⟨rfl, rfl⟩ := e
  exact ⟨cur, k2, by omega⟩
set_option maxHeartbeats 2000000 in
theorem wr41 (g n c : Nat) (k : Nat) (w : World) (hn : n ≤ 1048576) (hk : k ≤ 100000000000000) (hB : Wd w g 3 (n * 1)) :
  Calls Tryz.prog 20 #[.slice (some ⟨g, 0, none⟩) n c, .int .i64 (k : Int)] w fun e w' => e = .returned (.int .i64 ((k + n : Nat) : Int)) ∧ Mk w w' ∧ Fr (fun b => b = g) w w' := by
 have HB : Hid (Wd w g 3 (n * 1)) := hB
 clear hB
 go_enter Tryz.func20, Tryz.ntmps20
 go_wp2_with fail
 go_loopw [1, 5] (fun l i wr => ∃ q : Nat, q ≤ n ∧ i = .int .i64 (q : Int) ∧ l = .int .i64 ((k + q : Nat) : Int) ∧ Hid (Mk w wr ∧ Fr (fun b => b = g) w wr)) (fun _ i _ => n - (intOf i).toNat)
 case atStart => exact ⟨0, Nat.zero_le _, rfl, rfl, Mk.refl _, Fr.refl _ _⟩
 case round =>
  obtain ⟨q, hq, rfl, rfl, M⟩ := hrel
  by_cases hlt : q < n
  ·
   obtain ⟨cu, hb, hz⟩ := HB.out.mk M.out.1
   have hq0 : (0 : Int) ≤ (q : Int) := by omega
   have hqn : (q : Int) < (n : Int) := by omega
   obtain ⟨u, d0⟩ : ∃ u, wr.cell? ⟨g, q, none⟩ = some u := ⟨cu[q]'(by omega), by rw [hb.cell]; exact Array.getElem?_eq_getElem _⟩
   have d1 := hb.free q
   have M2 : Hid (∀ v : Value, Mk w (wr.setCell ⟨g, q, none⟩ v) ∧ Fr (fun b => b = g) w (wr.setCell ⟨g, q, none⟩ v)) := fun v => ⟨M.out.1.set hb (.inl rfl) q v, M.out.2.cells rfl _ _⟩
   clear M hb
   go_wp2_with fail
   go_roundw
   case rel => exact ⟨q + 1, by omega, by go_num, by go_num, M2.out _⟩
   case measure => simp [intOf]; omega
  ·
   have hge : ¬ ((q : Int) < (n : Int)) := by omega
   have hqn : q = n := by omega
   have HR : Hid (Mk w wr ∧ Fr (fun b => b = g) w wr) := M
   clear M
   go_wp2_with fail
   go_ret
   exact ⟨by first | rfl | (rw [hqn]; rfl), HR.out⟩
set_option maxHeartbeats 2000000 in
theorem wr66 (g n c : Nat) (k : Nat) (w : World) (hn : n ≤ 1048576) (hk : k ≤ 100000000000000) (hB : Wd w g 133 (n * 2)) :
  Calls Tryz.prog 91 #[.slice (some ⟨g, 0, none⟩) n c, .int .i64 (k : Int)] w fun e w' => e = .returned (.int .i64 ((k + 2 * n : Nat) : Int)) ∧ Mk w w' ∧ Fr (fun b => b = g) w w' := by
 have HB : Hid (Wd w g 133 (n * 2)) := hB
 clear hB
 go_enter Tryz.func91, Tryz.ntmps91
 go_wp2_with fail
 go_loopw [1, 5] (fun l i wr => ∃ q : Nat, q ≤ n ∧ i = .int .i64 (q : Int) ∧ l = .int .i64 ((k + 2 * q : Nat) : Int) ∧ Hid (Mk w wr ∧ Fr (fun b => b = g) w wr)) (fun _ i _ => n - (intOf i).toNat)
 case atStart => exact ⟨0, Nat.zero_le _, rfl, rfl, Mk.refl _, Fr.refl _ _⟩
 case round =>
  obtain ⟨q, hq, rfl, rfl, M⟩ := hrel
  by_cases hlt : q < n
  ·
   obtain ⟨cu, hb, hz⟩ := HB.out.mk M.out.1
   have hq0 : (0 : Int) ≤ (q : Int) := by omega
   have hqn : (q : Int) < (n : Int) := by omega
   obtain ⟨u, d0⟩ : ∃ u, wr.cell? ⟨g, q * 2, none⟩ = some u := ⟨cu[q * 2]'(by omega), by rw [hb.cell]; exact Array.getElem?_eq_getElem _⟩
   obtain ⟨u', e0⟩ : ∃ u, wr.cell? ⟨g, q * 2 + 1, none⟩ = some u := ⟨cu[q * 2 + 1]'(by omega), by rw [hb.cell]; exact Array.getElem?_eq_getElem _⟩
   have d1 := hb.free (q * 2)
   have e1 := hb.free (q * 2 + 1)
   have M2 : Hid (∀ v v' : Value, Mk w ((wr.setCell ⟨g, q * 2, none⟩ v).setCell ⟨g, q * 2 + 1, none⟩ v') ∧ Fr (fun b => b = g) w ((wr.setCell ⟨g, q * 2, none⟩ v).setCell ⟨g, q * 2 + 1, none⟩ v')) := fun v v' => ⟨(M.out.1.set hb (.inr (.inl rfl)) (q * 2) v).set (hb.set (q * 2) v) (.inr (.inl rfl)) (q * 2 + 1) v', (M.out.2.cells rfl _ _).cells rfl _ _⟩
   clear M hb
   go_wp2_with fail
   go_roundw
   case rel => exact ⟨q + 1, by omega, by go_num, by go_num, M2.out _ _⟩
   case measure => simp [intOf]; omega
  ·
   have hge : ¬ ((q : Int) < (n : Int)) := by omega
   have hqn : q = n := by omega
   have HR : Hid (Mk w wr ∧ Fr (fun b => b = g) w wr) := M
   clear M
   go_wp2_with fail
   go_ret
   exact ⟨by first | rfl | (rw [hqn]; rfl), HR.out⟩
set_option maxHeartbeats 2000000 in
theorem wr44 (g n c : Nat) (k : Nat) (w : World) (hn : n ≤ 1048576) (hk : k ≤ 100000000000000) (hB : Wd w g 4 (n * 1)) :
  Calls Tryz.prog 56 #[.slice (some ⟨g, 0, none⟩) n c, .int .i64 (k : Int)] w fun e w' => e = .returned (.int .i64 ((k + n : Nat) : Int)) ∧ Mk w w' ∧ Fr (fun b => b = g) w w' := by
 have HB : Hid (Wd w g 4 (n * 1)) := hB
 clear hB
 go_enter Tryz.func56, Tryz.ntmps56
 go_wp2_with fail
 go_loopw [1, 5] (fun l i wr => ∃ q : Nat, q ≤ n ∧ i = .int .i64 (q : Int) ∧ l = .int .i64 ((k + q : Nat) : Int) ∧ Hid (Mk w wr ∧ Fr (fun b => b = g) w wr)) (fun _ i _ => n - (intOf i).toNat)
 case atStart => exact ⟨0, Nat.zero_le _, rfl, rfl, Mk.refl _, Fr.refl _ _⟩
 case round =>
  obtain ⟨q, hq, rfl, rfl, M⟩ := hrel
  by_cases hlt : q < n
  ·
   obtain ⟨cu, hb, hz⟩ := HB.out.mk M.out.1
   have hq0 : (0 : Int) ≤ (q : Int) := by omega
   have hqn : (q : Int) < (n : Int) := by omega
   obtain ⟨u, d0⟩ : ∃ u, wr.cell? ⟨g, q, none⟩ = some u := ⟨cu[q]'(by omega), by rw [hb.cell]; exact Array.getElem?_eq_getElem _⟩
   have d1 := hb.free q
   have M2 : Hid (∀ v : Value, Mk w (wr.setCell ⟨g, q, none⟩ v) ∧ Fr (fun b => b = g) w (wr.setCell ⟨g, q, none⟩ v)) := fun v => ⟨M.out.1.set hb (.inr (.inr rfl)) q v, M.out.2.cells rfl _ _⟩
   clear M hb
   go_wp2_with fail
   go_roundw
   case rel => exact ⟨q + 1, by omega, by go_num, by go_num, M2.out _⟩
   case measure => simp [intOf]; omega
  ·
   have hge : ¬ ((q : Int) < (n : Int)) := by omega
   have hqn : q = n := by omega
   have HR : Hid (Mk w wr ∧ Fr (fun b => b = g) w wr) := M
   clear M
   go_wp2_with fail
   go_ret
   exact ⟨by first | rfl | (rw [hqn]; rfl), HR.out⟩
end Go.Proofs.YtlgapgajgpilgaaGreatDoor
