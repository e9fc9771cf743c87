import Derived.Test.YtlgapgajgpilgaaGreatDoorZaa
import Derived.LaidEql
import Derived.Stop.Asserts
import Derived.RowKitTokens
namespace Go.Proofs.YtlgapgajgpilgaaGreatDoor
open Go.RowKit Go.Extern.Stop Go.Stop Go.Extern
theorem isTypeOf (v : Value) (w : World) : (Extern.ReflectliteType.typeOf #[.iface 228 v]).run Tryz.prog w = .ok (.iface 193 (.agg #[.pointer (some ⟨7, 228, none⟩)])) w := by kernel_rfl
theorem isComparable (w : World) : ((Extern.ReflectliteType.method fun t => do Extern.Rtype.noPackHeld "Comparable" t; (fun a => Value.bool a.comparable) <$> typeInfo t) #[.agg #[.pointer (some ⟨7, 228, none⟩)]]).run Tryz.prog w = .ok (.bool true) w := by kernel_rfl
theorem isMethodComparable (v : Value) (w : World) : (Go.method 367 193 v "Comparable").run Tryz.prog w = .ok (196, v) w := by kernel_rfl
theorem isComp : (Tryz.prog.info? 228).map (·.comparable) = some true := by kernel_rfl
theorem isSize : (Tryz.prog.info? 255).map (·.size) = some 1 := by kernel_rfl
theorem noIsE (v : Value) (xT : TypeId) (w : World) : (Instr.typeAssert (.iface 228 v) xT 195 true).run Tryz.prog w = .ok (.tuple #[.nilIface, .bool false]) w := run_typeAssert_lacksB Tryz.underlying195 (by kernel_rfl) (by kernel_rfl) v xT w
theorem noUnwrapE (v : Value) (xT : TypeId) (w : World) : (Instr.typeAssert (.iface 228 v) xT 198 true).run Tryz.prog w = .ok (.tuple #[.nilIface, .bool false]) w := run_typeAssert_lacksB Tryz.underlying198 (by kernel_rfl) (by kernel_rfl) v xT w
theorem noUnwrapsE (v : Value) (xT : TypeId) (w : World) : (Instr.typeAssert (.iface 228 v) xT 200 true).run Tryz.prog w = .ok (.tuple #[.nilIface, .bool false]) w := run_typeAssert_lacksB Tryz.underlying200 (by kernel_rfl) (by kernel_rfl) v xT w
theorem is_same (a : Addr) (w : World) :
  Calls Tryz.prog 94 #[.iface 228 (.pointer (some a)), .iface 228 (.pointer (some a))] w fun e w' => e = .returned (.bool true) ∧ w' = w := by
 obtain ⟨i, hi, hcmp⟩ := Option.map_eq_some_iff.1 isComp
 obtain ⟨j, hj, hjs⟩ := Option.map_eq_some_iff.1 isSize
 have h8 := @run_callFunc_extern Tryz.prog 115 _ Extern.ReflectliteType.typeOf Tryz.func115 (by kernel_rfl) (by kernel_rfl) (by kernel_rfl) (by kernel_rfl)
 have h32 := @run_callFunc_extern Tryz.prog 196 _ (Extern.ReflectliteType.method fun t => do Extern.Rtype.noPackHeld "Comparable" t; pure (.bool (← typeInfo t).comparable)) Tryz.func196 (by kernel_rfl) (by kernel_rfl) (by kernel_rfl) (by kernel_rfl)
 have tT := isTypeOf
 have cT := isComparable
 have mR := isMethodComparable
 have heq := run_eql_iface_ptr_same (P := Tryz.prog) w a Tryz.underlying75 Tryz.underlying228 hi hcmp hj
 go_enter Tryz.func94, Tryz.ntmps94
 go_wp2
 refine wp_loop_rounds 1 ?_
 rw [rounds_succ]
 go_wp2
 go_ret
 exact ⟨rfl, rfl⟩
theorem is_nil (b : Addr) (w : World) :
  Calls Tryz.prog 94 #[.nilIface, .iface 228 (.pointer (some b))] w fun e w' => e = .returned (.bool false) ∧ w' = w := by
 have hn := run_eql_iface_nil_left (P := Tryz.prog) w 228 (.pointer (some b)) Tryz.underlying75
 go_enter Tryz.func94, Tryz.ntmps94
 go_wp2
 go_ret
 exact ⟨rfl, rfl⟩
theorem is_other (a b : Addr) (ca cb : Array Value) (ta tb : TypeId) (w : World) (hne : a ≠ b) (ha : w.heap[a.block]? = some (.cells ca ta (0, 0))) (hb : w.heap[b.block]? = some (.cells cb tb (0, 0))) :
  Calls Tryz.prog 94 #[.iface 228 (.pointer (some a)), .iface 228 (.pointer (some b))] w fun e w' => e = .returned (.bool false) ∧ w' = w := by
 obtain ⟨i, hi, hcmp⟩ := Option.map_eq_some_iff.1 isComp
 obtain ⟨j, hj, hjs⟩ := Option.map_eq_some_iff.1 isSize
 have h8 := @run_callFunc_extern Tryz.prog 115 _ Extern.ReflectliteType.typeOf Tryz.func115 (by kernel_rfl) (by kernel_rfl) (by kernel_rfl) (by kernel_rfl)
 have h32 := @run_callFunc_extern Tryz.prog 196 _ (Extern.ReflectliteType.method fun t => do Extern.Rtype.noPackHeld "Comparable" t; pure (.bool (← typeInfo t).comparable)) Tryz.func196 (by kernel_rfl) (by kernel_rfl) (by kernel_rfl) (by kernel_rfl)
 have tT := isTypeOf
 have cT := isComparable
 have mR := isMethodComparable
 have nE := noIsE
 have uE := noUnwrapE
 have vE := noUnwrapsE
 have heq := run_eql_iface_ptr_other (P := Tryz.prog) w Tryz.underlying75 Tryz.underlying228 hi hcmp hj (by rw [hjs]; decide) hne ha hb
 go_enter Tryz.func94, Tryz.ntmps94
 go_wp2
 refine wp_loop_rounds 1 ?_
 rw [rounds_succ]
 go_wp2
 go_ret
 exact ⟨rfl, rfl⟩
end Go.Proofs.YtlgapgajgpilgaaGreatDoor
namespace Go.Proofs.YtlgapgajgpilgaaGreatDoor
open Go.RowKit Go.Lib
def Sn (w : World) (n : Nat) (A : Nat → Addr) : Prop :=
 (∀ i, i < n → w.cell? ⟨i, 0, none⟩ = some (.iface 228 (.pointer (some (A i))))) ∧ (∀ i j, i < n → j < n → A i = A j → i = j) ∧ (∀ i, i < n → ∃ c t, w.heap[(A i).block]? = some (.cells c t (0, 0))) ∧ n ≤ w.heap.size
theorem Sn.mono {w w' : World} {n M : Nat} {A : Nat → Addr} (h : Sn w n A) (hb : Below M w w') (hM : w.heap.size ≤ M) : Sn w' n A := by
 refine ⟨fun i hi => ?_, h.2.1, fun i hi => ?_, Nat.le_trans h.2.2.2 hb.size⟩
 ·
  exact cell_keep (hb.mono hM) (by have := h.2.2.2; omega) (h.1 i hi)
 ·
  obtain ⟨c, t, e⟩ := h.2.2.1 i hi
  have hl : (A i).block < w.heap.size := by
   by_cases c : (A i).block < w.heap.size
   ·
    exact c
   ·
    rw [Array.getElem?_eq_none (by omega)] at e
    cases e
  exact ⟨c, t, (hb.block _ (by omega)).trans e⟩
theorem Sn.le {w : World} {n m : Nat} {A : Nat → Addr} (h : Sn w n A) (hm : m ≤ n) : Sn w m A :=
 ⟨fun i hi => h.1 i (by omega), fun i j hi hj => h.2.1 i j (by omega) (by omega), fun i hi => h.2.2.1 i (by omega), Nat.le_trans hm h.2.2.2⟩
def ErsR (w : World) (A : Nat → Addr) (n : Nat) (ix : Nat → Nat) (e : Ending) (w' : World) : Prop :=
 ∃ b, ∃ vs : Array Value, e = .returned (.slice (some ⟨b, 0, none⟩) n n) ∧ Box w' b 75 vs ∧ (∀ i, i < n → vs[i]? = some (.iface 228 (.pointer (some (A (ix i)))))) ∧ Below w.heap.size w w'
set_option maxHeartbeats 1600000 in
theorem ers_ask {n : Nat} {A : Nat → Addr} (w : World) (h : Sn w n A) (hn : 6 ≤ n) :
  Calls Tryz.prog 93 #[.int .i64 1] w fun e w' => ErsR w A 6 (fun i => #[0, 1, 2, 3, 4, 5].getD i 0) e w' := by
 have c0 : w.cell? ⟨0, 0, none⟩ = some (.iface 228 (.pointer (some (A 0)))) := h.1 0 (by omega)
 have c1 : w.cell? ⟨1, 0, none⟩ = some (.iface 228 (.pointer (some (A 1)))) := h.1 1 (by omega)
 have c2 : w.cell? ⟨2, 0, none⟩ = some (.iface 228 (.pointer (some (A 2)))) := h.1 2 (by omega)
 have c3 : w.cell? ⟨3, 0, none⟩ = some (.iface 228 (.pointer (some (A 3)))) := h.1 3 (by omega)
 have c4 : w.cell? ⟨4, 0, none⟩ = some (.iface 228 (.pointer (some (A 4)))) := h.1 4 (by omega)
 have c5 : w.cell? ⟨5, 0, none⟩ = some (.iface 228 (.pointer (some (A 5)))) := h.1 5 (by omega)
 clear h
 go_enter Tryz.func93, Tryz.ntmps93
 go_wp2_with fail
 go_ret
 refine ⟨w.heap.size, _, rfl, Box.new _ _ _, fun i hi => ?_, bel1 _ _⟩
 match i, hi with
 | 0, _ => rfl
 | 1, _ => rfl
 | 2, _ => rfl
 | 3, _ => rfl
 | 4, _ => rfl
 | 5, _ => rfl
set_option maxHeartbeats 1600000 in
theorem ers_back {n : Nat} {A : Nat → Addr} (w : World) (h : Sn w n A) (hn : 7 ≤ n) :
  Calls Tryz.prog 93 #[.int .i64 2] w fun e w' => ErsR w A 2 (fun i => #[0, 6].getD i 0) e w' := by
 have c0 : w.cell? ⟨0, 0, none⟩ = some (.iface 228 (.pointer (some (A 0)))) := h.1 0 (by omega)
 have c6 : w.cell? ⟨6, 0, none⟩ = some (.iface 228 (.pointer (some (A 6)))) := h.1 6 (by omega)
 clear h
 go_enter Tryz.func93, Tryz.ntmps93
 go_wp2_with fail
 go_ret
 refine ⟨w.heap.size, _, rfl, Box.new _ _ _, fun i hi => ?_, bel1 _ _⟩
 match i, hi with
 | 0, _ => rfl
 | 1, _ => rfl
set_option maxHeartbeats 1600000 in
theorem ers_move {n : Nat} {A : Nat → Addr} (w : World) (h : Sn w n A) (hn : 6 ≤ n) :
  Calls Tryz.prog 93 #[.int .i64 6] w fun e w' => ErsR w A 3 (fun i => #[0, 4, 5].getD i 0) e w' := by
 have c0 : w.cell? ⟨0, 0, none⟩ = some (.iface 228 (.pointer (some (A 0)))) := h.1 0 (by omega)
 have c4 : w.cell? ⟨4, 0, none⟩ = some (.iface 228 (.pointer (some (A 4)))) := h.1 4 (by omega)
 have c5 : w.cell? ⟨5, 0, none⟩ = some (.iface 228 (.pointer (some (A 5)))) := h.1 5 (by omega)
 clear h
 go_enter Tryz.func93, Tryz.ntmps93
 go_wp2_with fail
 go_ret
 refine ⟨w.heap.size, _, rfl, Box.new _ _ _, fun i hi => ?_, bel1 _ _⟩
 match i, hi with
 | 0, _ => rfl
 | 1, _ => rfl
 | 2, _ => rfl
end Go.Proofs.YtlgapgajgpilgaaGreatDoor
namespace Go.Proofs.YtlgapgajgpilgaaGreatDoor
open Go.RowKit Go.Lib
def erV (A : Nat → Addr) : Option Nat → Value
 | none => .nilIface
 | some g => .iface 228 (.pointer (some (A g)))
def CodeIs (n : Nat) (ix : Nat → Nat) (o : Option Nat) (r : Nat) : Prop :=
 ((∀ i, i < n → o ≠ some (ix i)) ∧ r = 0) ∨ ∃ i, i < n ∧ o = some (ix i) ∧ (∀ m, m < i → o ≠ some (ix m)) ∧ r = i + 1
theorem is94 {N : Nat} {A : Nat → Addr} (o : Option Nat) (g : Nat) (w : World) (h : Sn w N A) (hg : g < N) (ho : ∀ k, o = some k → k < N) :
  Calls Tryz.prog 94 #[erV A o, .iface 228 (.pointer (some (A g)))] w fun e w' => e = .returned (.bool (decide (o = some g))) ∧ w' = w := by
 cases o with
 | none => exact (is_nil (A g) w).mono fun e w' q => ⟨by simpa using q.1, q.2⟩
 | some k =>
  have hk := ho k rfl
  by_cases c : k = g
  ·
   subst c
   exact (is_same (A k) w).mono fun e w' q => ⟨by simpa using q.1, q.2⟩
  ·
   obtain ⟨c1, t1, e1⟩ := h.2.2.1 k hk
   obtain ⟨c2, t2, e2⟩ := h.2.2.1 g hg
   exact (is_other (A k) (A g) c1 c2 t1 t2 w (fun e => c (h.2.1 k g hk hg e)) e1 e2).mono fun e w' q => ⟨by simpa [c] using q.1, q.2⟩
set_option maxRecDepth 100000 in
set_option maxHeartbeats 3200000 in
theorem codeOf61 {N : Nat} {A : Nat → Addr} (n : Nat) (ix : Nat → Nat) (o : Option Nat) (r : Nat) (op : Int) (w : World) (hS : Sn w N A) (hn : n ≤ 6) (hix : ∀ i, i < n → ix i < N) (ho : ∀ k, o = some k → k < N) (hc : CodeIs n ix o r) (hE : Calls Tryz.prog 93 #[.int .i64 op] w fun e w' => ErsR w A n ix e w') :
  Calls Tryz.prog 61 #[erV A o, .int .i64 op] w fun e w' => e = .returned (.int .i64 (r : Int)) ∧ Below w.heap.size w w' := by
 have H : Hid (Sn w N A ∧ (∀ i, i < n → ix i < N) ∧ (∀ k, o = some k → k < N) ∧ CodeIs n ix o r) := ⟨hS, hix, ho, hc⟩
 have HE : Hid (Calls Tryz.prog 93 #[.int .i64 op] w fun e w' => ErsR w A n ix e w') := hE
 clear hS hix ho hc hE
 obtain ⟨v, HV⟩ : ∃ v, Hid (erV A o = v) := ⟨_, rfl⟩
 rw [HV.out]
 go_enter Tryz.func61, Tryz.ntmps61
 go_wp2_with fail
 refine HE.out.mono ?_
 rintro e w1 ⟨b, vs, rfl, hbx, hvs, hb⟩
 have T0 : Hid (Below w.heap.size w w1 ∧ Box w1 b 75 vs) := ⟨hb, hbx⟩
 have HVS : Hid (∀ i, i < n → vs[i]? = some (.iface 228 (.pointer (some (A (ix i)))))) := hvs
 clear hb hbx hvs
 go_wp2_with fail
 go_loopw [10] (fun c wr => ∃ k : Nat, k ≤ n ∧ c = .int .i64 k ∧ Hid (∀ m, m < k → o ≠ some (ix m)) ∧ Hid (Below w.heap.size w wr ∧ Box wr b 75 vs)) (fun c _ => n - (intOf c).toNat)
 case atStart => exact ⟨0, Nat.zero_le _, rfl, fun j hj => absurd hj (Nat.not_lt_zero _), T0⟩
 case round =>
  clear T0
  obtain ⟨k, hk, rfl, HK, T⟩ := hrel
  by_cases hlt : k < n
  ·
   have hk0 : (0 : Int) ≤ (k : Int) := by omega
   have hkn : (k : Int) < (n : Int) := by omega
   have d0 : wr.cell? ⟨b, k, none⟩ = some (.iface 228 (.pointer (some (A (ix k))))) := (T.out.2.cell k).trans (HVS.out k hlt)
   go_wp2_with fail
   clear d0
   rw [← HV.out]
   refine (is94 (N := N) o (ix k) wr (H.out.1.mono T.out.1 nr) (H.out.2.1 k hlt) H.out.2.2.1).mono ?_
   rw [HV.out]
   rintro e wr2 ⟨he, hw⟩
   have hw := hw.symm
   subst hw
   obtain ⟨u, HU⟩ : ∃ u, Hid (decide (o = some (ix k)) = u) := ⟨_, rfl⟩
   rw [HU.out] at he
   subst he
   cases u with
   | true =>
    have HT : Hid (r = k + 1) := by
     have hu : o = some (ix k) := of_decide_eq_true HU.out
     rcases H.out.2.2.2 with ⟨h1, _⟩ | ⟨i, h1, h2, h3, h4⟩
     ·
      exact absurd hu (h1 k hlt)
     ·
      rcases Nat.lt_trichotomy i k with h | h | h
      ·
       exact absurd h2 (HK.out i h)
      ·
       subst h
       exact h4
      ·
       exact absurd hu (h3 k h)
    go_wp2_with fail
    go_ret
    exact ⟨by rw [HT.out]; go_num, T.out.1⟩
   | false =>
    have HK2 : Hid (∀ m, m < k + 1 → o ≠ some (ix m)) := fun m hm => by
     by_cases c : m = k
     ·
      subst c
      exact of_decide_eq_false HU.out
     ·
      exact HK.out m (by omega)
    go_wp2_with fail
    go_roundw
    case rel => exact ⟨k + 1, by omega, by go_num, HK2, T⟩
    case measure => simp [intOf]; omega
  ·
   have HT : Hid (r = 0) := by
    rcases H.out.2.2.2 with ⟨_, h2⟩ | ⟨i, h1, h2, _, _⟩
    ·
     exact h2
    ·
     exact absurd h2 (HK.out i (by omega))
   have hge : ¬ ((k : Int) < (n : Int)) := by omega
   go_wp2_with fail
   go_ret
   exact ⟨by rw [HT.out]; rfl, T.out.1⟩
end Go.Proofs.YtlgapgajgpilgaaGreatDoor
