import Derived.Test.YtkeilejbelblcaaGreatDoorGK1Tf
import Derived.Test.YtkeilejbelblcaaGreatDoorTp
import Derived.Test.YtkeilejbelblcaaGreatDoorGH14H1
namespace Go.Proofs.YtkeilejbelblcaaGreatDoor
open Go.RowKit

/-- a list of states -/
def WlAt (w : World) (a : Option Addr) (n : Nat) (N : Nat → Nat) (S : Nat → WS) : Prop :=
  0 < n → ∃ b off, a = some ⟨b, off, none⟩ ∧ b < w.heap.size ∧ ∀ i, i < n → ∃ v, w.cell? ⟨b, off + i, none⟩ = some v ∧ WsV w (N i) (S i) v
theorem WlAt.mono {w w' : World} {a : Option Addr} {n : Nat} {N : Nat → Nat} {S : Nat → WS} {B : Nat} (h : WlAt w a n N S) (hb : Below B w w') (hB : w.heap.size ≤ B) : WlAt w' a n N S := by
  intro h0
  obtain ⟨b, off, h1, h2, h3⟩ := h h0
  refine ⟨b, off, h1, Nat.lt_of_lt_of_le h2 hb.size, fun i hi => ?_⟩
  obtain ⟨v, k1, k2⟩ := h3 i hi
  exact ⟨v, (hb.cell (p := ⟨b, off + i, none⟩) (by show b < B; omega)).trans k1, k2.mono hb hB⟩
def heldS : WS → Bool
  | .idle => false
  | .set _ => true
  | .clear => true
  | .taking _ => true
  | .used _ _ _ => true
theorem ta166 (w : World) : (Instr.typeAssert (.iface 161 (.agg #[])) 132 161 true).run Tryz.prog w = .ok (.tuple #[.agg #[], .bool true]) w := by kernel_rfl
theorem ta168 (w : World) (x : Value) : (Instr.typeAssert (.iface 163 x) 132 161 true).run Tryz.prog w = .ok (.tuple #[.agg #[], .bool false]) w := by kernel_rfl
theorem ta169 (w : World) (x : Value) : (Instr.typeAssert (.iface 164 x) 132 161 true).run Tryz.prog w = .ok (.tuple #[.agg #[], .bool false]) w := by kernel_rfl
theorem ta171 (w : World) (x : Value) : (Instr.typeAssert (.iface 166 x) 132 161 true).run Tryz.prog w = .ok (.tuple #[.agg #[], .bool false]) w := by kernel_rfl
theorem ta174 (w : World) (x : Value) : (Instr.typeAssert (.iface 169 x) 132 161 true).run Tryz.prog w = .ok (.tuple #[.agg #[], .bool false]) w := by kernel_rfl
theorem ta_any {w : World} {n : Nat} {s : WS} {v : Value} (h : WsV w n s v) (W : World) : (Instr.typeAssert v 132 161 true).run Tryz.prog W = .ok (.tuple #[.agg #[], .bool (!heldS s)]) W := by
  cases s with
  | idle => obtain rfl := (h : v = _); exact ta166 W
  | set sh => obtain rfl := (h : v = _); exact ta168 W _
  | clear => obtain rfl := (h : v = _); exact ta169 W _
  | taking t => obtain rfl := (h : v = _); exact ta171 W _
  | used g B sh =>
    obtain ⟨b, cap, cur, rfl, _⟩ := h
    exact ta174 W _
set_option maxRecDepth 100000 in
set_option maxHeartbeats 2000000 in
theorem isHeld114 (p : Pl) (wb yb bb : Nat) (oa : Option Addr) (no oc : Nat) (pa : Option Addr) (np pc : Nat) (ia : Option Addr) (ic : Nat) (S : Nat → WS) (N : Nat → Nat) (k : Nat) (w : World) (hk : k < p.ny) (hny : p.ny ≤ 1048576) (h : WlAt w ia p.ny N S) :
    Calls Tryz.prog 107 #[.agg #[.int .i64 p.sec, .slice (some ⟨wb, 0, none⟩) p.nw p.nw, .slice (some ⟨yb, 0, none⟩) p.ny p.ny, .slice (some ⟨bb, 0, none⟩) p.nb p.nb, .int .i64 p.hold, .slice oa no oc, .slice pa np pc, .slice ia p.ny ic], .int .i64 (k : Int)] w fun e w' => e = .returned (.bool (heldS (S k))) ∧ Below w.heap.size w w' := by
  obtain ⟨b, off, rfl, hb, hc⟩ := h (by omega)
  obtain ⟨v, c0, hv⟩ := hc k hk
  obtain ⟨t, x, rfl⟩ := hv.one
  have ht := ta_any hv
  clear hc h hv
  have hk0 : (0 : Int) ≤ (k : Int) := by omega
  have hkn : (k : Int) < (p.ny : Int) := by omega
  have HB : Hid (Below w.heap.size w ((w.alloc (.cells #[.int .i64 p.sec, .slice (some ⟨wb, 0, none⟩) p.nw p.nw, .slice (some ⟨yb, 0, none⟩) p.ny p.ny, .slice (some ⟨bb, 0, none⟩) p.nb p.nb, .int .i64 p.hold, .slice oa no oc, .slice pa np pc, .slice (some ⟨b, off, none⟩) p.ny ic] 84)).alloc (.cells #[] 161))) := bel2 _ _ _
  go_enter Tryz.func107, Tryz.ntmps107
  go_wp2_with (first | rw [ht] | fail)
  go_ret
  exact ⟨by simp, HB.out⟩
def clashD (p : Pl) (S : Nat → WS) : Bool := anyB (fun i => anyB (fun k => p.T i k && (heldS (S i) && heldS (S k))) i) p.nb
set_option maxRecDepth 100000 in
set_option maxHeartbeats 8000000 in
theorem clash81 (p : Pl) (wb yb bb : Nat) (lo rr : Nat → Nat) (oa : Option Addr) (no oc : Nat) (pa : Option Addr) (np pc : Nat) (ia : Option Addr) (ic : Nat) (S : Nat → WS) (N : Nat → Nat) (w : World) (hs : p.small) (hok : p.Ok) (hP : PlOwn 0 w p wb yb bb lo rr) (h : WlAt w ia p.ny N S) :
    Calls Tryz.prog 80 #[.agg #[.int .i64 p.sec, .slice (some ⟨wb, 0, none⟩) p.nw p.nw, .slice (some ⟨yb, 0, none⟩) p.ny p.ny, .slice (some ⟨bb, 0, none⟩) p.nb p.nb, .int .i64 p.hold, .slice oa no oc, .slice pa np pc, .slice ia p.ny ic]] w fun e w' => e = .returned (.bool (clashD p S)) ∧ Below w.heap.size w w' := by
  have HP : Hid (PlOwn 0 w p wb yb bb lo rr ∧ p.small ∧ p.Ok ∧ WlAt w ia p.ny N S) := ⟨hP, hs, hok, h⟩
  have hny : p.ny ≤ 1048576 := hs.2.1
  have hnbs : p.nb ≤ 1048576 := hs.2.2.2.1
  obtain ⟨R, HR⟩ : ∃ R, Hid (clashD p S = R) := ⟨_, rfl⟩
  rw [HR.out]
  have S0 : Hid (Below w.heap.size w (w.alloc (.cells #[.int .i64 p.sec, .slice (some ⟨wb, 0, none⟩) p.nw p.nw, .slice (some ⟨yb, 0, none⟩) p.ny p.ny, .slice (some ⟨bb, 0, none⟩) p.nb p.nb, .int .i64 p.hold, .slice oa no oc, .slice pa np pc, .slice ia p.ny ic] 84)) ∧ Box (w.alloc (.cells #[.int .i64 p.sec, .slice (some ⟨wb, 0, none⟩) p.nw p.nw, .slice (some ⟨yb, 0, none⟩) p.ny p.ny, .slice (some ⟨bb, 0, none⟩) p.nb p.nb, .int .i64 p.hold, .slice oa no oc, .slice pa np pc, .slice ia p.ny ic] 84)) w.heap.size 84 #[.int .i64 p.sec, .slice (some ⟨wb, 0, none⟩) p.nw p.nw, .slice (some ⟨yb, 0, none⟩) p.ny p.ny, .slice (some ⟨bb, 0, none⟩) p.nb p.nb, .int .i64 p.hold, .slice oa no oc, .slice pa np pc, .slice ia p.ny ic]) := ⟨bel1 _ _, Box.new _ _ _⟩
  have x3 : (w.alloc (.cells #[.int .i64 p.sec, .slice (some ⟨wb, 0, none⟩) p.nw p.nw, .slice (some ⟨yb, 0, none⟩) p.ny p.ny, .slice (some ⟨bb, 0, none⟩) p.nb p.nb, .int .i64 p.hold, .slice oa no oc, .slice pa np pc, .slice ia p.ny ic] 84)).cell? ⟨w.heap.size, 3, none⟩ = some (.slice (some ⟨bb, 0, none⟩) p.nb p.nb) := S0.out.2.cell 3
  clear hP hs hok h
  go_enter Tryz.func80, Tryz.ntmps80
  go_wp2_with fail
  clear x3
  go_loopw [11] (fun i wr => ∃ q : Nat, q ≤ p.nb ∧ i = .int .i64 q ∧ Hid (∀ i, i < q → anyB (fun k => p.T i k && (heldS (S i) && heldS (S k))) i = false) ∧ Hid (Below w.heap.size w wr ∧ Box wr w.heap.size 84 #[.int .i64 p.sec, .slice (some ⟨wb, 0, none⟩) p.nw p.nw, .slice (some ⟨yb, 0, none⟩) p.ny p.ny, .slice (some ⟨bb, 0, none⟩) p.nb p.nb, .int .i64 p.hold, .slice oa no oc, .slice pa np pc, .slice ia p.ny ic])) (fun i _ => p.nb - (intOf i).toNat)
  case atStart => exact ⟨0, Nat.zero_le _, rfl, fun i hi => absurd hi (Nat.not_lt_zero _), S0⟩
  case round =>
    clear S0
    obtain ⟨q, hq, rfl, HQ, S1⟩ := hrel
    by_cases hlt : q < p.nb
    · have hqy : q < p.ny := by have := HP.out.2.2.1.nb; omega
      have hKq : p.K q = p.ny := HP.out.2.2.1.row q hlt
      obtain ⟨vs, hbx, _, hrow⟩ := HP.out.1.br.mono S1.out.1 (Nat.le_refl _)
      obtain ⟨e1, e2, _⟩ := hrow q hlt
      rw [hKq] at e1 e2
      have c0 : wr.cell? ⟨bb, q, none⟩ = some (.slice (some ⟨rr q, 0, none⟩) p.ny p.ny) := by rw [hbx.cell]; exact e1
      have HROW : Hid (VsAt 1 0 wr (some ⟨rr q, 0, none⟩) p.ny (boolF (p.T q))) := e2.vs.le (Nat.zero_le _)
      clear hrow hbx e1 e2
      have hq0 : (0 : Int) ≤ (q : Int) := by omega
      have hqn : (q : Int) < (p.nb : Int) := by omega
      have hqy' : (q : Int) ≤ (p.ny : Int) := by omega
      go_wp2_with fail
      clear c0
      obtain ⟨WR, hWR⟩ : ∃ W, W = wr := ⟨wr, rfl⟩
      rw [← hWR] at S1 HROW
      rw [← hWR]
      clear hWR
      go_loopw [20] (fun j wi => ∃ r : Nat, r ≤ q ∧ j = .int .i64 r ∧ Hid (∀ k, k < r → (p.T q k && (heldS (S q) && heldS (S k))) = false) ∧ Hid (Below WR.heap.size WR wi)) (fun j _ => q - (intOf j).toNat)
      case atStart => exact ⟨0, Nat.zero_le _, rfl, fun i hi => absurd hi (Nat.not_lt_zero _), Below.refl _ _⟩
      case round =>
        obtain ⟨r, hr, rfl, HQr, HBI⟩ := hrel
        have S2 : Hid (Below w.heap.size w wr ∧ Box wr w.heap.size 84 #[.int .i64 p.sec, .slice (some ⟨wb, 0, none⟩) p.nw p.nw, .slice (some ⟨yb, 0, none⟩) p.ny p.ny, .slice (some ⟨bb, 0, none⟩) p.nb p.nb, .int .i64 p.hold, .slice oa no oc, .slice pa np pc, .slice ia p.ny ic]) := ⟨S1.out.1.trans (HBI.out.mono S1.out.1.size), S1.out.2.mono HBI.out (Nat.le_refl _)⟩
        by_cases hrq : r < q
        · obtain ⟨rb, ro, hra, _, _, hcr⟩ := HROW.out.mono (Nat.le_refl _) HBI.out (Nat.le_refl _) (by omega)
          simp only [Option.some.injEq, Addr.mk.injEq, and_true] at hra
          obtain ⟨rfl, rfl⟩ := hra
          have e0 : wr.cell? ⟨rr q, r, none⟩ = some (.bool (p.T q r)) := by have := hcr r (by omega) 0 (by omega); simpa using this
          clear hcr
          have hr0 : (0 : Int) ≤ (r : Int) := by omega
          have hrq' : (r : Int) < (q : Int) := by omega
          have HGO : Hid ((p.T q r && (heldS (S q) && heldS (S r))) = false → ∀ k, k < r + 1 → (p.T q k && (heldS (S q) && heldS (S k))) = false) := fun e k hk => by
            by_cases c : k = r
            · subst c
              exact e
            · exact HQr.out k (by omega)
          have HYES : Hid ((p.T q r && (heldS (S q) && heldS (S r))) = true → R = true) := fun e => by
            rw [← HR.out, clashD]
            exact anyB_yes hlt (anyB_yes hrq e)
          have HL : Hid (∀ W, Below w.heap.size w W → WlAt W ia p.ny N S) := fun W hb => HP.out.2.2.2.mono hb (Nat.le_refl _)
          cases hT : p.T q r with
          | false =>
            rw [hT] at e0
            go_wp2_with fail
            go_roundw
            case rel => exact ⟨r + 1, by omega, by go_num, HGO.out (by rw [hT]; rfl), HBI⟩
            case measure => simp [intOf]; omega
          | true =>
            rw [hT] at e0
            have x0 : wr.cell? ⟨w.heap.size, 0, none⟩ = some (.int .i64 p.sec) := S2.out.2.cell 0
            have x1 : wr.cell? ⟨w.heap.size, 1, none⟩ = some (.slice (some ⟨wb, 0, none⟩) p.nw p.nw) := S2.out.2.cell 1
            have x2 : wr.cell? ⟨w.heap.size, 2, none⟩ = some (.slice (some ⟨yb, 0, none⟩) p.ny p.ny) := S2.out.2.cell 2
            have x3 : wr.cell? ⟨w.heap.size, 3, none⟩ = some (.slice (some ⟨bb, 0, none⟩) p.nb p.nb) := S2.out.2.cell 3
            have x4 : wr.cell? ⟨w.heap.size, 4, none⟩ = some (.int .i64 p.hold) := S2.out.2.cell 4
            have x5 : wr.cell? ⟨w.heap.size, 5, none⟩ = some (.slice oa no oc) := S2.out.2.cell 5
            have x6 : wr.cell? ⟨w.heap.size, 6, none⟩ = some (.slice pa np pc) := S2.out.2.cell 6
            have x7 : wr.cell? ⟨w.heap.size, 7, none⟩ = some (.slice ia p.ny ic) := S2.out.2.cell 7
            go_wp2_with fail
            refine (isHeld114 p wb yb bb oa no oc pa np pc ia ic S N q _ hqy hny (HL.out _ S2.out.1)).mono ?_
            rintro e w2 ⟨he, hb2⟩
            have HB2 : Hid (Below WR.heap.size WR w2) := HBI.out.trans (hb2.mono HBI.out.size)
            have S3 : Hid (Below w.heap.size w w2 ∧ Box w2 w.heap.size 84 #[.int .i64 p.sec, .slice (some ⟨wb, 0, none⟩) p.nw p.nw, .slice (some ⟨yb, 0, none⟩) p.ny p.ny, .slice (some ⟨bb, 0, none⟩) p.nb p.nb, .int .i64 p.hold, .slice oa no oc, .slice pa np pc, .slice ia p.ny ic]) := ⟨S2.out.1.trans (hb2.mono S2.out.1.size), S2.out.2.mono hb2 (Nat.le_refl _)⟩
            clear hb2 S2 x0 x1 x2 x3 x4 x5 x6 x7 e0
            cases hA : heldS (S q) with
            | false =>
              rw [hA] at he
              subst he
              go_wp2_with fail
              go_roundw
              case rel => exact ⟨r + 1, by omega, by go_num, HGO.out (by rw [hA]; simp), HB2⟩
              case measure => simp [intOf]; omega
            | true =>
              rw [hA] at he
              subst he
              have x0 : w2.cell? ⟨w.heap.size, 0, none⟩ = some (.int .i64 p.sec) := S3.out.2.cell 0
              have x1 : w2.cell? ⟨w.heap.size, 1, none⟩ = some (.slice (some ⟨wb, 0, none⟩) p.nw p.nw) := S3.out.2.cell 1
              have x2 : w2.cell? ⟨w.heap.size, 2, none⟩ = some (.slice (some ⟨yb, 0, none⟩) p.ny p.ny) := S3.out.2.cell 2
              have x3 : w2.cell? ⟨w.heap.size, 3, none⟩ = some (.slice (some ⟨bb, 0, none⟩) p.nb p.nb) := S3.out.2.cell 3
              have x4 : w2.cell? ⟨w.heap.size, 4, none⟩ = some (.int .i64 p.hold) := S3.out.2.cell 4
              have x5 : w2.cell? ⟨w.heap.size, 5, none⟩ = some (.slice oa no oc) := S3.out.2.cell 5
              have x6 : w2.cell? ⟨w.heap.size, 6, none⟩ = some (.slice pa np pc) := S3.out.2.cell 6
              have x7 : w2.cell? ⟨w.heap.size, 7, none⟩ = some (.slice ia p.ny ic) := S3.out.2.cell 7
              go_wp2_with fail
              refine (isHeld114 p wb yb bb oa no oc pa np pc ia ic S N r _ (by omega) hny (HL.out _ S3.out.1)).mono ?_
              rintro e w3 ⟨he, hb3⟩
              have HB3 : Hid (Below WR.heap.size WR w3) := HB2.out.trans (hb3.mono HB2.out.size)
              have HB4 : Hid (Below w.heap.size w w3) := S3.out.1.trans (hb3.mono S3.out.1.size)
              clear hb3 S3 HB2 x0 x1 x2 x3 x4 x5 x6 x7
              cases hA2 : heldS (S r) with
              | false =>
                rw [hA2] at he
                subst he
                go_wp2_with fail
                go_roundw
                case rel => exact ⟨r + 1, by omega, by go_num, HGO.out (by rw [hA2]; simp), HB3⟩
                case measure => simp [intOf]; omega
              | true =>
                rw [hA2] at he
                subst he
                have HF : Hid (R = true) := HYES.out (by rw [hT, hA, hA2]; rfl)
                go_wp2_with fail
                go_ret
                exact ⟨by rw [HF.out]; rfl, HB4.out⟩
        · obtain rfl : r = q := by omega
          have HQ2 : Hid (∀ i, i < r + 1 → anyB (fun k => p.T i k && (heldS (S i) && heldS (S k))) i = false) := fun i hi => by
            by_cases c : i = r
            · subst c
              exact anyB_no HQr.out
            · exact HQ.out i (by omega)
          go_wp2_with fail
          go_roundw
          case rel => exact ⟨r + 1, by omega, by go_num, HQ2, S2⟩
          case measure => simp [intOf]; omega
    · obtain rfl : q = p.nb := by omega
      have HF : Hid (R = false) := by
        rw [Hid, ← HR.out, clashD]
        exact anyB_no HQ.out
      go_wp2_with fail
      go_ret
      exact ⟨by rw [HF.out]; rfl, S1.out.1⟩

end Go.Proofs.YtkeilejbelblcaaGreatDoor
