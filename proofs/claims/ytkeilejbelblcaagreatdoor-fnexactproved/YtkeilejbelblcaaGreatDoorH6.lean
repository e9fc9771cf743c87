import Derived.Test.YtkeilejbelblcaaGreatDoorGSaH5
namespace Go.Proofs.YtkeilejbelblcaaGreatDoor
open Go.RowKit

/-- a list lies apart from two blocks -/
def OffV (n : Nat) (a : Option Addr) (hb r : Nat) : Prop := 0 < n → ∀ b off, a = some ⟨b, off, none⟩ → b ≠ hb ∧ b ≠ r
theorem VsAt.chg {c : Nat} {w w' : World} {a : Option Addr} {n : Nat} {F : Nat → Nat → Value} {hb lo hi r : Nat} (h : VsAt c 0 w a n F) (hc : Chg hb lo hi r w w') (ho : OffV n a hb r) : VsAt c 0 w' a n F := by
  intro h0
  obtain ⟨b, off, e, h1, h2, h3⟩ := h h0
  obtain ⟨n1, n2⟩ := ho h0 b off e
  exact ⟨b, off, e, h1, Nat.lt_of_lt_of_le h2 hc.size, fun i hi j hj => (World.cell?_of_block (a := ⟨b, off + i * c + j, none⟩) (hc.other b h2 n1 n2)).trans (h3 i hi j hj)⟩
theorem Box.chg {w w' : World} {b : Nat} {T : TypeId} {vs : Array Value} {hb lo hi r : Nat} (h : Box w b T vs) (hc : Chg hb lo hi r w w') (h1 : b ≠ hb) (h2 : b ≠ r) : Box w' b T vs := h.keep (hc.other b h.lt h1 h2)
/-- what stands where a way's Gone lies -/
def goneN (hb ho : Nat) (w : World) : Nat := match w.cell? ⟨hb, ho + 1, none⟩ with
  | some (.int _ v) => v.toNat
  | _ => 0
theorem HAt.goneN_eq {w : World} {hb ho : Nat} {h : Hl} {r rc : Nat} (x : HAt w hb ho h r rc) : goneN hb ho w = h.gone.toNat := by
  unfold goneN
  rw [x.c1]
/-- what l18pass leaves -/
def PassR (n : Nat) (OO : Nat → Bool) (hb ho : Nat) (h : Hl) (r : Nat) (w : World) (e : Ending) (w' : World) : Prop :=
  ∃ r' rc', e = .returned (.tuple #[]) ∧ HAt w' hb ho (useH ⟨n, OO, false⟩ h) r' rc' ∧ (r' = r ∨ w.heap.size ≤ r') ∧ Chg hb ho (ho + 5) r w w'
set_option maxRecDepth 100000 in
set_option maxHeartbeats 16000000 in
theorem pass74 (y : Wy) (sa la fa va ma oa : Option Addr) (sc lc fc vc mc oc : Nat) (fb hb ho no : Nat) (O : Nat → Bool) (sh : Bool) (B : Nat → Bool) (g r rc : Nat) (w : World) (hns : y.ns ≤ 1048576) (hno : no ≤ 1048576) (hin : ∀ j, j < y.ns → ∃ o : Nat, y.S j = (o : Int) ∧ o < no) (hgl : g < y.ns)
    (hs : VsAt 1 0 w sa y.ns (oneF y.S)) (hso : OffV y.ns sa hb r) (hf : w.cell? ⟨fb, 1, none⟩ = some (.slice oa no oc)) (hfl : fb < w.heap.size) (hfn : fb ≠ hb ∧ fb ≠ r) (hO : VsAt 1 0 w oa no (boolF O)) (hOo : OffV no oa hb r) (hh : HAt w hb ho ⟨4, (g : Int), y.ns, B, sh, 0⟩ r rc) :
    Calls Tryz.prog 73 #[.agg #[.slice sa y.ns sc, .slice la y.nl lc, .slice fa y.nf fc, .slice va y.no vc, .slice ma y.nm mc], .pointer (some ⟨fb, 0, none⟩), .pointer (some ⟨hb, ho, none⟩)] w fun e w' => PassR y.ns (fun k => O (y.S k).toNat) hb ho ⟨4, (g : Int), y.ns, B, sh, 0⟩ r w e w' := by
  have hc0 : Chg hb ho (ho + 5) r w (w.alloc (.cells #[.slice sa y.ns sc, .slice la y.nl lc, .slice fa y.nf fc, .slice va y.no vc, .slice ma y.nm mc] 112)) := (Chg.refl _ _ _ _ _).alloc hh.lt _
  have HX : Hid (Box (w.alloc (.cells #[.slice sa y.ns sc, .slice la y.nl lc, .slice fa y.nf fc, .slice va y.no vc, .slice ma y.nm mc] 112)) w.heap.size 112 #[.slice sa y.ns sc, .slice la y.nl lc, .slice fa y.nf fc, .slice va y.no vc, .slice ma y.nm mc] ∧ VsAt 1 0 (w.alloc (.cells #[.slice sa y.ns sc, .slice la y.nl lc, .slice fa y.nf fc, .slice va y.no vc, .slice ma y.nm mc] 112)) sa y.ns (oneF y.S) ∧ VsAt 1 0 (w.alloc (.cells #[.slice sa y.ns sc, .slice la y.nl lc, .slice fa y.nf fc, .slice va y.no vc, .slice ma y.nm mc] 112)) oa no (boolF O) ∧ (w.alloc (.cells #[.slice sa y.ns sc, .slice la y.nl lc, .slice fa y.nf fc, .slice va y.no vc, .slice ma y.nm mc] 112)).cell? ⟨fb, 1, none⟩ = some (.slice oa no oc) ∧ fb < (w.alloc (.cells #[.slice sa y.ns sc, .slice la y.nl lc, .slice fa y.nf fc, .slice va y.no vc, .slice ma y.nm mc] 112)).heap.size) := ⟨Box.new _ _ _, hs.chg hc0 hso, hO.chg hc0 hOo, (World.cell?_of_block (a := ⟨fb, 1, none⟩) (hc0.other fb hfl hfn.1 hfn.2)).trans hf, Nat.lt_of_lt_of_le hfl hc0.size⟩
  have HN : Hid (OffV y.ns sa hb r ∧ OffV no oa hb r ∧ fb ≠ hb ∧ fb ≠ r ∧ w.heap.size ≠ hb ∧ w.heap.size ≠ r ∧ r ≠ hb) := ⟨hso, hOo, hfn.1, hfn.2, by have := hh.lt; omega, by have := hh.rl; omega, hh.ne⟩
  have HC : Hid (Chg hb ho (ho + 5) r w (w.alloc (.cells #[.slice sa y.ns sc, .slice la y.nl lc, .slice fa y.nf fc, .slice va y.no vc, .slice ma y.nm mc] 112)) ∧ HAt (w.alloc (.cells #[.slice sa y.ns sc, .slice la y.nl lc, .slice fa y.nf fc, .slice va y.no vc, .slice ma y.nm mc] 112)) hb ho ⟨4, (g : Int), y.ns, B, sh, 0⟩ r rc) := ⟨hc0, hh.mono (bel1 _ _)⟩
  have HIN : Hid (∀ j, j < y.ns → ∃ o : Nat, y.S j = (o : Int) ∧ o < no) := hin
  obtain ⟨OO, HOO⟩ : ∃ OO, Hid ((fun k => O (y.S k).toNat) = OO) := ⟨_, rfl⟩
  rw [HOO.out]
  have HOv : Hid (∀ j o : Nat, y.S j = (o : Int) → OO j = O o) := fun j o e => by rw [← HOO.out]; simp [e]
  clear hs hso hf hfl hfn hO hOo hh hc0 hin HOO
  go_enter Tryz.func73, Tryz.ntmps73
  go_wp2_with fail
  generalize (w.alloc (.cells #[.slice sa y.ns sc, .slice la y.nl lc, .slice fa y.nf fc, .slice va y.no vc, .slice ma y.nm mc] 112)) = W at HX HC ⊢
  go_loopw [16] (fun i wr => ∃ q : Nat, q ≤ y.ns ∧ i = .int .i64 q ∧ Hid (Chg hb ho (ho + 5) r W wr ∧ HAt wr hb ho ⟨4, (g : Int), y.ns, fun j => if j < q then B j || OO j else B j, sh, 0⟩ r rc)) (fun i _ => y.ns - (intOf i).toNat)
  case atStart => exact ⟨0, Nat.zero_le _, rfl, Chg.refl _ _ _ _ _, by simpa using HC.out.2⟩
  case round =>
    obtain ⟨q, hq, rfl, HQ⟩ := hrel
    by_cases hlt : q < y.ns
    · obtain ⟨o, hoS, hon⟩ := HIN.out q hlt
      obtain ⟨gb, go, rfl, _, hgb, hgc⟩ := HX.out.2.1.chg HQ.out.1 HN.out.1 (by omega)
      have c0 : wr.cell? ⟨gb, go + q, none⟩ = some (.int .i64 (o : Int)) := by rw [← hoS]; have := hgc q hlt 0 (by omega); rwa [Nat.mul_one] at this
      clear hgc
      obtain ⟨pb, po, rfl, _, hpb, hpc⟩ := HX.out.2.2.1.chg HQ.out.1 HN.out.2.1 (by omega)
      have d0 : wr.cell? ⟨pb, po + o, none⟩ = some (.bool (O o)) := by have := hpc o hon 0 (by omega); rwa [Nat.mul_one] at this
      clear hpc
      have f1 : wr.cell? ⟨fb, 1, none⟩ = some (.slice (some ⟨pb, po, none⟩) no oc) := (World.cell?_of_block (a := ⟨fb, 1, none⟩) (HQ.out.1.other fb HX.out.2.2.2.2 HN.out.2.2.1 HN.out.2.2.2.1)).trans HX.out.2.2.2.1
      have h2 : wr.cell? ⟨hb, ho + 2, none⟩ = some (.slice (some ⟨r, 0, none⟩) y.ns rc) := HQ.out.2.c2
      have r0 : wr.cell? ⟨r, q, none⟩ = some (.bool (B q)) := by have := (HQ.out.2.row q hlt).1; simpa using this
      have rf : wr.frozen? ⟨r, q, none⟩ = false := (HQ.out.2.row q hlt).2
      have hq0 : (0 : Int) ≤ (q : Int) := by omega
      have hqn : (q : Int) < (y.ns : Int) := by omega
      have ho0 : (0 : Int) ≤ (o : Int) := by omega
      have hon' : (o : Int) < (no : Int) := by omega
      cases hOq : O o with
      | true =>
        rw [hOq] at d0
        have HQ2 : Hid (Chg hb ho (ho + 5) r W (wr.setCell ⟨r, q, none⟩ (.bool true)) ∧ HAt (wr.setCell ⟨r, q, none⟩ (.bool true)) hb ho ⟨4, (g : Int), y.ns, fun j => if j < q + 1 then B j || OO j else B j, sh, 0⟩ r rc) :=
          ⟨HQ.out.1.row HN.out.2.2.2.2.2.2 _ _, (HQ.out.2.setRow (k := q) hlt true).congr ⟨rfl, rfl, rfl, fun j _ => by
            by_cases e : j = q
            · subst e
              simp [HOv.out j o hoS, hOq]
            · by_cases e2 : j < q
              · have : j < q + 1 := by omega
                simp [e, e2, this]
              · have : ¬ j < q + 1 := by omega
                simp [e, e2, this], rfl, rfl⟩⟩
        go_wp2_with fail
        go_roundw
        case rel => exact ⟨q + 1, by omega, by go_num, HQ2⟩
        case measure => simp [intOf]; omega
      | false =>
        rw [hOq] at d0
        have HQ2 : Hid (Chg hb ho (ho + 5) r W wr ∧ HAt wr hb ho ⟨4, (g : Int), y.ns, fun j => if j < q + 1 then B j || OO j else B j, sh, 0⟩ r rc) :=
          ⟨HQ.out.1, HQ.out.2.congr ⟨rfl, rfl, rfl, fun j _ => by
            by_cases e : j = q
            · subst e
              simp [HOv.out j o hoS, hOq]
            · by_cases e2 : j < q
              · have : j < q + 1 := by omega
                simp [e2, this]
              · have : ¬ j < q + 1 := by omega
                simp [e2, this], rfl, rfl⟩⟩
        go_wp2_with fail
        go_roundw
        case rel => exact ⟨q + 1, by omega, by go_num, HQ2⟩
        case measure => simp [intOf]; omega
    · obtain rfl : q = y.ns := by omega
      obtain ⟨BB, HBB⟩ : ∃ BB, Hid (onB B OO = BB) := ⟨_, rfl⟩
      have HQ0 : Hid (Chg hb ho (ho + 5) r W wr ∧ HAt wr hb ho ⟨4, (g : Int), y.ns, BB, sh, 0⟩ r rc) := ⟨HQ.out.1, HQ.out.2.congr ⟨rfl, rfl, rfl, fun j hj => by
        rw [← HBB.out]
        have : j < y.ns := hj
        simp [this, onB], rfl, rfl⟩⟩
      clear HQ
      go_wp2_with fail
      go_loopw [] (fun wr => ∃ q k : Nat, q ≤ y.ns ∧ Hid (passN y.ns BB OO y.ns g = passN y.ns BB OO k q ∧ y.ns ≤ q + k) ∧ Hid (Chg hb ho (ho + 5) r W wr ∧ HAt wr hb ho ⟨4, (q : Int), y.ns, BB, sh, 0⟩ r rc)) (fun wr => y.ns - goneN hb ho wr)
      case atStart => exact ⟨g, y.ns, by omega, ⟨rfl, by omega⟩, HQ0⟩
      case round =>
        obtain ⟨q, k, hq, HP, HQ⟩ := hrel
        have h1 : wr.cell? ⟨hb, ho + 1, none⟩ = some (.int .i64 (q : Int)) := HQ.out.2.c1
        by_cases hlt : q < y.ns
        · obtain ⟨o, hoS, hon⟩ := HIN.out q hlt
          obtain ⟨gb, go, rfl, _, hgb, hgc⟩ := HX.out.2.1.chg HQ.out.1 HN.out.1 (by omega)
          have c0 : wr.cell? ⟨gb, go + q, none⟩ = some (.int .i64 (o : Int)) := by rw [← hoS]; have := hgc q hlt 0 (by omega); rwa [Nat.mul_one] at this
          clear hgc
          obtain ⟨pb, po, rfl, _, hpb, hpc⟩ := HX.out.2.2.1.chg HQ.out.1 HN.out.2.1 (by omega)
          have d0 : wr.cell? ⟨pb, po + o, none⟩ = some (.bool (O o)) := by have := hpc o hon 0 (by omega); rwa [Nat.mul_one] at this
          clear hpc
          have f1 : wr.cell? ⟨fb, 1, none⟩ = some (.slice (some ⟨pb, po, none⟩) no oc) := (World.cell?_of_block (a := ⟨fb, 1, none⟩) (HQ.out.1.other fb HX.out.2.2.2.2 HN.out.2.2.1 HN.out.2.2.2.1)).trans HX.out.2.2.2.1
          have h2 : wr.cell? ⟨hb, ho + 2, none⟩ = some (.slice (some ⟨r, 0, none⟩) y.ns rc) := HQ.out.2.c2
          have hfz : wr.frozen? ⟨hb, ho + 1, none⟩ = false := HQ.out.2.fr 1 (by omega)
          have y0 : wr.cell? ⟨w.heap.size, 0, none⟩ = some (.slice (some ⟨gb, go, none⟩) y.ns sc) := (HX.out.1.chg HQ.out.1 HN.out.2.2.2.2.1 HN.out.2.2.2.2.2.1).cell 0
          have r0 : wr.cell? ⟨r, q, none⟩ = some (.bool (BB q)) := (HQ.out.2.row q hlt).1
          have hq0 : (0 : Int) ≤ (q : Int) := by omega
          have hqn : (q : Int) < (y.ns : Int) := by omega
          have ho0 : (0 : Int) ≤ (o : Int) := by omega
          have hon' : (o : Int) < (no : Int) := by omega
          have eO : OO q = O o := HOv.out q o hoS
          cases hBq : BB q with
          | false =>
            rw [hBq] at r0
            go_wp2_with fail
            have HST : Hid (passN y.ns BB OO y.ns g = q) := HP.out.1.trans (passN_stop k (by simp [stopB, hBq]))
            have HR : Hid (∀ v, PassR y.ns OO hb ho ⟨4, (g : Int), y.ns, B, sh, 0⟩ r w (.returned (.tuple #[])) (wr.drewN v)) := fun v => ⟨r, rc, rfl, (HQ.out.2.drewN v).congr (by
              rw [useH]
              simp only [Int.toNat_natCast, HST.out, HBB.out]
              rw [if_neg (by omega)]
              exact likeH.refl _), .inl rfl, (HC.out.1.trans HQ.out.1).drewN v⟩
            go_quiet (fail)
            go_wp2_with fail
            exact bodyPost_ret (v := .tuple #[]) (by simp [results, Tryz.results73, go_sem]) rfl (HR.out _)
          | true =>
            rw [hBq] at r0
            cases hOq : O o with
            | true =>
              rw [hOq] at d0 eO
              go_wp2_with fail
              have HST : Hid (passN y.ns BB OO y.ns g = q) := HP.out.1.trans (passN_stop k (by simp [stopB, eO]))
              have HR : Hid (∀ v, PassR y.ns OO hb ho ⟨4, (g : Int), y.ns, B, sh, 0⟩ r w (.returned (.tuple #[])) (wr.drewN v)) := fun v => ⟨r, rc, rfl, (HQ.out.2.drewN v).congr (by
                rw [useH]
                simp only [Int.toNat_natCast, HST.out, HBB.out]
                rw [if_neg (by omega)]
                exact likeH.refl _), .inl rfl, (HC.out.1.trans HQ.out.1).drewN v⟩
              go_quiet (fail)
              go_wp2_with fail
              exact bodyPost_ret (v := .tuple #[]) (by simp [results, Tryz.results73, go_sem]) rfl (HR.out _)
            | false =>
              rw [hOq] at d0 eO
              by_cases hl : q + 1 = y.ns
              · have hd : decide ((q : Int) < (y.ns : Int) - 1) = false := by simp; omega
                go_wp2_with fail
                have hng : stopB y.ns BB OO q = false := by simp [stopB, hBq, eO, hl, hlt]
                obtain ⟨k', rfl⟩ : ∃ k', k = k' + 1 := ⟨k - 1, by have := HP.out.2; omega⟩
                have HP2 : Hid (passN y.ns BB OO y.ns g = passN y.ns BB OO k' (q + 1) ∧ y.ns ≤ q + 1 + k') := ⟨HP.out.1.trans (passN_step k' hng), by have := HP.out.2; omega⟩
                have HQ2 : Hid (∀ v, Chg hb ho (ho + 5) r W ((wr.drewN v).setCell ⟨hb, ho + 1, none⟩ (.int .i64 ((q : Int) + 1))) ∧ HAt ((wr.drewN v).setCell ⟨hb, ho + 1, none⟩ (.int .i64 ((q : Int) + 1))) hb ho ⟨4, ((q + 1 : Nat) : Int), y.ns, BB, sh, 0⟩ r rc) := fun v => ⟨(HQ.out.1.drewN v).set (by omega) (by omega) _, ((HQ.out.2.drewN v).setGone ((q : Int) + 1)).congr ⟨rfl, by simp, rfl, fun _ _ => rfl, rfl, rfl⟩⟩
                have HGq : Hid (goneN hb ho wr = q) := by rw [Hid, HQ.out.2.goneN_eq]; simp
                go_quiet (fail)
                go_wp2_with fail
                go_roundw
                case rel => exact ⟨q + 1, k', by omega, HP2, HQ2.out _⟩
                case measure => rw [(HQ2.out _).2.goneN_eq, HGq.out]; simp; omega
              · have hd : (q : Int) < (y.ns : Int) - 1 := by omega
                have hq1 : (q : Int) + 1 < (y.ns : Int) := by omega
                have hq10 : (0 : Int) ≤ (q : Int) + 1 := by omega
                have r1 : wr.cell? ⟨r, q + 1, none⟩ = some (.bool (BB (q + 1))) := (HQ.out.2.row (q + 1) (show q + 1 < y.ns by omega)).1
                cases hB1 : BB (q + 1) with
                | false =>
                  rw [hB1] at r1
                  go_wp2_with fail
                  have HST : Hid (passN y.ns BB OO y.ns g = q) := HP.out.1.trans (passN_stop k (by simp [stopB, hB1, hl]))
                  have HR : Hid (∀ v, PassR y.ns OO hb ho ⟨4, (g : Int), y.ns, B, sh, 0⟩ r w (.returned (.tuple #[])) (wr.drewN v)) := fun v => ⟨r, rc, rfl, (HQ.out.2.drewN v).congr (by
                    rw [useH]
                    simp only [Int.toNat_natCast, HST.out, HBB.out]
                    rw [if_neg (by omega)]
                    exact likeH.refl _), .inl rfl, (HC.out.1.trans HQ.out.1).drewN v⟩
                  go_quiet (fail)
                  go_wp2_with fail
                  exact bodyPost_ret (v := .tuple #[]) (by simp [results, Tryz.results73, go_sem]) rfl (HR.out _)
                | true =>
                  rw [hB1] at r1
                  go_wp2_with fail
                  have hng : stopB y.ns BB OO q = false := by simp [stopB, hBq, eO, hB1, hlt]
                  obtain ⟨k', rfl⟩ : ∃ k', k = k' + 1 := ⟨k - 1, by have := HP.out.2; omega⟩
                  have HP2 : Hid (passN y.ns BB OO y.ns g = passN y.ns BB OO k' (q + 1) ∧ y.ns ≤ q + 1 + k') := ⟨HP.out.1.trans (passN_step k' hng), by have := HP.out.2; omega⟩
                  have HQ2 : Hid (∀ v, Chg hb ho (ho + 5) r W ((wr.drewN v).setCell ⟨hb, ho + 1, none⟩ (.int .i64 ((q : Int) + 1))) ∧ HAt ((wr.drewN v).setCell ⟨hb, ho + 1, none⟩ (.int .i64 ((q : Int) + 1))) hb ho ⟨4, ((q + 1 : Nat) : Int), y.ns, BB, sh, 0⟩ r rc) := fun v => ⟨(HQ.out.1.drewN v).set (by omega) (by omega) _, ((HQ.out.2.drewN v).setGone ((q : Int) + 1)).congr ⟨rfl, by simp, rfl, fun _ _ => rfl, rfl, rfl⟩⟩
                  have HGq : Hid (goneN hb ho wr = q) := by rw [Hid, HQ.out.2.goneN_eq]; simp
                  go_quiet (fail)
                  go_wp2_with fail
                  go_roundw
                  case rel => exact ⟨q + 1, k', by omega, HP2, HQ2.out _⟩
                  case measure => rw [(HQ2.out _).2.goneN_eq, HGq.out]; simp; omega
        · obtain rfl : q = y.ns := by omega
          go_wp2_with fail
          refine (idle54 hb ho _ r rc wr (show y.ns ≤ 1048576 from hns) HQ.out.2).mono ?_
          rintro e w1 ⟨he, hA, hC⟩
          have HST : Hid (passN y.ns BB OO y.ns g = y.ns) := HP.out.1.trans (passN_end _ _ _ k)
          have HR : Hid (PassR y.ns OO hb ho ⟨4, (g : Int), y.ns, B, sh, 0⟩ r w (.returned (.tuple #[])) w1) := ⟨_, _, rfl, hA.congr (by
            rw [useH]
            simp only [Int.toNat_natCast, HBB.out, HST.out]
            exact likeH.refl _), .inr (Nat.le_trans HC.out.1.size HQ.out.1.size), HC.out.1.trans (HQ.out.1.trans hC)⟩
          subst he
          go_wp2_with fail
          exact bodyPost_end (v := .tuple #[]) (by simp [results, Tryz.results73, go_sem]) rfl HR.out

end Go.Proofs.YtkeilejbelblcaaGreatDoor
