import Derived.Test.YtjhmaofjmalglaaGreatZav
namespace Go.Proofs.YtjhmaofjmalglaaGreat
open Go.RowKit Go.Lib
theorem across_one (k : Nat) : acrossF (1 : Int).toNat k = [] := by cases k <;> rfl
theorem exits_lt {kd : Int} {ne k i : Nat} (h1 : 1 ≤ kd) (h2 : kd ≤ 4) (h3 : (ne : Int) = kd) (hk : k < ne) (hi : i < (acrossF kd.toNat k).length) : (acrossF kd.toNat k).getD i 0 < ne := by
 rcases (show kd = 1 ∨ kd = 2 ∨ kd = 3 ∨ kd = 4 by omega) with rfl | rfl | rfl | rfl
 ·
  have : k = 0 := by omega
  subst this
  exact absurd hi (Nat.not_lt_zero _)
 ·
  have hn : ne = 2 := by omega
  subst hn
  rcases (show k = 0 ∨ k = 1 by omega) with rfl | rfl <;> (have hi' : i < 1 := hi; obtain rfl : i = 0 := (by omega); decide)
 ·
  have hn : ne = 3 := by omega
  subst hn
  rcases (show k = 0 ∨ k = 1 ∨ k = 2 by omega) with rfl | rfl | rfl
  ·
   have hi' : i < 2 := hi
   rcases (show i = 0 ∨ i = 1 by omega) with rfl | rfl <;> decide
  all_goals (have hi' : i < 1 := hi; obtain rfl : i = 0 := (by omega); decide)
 ·
  have hn : ne = 4 := by omega
  subst hn
  rcases (show k = 0 ∨ k = 1 ∨ k = 2 ∨ k = 3 by omega) with rfl | rfl | rfl | rfl <;> (have hi' : i < 1 := hi; obtain rfl : i = 0 := (by omega); decide)
theorem mo1 (w : World) : (method 337 183 (.agg #[]) "loop.example/signalbox/impl.over").run Tryz.prog w = .ok (172, .agg #[]) w := by kernel_rfl
theorem mo2 (w : World) : (method 337 184 (.agg #[]) "loop.example/signalbox/impl.over").run Tryz.prog w = .ok (174, .agg #[]) w := by kernel_rfl
theorem mo3 (w : World) : (method 337 182 (.agg #[]) "loop.example/signalbox/impl.over").run Tryz.prog w = .ok (170, .agg #[]) w := by kernel_rfl
theorem mo4 (w : World) : (method 337 185 (.agg #[]) "loop.example/signalbox/impl.over").run Tryz.prog w = .ok (176, .agg #[]) w := by kernel_rfl
theorem away_eq {e : En} {q : Nat} {wb : Int} (h : e.sd = 0 ∨ e.sd = 1) (hw : wb = 1 ∨ wb = -1) : eqB e (headE q (-wb)) = (decide (e.pc = (q : Int)) && decide (wayOf e = wb)) := by
 have h1 : eqB e (headE q (-wb)) = (decide (e.pc = (q : Int)) && decide (e.sd = if -wb = 1 then 1 else 0)) := by
  unfold eqB headE
  congr 1 <;> (rw [Bool.eq_iff_iff]; simp)
 rw [h1, wayOf]
 congr 1
 rcases h with h | h <;> rcases hw with rfl | rfl <;> rw [h] <;> decide
set_option maxRecDepth 100000 in
set_option maxHeartbeats 16000000 in
theorem leads69 {v : Nv} (ok : v.Ok) {bt sb : Nat} {pa : Option Addr} {pc : Nat} {ja : Option Addr} {jc : Nat} (p : Nat) (wa : Int) (q : Nat) (wb : Int) (w : World) (hp : p < v.n) (hwa : wa = 1 ∨ wa = -1) (hwb : wb = 1 ∨ wb = -1) (h : TkAt w bt sb v pa pc ja jc) :
  Calls Tryz.prog 130 #[.pointer (some ⟨bt, 0, none⟩), .agg #[.int .i64 (p : Int), .int .i64 wa], .agg #[.int .i64 (q : Int), .int .i64 wb]] w fun e w' => e = .returned (.bool (joinB v p wa q wb)) ∧ Below w.heap.size w w' := by
 have H : Hid (v.Ok ∧ TkAt w bt sb v pa pc ja jc) := ⟨ok, h⟩
 have hm1 := ok.m1
 obtain ⟨h0, h1, h2⟩ : 0 ≤ (headE p wa).pc ∧ (headE p wa).pc < v.n ∧ ((headE p wa).sd = 0 ∨ (headE p wa).sd = 1) := by
  refine ⟨by show (0 : Int) ≤ (p : Int); omega, by show (p : Int) < (v.n : Int); omega, ?_⟩
  show (if wa = 1 then (1 : Int) else 0) = 0 ∨ (if wa = 1 then (1 : Int) else 0) = 1
  split
  ·
   exact Or.inr rfl
  ·
   exact Or.inl rfl
 obtain ⟨j, k, hat, hja, hjm, hkn, hEk, hk1, hk2, hk3⟩ := ok.there h0 h1 h2
 have HAT : Hid (v.at (headE p wa) = (j, k)) := hat
 obtain ⟨ex, HEX⟩ : ∃ ex, Hid (acrossF (v.J j).kd.toNat k = ex) := ⟨_, rfl⟩
 have hxl : ex.length ≤ 2 := by rw [← HEX.out]; exact exits_le _ _
 have HXB : Hid (∀ i, i < ex.length → ex.getD i 0 < (v.J j).ne) := fun i hi => by
  rw [← HEX.out] at hi ⊢
  exact exits_lt hk1 hk2 hk3 hkn hi
 have HV : Hid (joinB v p wa q wb = ex.any fun x => eqB ((v.J j).E x) (headE q (-wb))) := by
  show _ = _
  rw [joinB, exitsOf, HAT.out, HEX.out]
 obtain ⟨R, HR⟩ : ∃ R, Hid (joinB v p wa q wb = R) := ⟨_, rfl⟩
 rw [HR.out]
 have HKD : Hid (1 ≤ (v.J j).kd ∧ (v.J j).kd ≤ 4 ∧ ((v.J j).ne : Int) = (v.J j).kd) := ⟨hk1, hk2, hk3⟩
 have S0 : Hid (Below w.heap.size w ((w.alloc (.cells #[.int .i64 (p : Int), .int .i64 wa] 74)).alloc (.cells #[.int .i64 (q : Int), .int .i64 wb] 74)) ∧ Box ((w.alloc (.cells #[.int .i64 (p : Int), .int .i64 wa] 74)).alloc (.cells #[.int .i64 (q : Int), .int .i64 wb] 74)) w.heap.size 74 #[.int .i64 (p : Int), .int .i64 wa] ∧ Box ((w.alloc (.cells #[.int .i64 (p : Int), .int .i64 wa] 74)).alloc (.cells #[.int .i64 (q : Int), .int .i64 wb] 74)) (w.heap.size + 1) 74 #[.int .i64 (q : Int), .int .i64 wb] ∧ TkAt ((w.alloc (.cells #[.int .i64 (p : Int), .int .i64 wa] 74)).alloc (.cells #[.int .i64 (q : Int), .int .i64 wb] 74)) bt sb v pa pc ja jc) := ⟨bel2 _ _ _, (Box.new _ _ _).alloc _, by have := Box.new (w.alloc (.cells #[.int .i64 (p : Int), .int .i64 wa] 74)) 74 #[.int .i64 (q : Int), .int .i64 wb]; simpa using this, h.mono (bel2 _ _ _) (Nat.le_refl _)⟩
 clear ok h h0 h1 h2 hat hja hEk hk1 hk2 hk3
 go_enter Tryz.func130, Tryz.ntmps130
 go_upto_region 1 with fail
 generalize ((w.alloc (.cells #[.int .i64 (p : Int), .int .i64 wa] 74)).alloc (.cells #[.int .i64 (q : Int), .int .i64 wb] 74)) = V0 at S0 ⊢
 have s0 : V0.cell? ⟨w.heap.size, 0, none⟩ = some (.int .i64 (p : Int)) := S0.out.2.1.cell 0
 have s1 : V0.cell? ⟨w.heap.size, 1, none⟩ = some (.int .i64 wa) := S0.out.2.1.cell 1
 go_wp2_with fail
 clear s0 s1
 refine (ahead95 H.out.1 p wa V0 S0.out.2.2.2 hp hwa).mono ?_
 rw [HAT.out]
 rintro e w1 ⟨rfl, hb1⟩
 have M1 : Hid (Below w.heap.size w w1 ∧ Box w1 w.heap.size 74 #[.int .i64 (p : Int), .int .i64 wa] ∧ Box w1 (w.heap.size + 1) 74 #[.int .i64 (q : Int), .int .i64 wb] ∧ TkAt w1 bt sb v pa pc ja jc) := ⟨S0.out.1.trans (hb1.mono S0.out.1.size), S0.out.2.1.mono hb1 (Nat.le_refl _), S0.out.2.2.1.mono hb1 (Nat.le_refl _), S0.out.2.2.2.mono hb1 (Nat.le_refl _)⟩
 clear hb1 S0
 have M2 : Hid ((Below w.heap.size w (w1.alloc (.cells #[.int .i64 (j : Int), .int .i64 (k : Int)] 172)) ∧ Box (w1.alloc (.cells #[.int .i64 (j : Int), .int .i64 (k : Int)] 172)) w.heap.size 74 #[.int .i64 (p : Int), .int .i64 wa] ∧ Box (w1.alloc (.cells #[.int .i64 (j : Int), .int .i64 (k : Int)] 172)) (w.heap.size + 1) 74 #[.int .i64 (q : Int), .int .i64 wb] ∧ TkAt (w1.alloc (.cells #[.int .i64 (j : Int), .int .i64 (k : Int)] 172)) bt sb v pa pc ja jc) ∧ Box (w1.alloc (.cells #[.int .i64 (j : Int), .int .i64 (k : Int)] 172)) w1.heap.size 172 #[.int .i64 (j : Int), .int .i64 (k : Int)]) := ⟨⟨M1.out.1.alloc M1.out.1.size _, M1.out.2.1.alloc _, M1.out.2.2.1.alloc _, M1.out.2.2.2.mono (bel1 _ _) (Nat.le_refl _)⟩, Box.new _ _ _⟩
 clear M1
 go_upto_region 2 with fail
 generalize w1.alloc (.cells #[.int .i64 (j : Int), .int .i64 (k : Int)] 172) = V2 at M2 ⊢
 generalize w1.heap.size = aq at M2 ⊢
 have MD : Hid ((Below w.heap.size w V2.drew ∧ Box V2.drew w.heap.size 74 #[.int .i64 (p : Int), .int .i64 wa] ∧ Box V2.drew (w.heap.size + 1) 74 #[.int .i64 (q : Int), .int .i64 wb] ∧ TkAt V2.drew bt sb v pa pc ja jc) ∧ Box V2.drew aq 172 #[.int .i64 (j : Int), .int .i64 (k : Int)]) := ⟨⟨M2.out.1.1.drew, M2.out.1.2.1.drew, M2.out.1.2.2.1.drew, M2.out.1.2.2.2.mono (Below.refl V2.heap.size V2).drew (Nat.le_refl _)⟩, M2.out.2.drew⟩
 have HM : Hid (∀ W, Below V2.drew.heap.size V2.drew W → (Below w.heap.size w W ∧ Box W w.heap.size 74 #[.int .i64 (p : Int), .int .i64 wa] ∧ Box W (w.heap.size + 1) 74 #[.int .i64 (q : Int), .int .i64 wb] ∧ TkAt W bt sb v pa pc ja jc) ∧ Box W aq 172 #[.int .i64 (j : Int), .int .i64 (k : Int)]) := fun W hb => ⟨⟨MD.out.1.1.trans (hb.mono MD.out.1.1.size), MD.out.1.2.1.mono hb (Nat.le_refl _), MD.out.1.2.2.1.mono hb (Nat.le_refl _), MD.out.1.2.2.2.mono hb (Nat.le_refl _)⟩, MD.out.2.mono hb (Nat.le_refl _)⟩
 have a0 : V2.cell? ⟨aq, 0, none⟩ = some (.int .i64 (j : Int)) := M2.out.2.cell 0
 have a1 : V2.cell? ⟨aq, 1, none⟩ = some (.int .i64 (k : Int)) := M2.out.2.cell 1
 have m1 := mo1
 have m2 := mo2
 have m3 := mo3
 have m4 := mo4
 go_wp2_with fail
 rcases (show (v.J j).kd = 1 ∨ (v.J j).kd = 2 ∨ (v.J j).kd = 3 ∨ (v.J j).kd = 4 by have := HKD.out; omega) with hkd | hkd | hkd | hkd
 ·
  have HKV : Hid (kindV (v.J j).kd = .iface 183 (.agg #[])) := by show _ = _; rw [hkd]; rfl
  have HNE : Hid ((v.J j).ne = 1) := by have := HKD.out; show _ = _; omega
  rw [hkd] at HEX
  refine wp_region_held_drew (S := (fun wx : World => wx.cell? ⟨aq, 0, none⟩ = some (.int .i64 (j : Int)) ∧ wx.cell? ⟨aq, 1, none⟩ = some (.int .i64 (k : Int)))) (by kernel_rfl) ?_ (fun hHeld => ?_)
  ·
   exact ⟨a0, a1⟩
  refine tk 0 ?_
  refine tk 1 ?_
  refine tk 2 ?_
  refine tk 4 ?_
  refine tk 5 ?_
  refine tk 8 ?_
  refine rl 3 fun K hK => ?_
  go_simp
  refine (kind96 H.out.1 j _ MD.out.1.2.2.2 hjm).mono ?_
  rintro e w4 ⟨he, hw4⟩
  have hw4 := hw4.symm
  subst hw4
  rw [HKV.out] at he
  subst he
  go_wp2_with fail
  refine hK.out _ _ ?_ (fun hHeld3 => ?_)
  ·
   exact hHeld
  clear hK K
  refine rl 6 fun K hK => ?_
  go_simp
  refine (overBuffer k _).mono ?_
  rintro e w5 ⟨rfl, hb5⟩
  have HNS : Hid (NsAt 1 0 w5 none ex.length (fun i _ => ((ex.getD i 0 : Nat) : Int)) ∧ ex.length = 0) := ⟨fun h => absurd h (by rw [← HEX.out, across_one]; decide), by rw [← HEX.out, across_one]; rfl⟩
  have M5 : Hid ((Below w.heap.size w w5 ∧ Box w5 w.heap.size 74 #[.int .i64 (p : Int), .int .i64 wa] ∧ Box w5 (w.heap.size + 1) 74 #[.int .i64 (q : Int), .int .i64 wb] ∧ TkAt w5 bt sb v pa pc ja jc) ∧ Box w5 aq 172 #[.int .i64 (j : Int), .int .i64 (k : Int)]) := HM.out w5 hb5
  clear hb5
  go_wp2_with fail
  refine hK.out _ _ ?_ (fun hHeld6 => ?_)
  ·
   exact ⟨M5.out.2.cell 0, M5.out.2.cell 1⟩
  clear hK K
  refine tk 7 ?_
  refine wpAnyH_done (by kernel_rfl) ?_ _
  have HT : Hid (R = false) := HR.out.symm.trans (HV.out.trans (any_no fun r hr => absurd hr (by rw [HNS.out.2]; omega)))
  clear a0 a1
  go_wp2_with fail
  have HE : Hid (Below w.heap.size w w5) := M5.out.1.1
  refine wp_loop_rounds 1 ?_
  rw [rounds_succ]
  go_wp2_with fail
  go_ret
  exact ⟨by rw [HT.out]; rfl, HE.out⟩
 ·
  have HKV : Hid (kindV (v.J j).kd = .iface 184 (.agg #[])) := by show _ = _; rw [hkd]; rfl
  have HNE : Hid ((v.J j).ne = 2) := by have := HKD.out; show _ = _; omega
  rw [hkd] at HEX
  refine wp_region_held_drew (S := (fun wx : World => wx.cell? ⟨aq, 0, none⟩ = some (.int .i64 (j : Int)) ∧ wx.cell? ⟨aq, 1, none⟩ = some (.int .i64 (k : Int)))) (by kernel_rfl) ?_ (fun hHeld => ?_)
  ·
   exact ⟨a0, a1⟩
  refine tk 0 ?_
  refine tk 1 ?_
  refine tk 2 ?_
  refine tk 4 ?_
  refine tk 5 ?_
  refine tk 8 ?_
  refine rl 3 fun K hK => ?_
  go_simp
  refine (kind96 H.out.1 j _ MD.out.1.2.2.2 hjm).mono ?_
  rintro e w4 ⟨he, hw4⟩
  have hw4 := hw4.symm
  subst hw4
  rw [HKV.out] at he
  subst he
  go_wp2_with fail
  refine hK.out _ _ ?_ (fun hHeld3 => ?_)
  ·
   exact hHeld
  clear hK K
  refine rl 6 fun K hK => ?_
  go_simp
  refine (overPlain k _ (by have := HNE.out; omega)).mono ?_
  rintro e w5 ⟨xa, xc, he, hns, hb5⟩
  have HEX2 : Hid (acrossF 2 k = ex) := HEX.out
  rw [HEX2.out] at he hns
  subst he
  have HNS : Hid (NsAt 1 0 w5 xa ex.length (fun i _ => ((ex.getD i 0 : Nat) : Int))) := hns.keep (Nat.zero_le _) (Nat.le_refl _) fun _ _ _ => rfl
  clear hns
  have M5 : Hid ((Below w.heap.size w w5 ∧ Box w5 w.heap.size 74 #[.int .i64 (p : Int), .int .i64 wa] ∧ Box w5 (w.heap.size + 1) 74 #[.int .i64 (q : Int), .int .i64 wb] ∧ TkAt w5 bt sb v pa pc ja jc) ∧ Box w5 aq 172 #[.int .i64 (j : Int), .int .i64 (k : Int)]) := HM.out w5 hb5
  clear hb5
  go_wp2_with fail
  refine hK.out _ _ ?_ (fun hHeld6 => ?_)
  ·
   exact ⟨M5.out.2.cell 0, M5.out.2.cell 1⟩
  clear hK K
  refine tk 7 ?_
  refine wpAnyH_done (by kernel_rfl) ?_ _
  have T0 : Hid (((Below w.heap.size w w5 ∧ Box w5 w.heap.size 74 #[.int .i64 (p : Int), .int .i64 wa] ∧ Box w5 (w.heap.size + 1) 74 #[.int .i64 (q : Int), .int .i64 wb] ∧ TkAt w5 bt sb v pa pc ja jc) ∧ Box w5 aq 172 #[.int .i64 (j : Int), .int .i64 (k : Int)]) ∧ NsAt 1 0 w5 xa ex.length (fun i _ => ((ex.getD i 0 : Nat) : Int))) := ⟨M5.out, HNS.out⟩
  clear a0 a1 M5 HNS M2 MD HM m1 m2 m3 m4
  go_wp2_with fail
  go_loopw [21] (fun c wr => ∃ i : Nat, i ≤ ex.length ∧ c = .int .i64 i ∧ Hid (∀ r, r < i → eqB ((v.J j).E (ex.getD r 0)) (headE q (-wb)) = false) ∧ Hid (((Below w.heap.size w wr ∧ Box wr w.heap.size 74 #[.int .i64 (p : Int), .int .i64 wa] ∧ Box wr (w.heap.size + 1) 74 #[.int .i64 (q : Int), .int .i64 wb] ∧ TkAt wr bt sb v pa pc ja jc) ∧ Box wr aq 172 #[.int .i64 (j : Int), .int .i64 (k : Int)]) ∧ NsAt 1 0 wr xa ex.length (fun i _ => ((ex.getD i 0 : Nat) : Int)))) (fun c _ => ex.length - (intOf c).toNat)
  case atStart => exact ⟨0, Nat.zero_le _, rfl, fun r hr => absurd hr (Nat.not_lt_zero _), T0⟩
  case round =>
   clear T0
   obtain ⟨i, hi, rfl, HK, T⟩ := hrel
   by_cases hlt : i < ex.length
   ·
    obtain ⟨xb, xo, rfl, _, hxb, hxc⟩ := T.out.2 (by omega)
    have x0 : wr.cell? ⟨xb, xo + i, none⟩ = some (.int .i64 ((ex.getD i 0 : Nat) : Int)) := by
     have := hxc i hlt 0 (by omega)
     rwa [Nat.mul_one, Nat.add_zero] at this
    have hi0 : (0 : Int) ≤ (i : Int) := by omega
    have hin : (i : Int) < (ex.length : Int) := by omega
    obtain ⟨x, HXX⟩ : ∃ x, Hid (ex.getD i 0 = x) := ⟨_, rfl⟩
    have hxn : x < (v.J j).ne := by rw [← HXX.out]; exact HXB.out i hlt
    rw [HXX.out] at x0
    obtain ⟨jb, jo, hje, _, hjb, hjc⟩ := T.out.1.1.2.2.2.j (by omega)
    obtain ⟨ea, ec, c0, c1, c2, hEs⟩ := hjc j hjm
    obtain ⟨eb, eo, hee, _, heb, hec⟩ := hEs (by omega)
    obtain ⟨d0, d1⟩ := hec x hxn
    have HSD : Hid (((v.J j).E x).sd = 0 ∨ ((v.J j).E x).sd = 1) := (H.out.1.en j hjm x hxn).2.2
    obtain ⟨ep, HEP⟩ : ∃ z, Hid (((v.J j).E x).pc = z) := ⟨_, rfl⟩
    obtain ⟨es, HES⟩ : ∃ z, Hid (((v.J j).E x).sd = z) := ⟨_, rfl⟩
    rw [HEP.out] at d0
    rw [HES.out] at d1
    rw [hee] at c2
    have f1 : wr.cell? ⟨bt, 1, none⟩ = some (.slice (some ⟨jb, jo, none⟩) v.m jc) := by rw [← hje]; exact T.out.1.1.2.2.2.box.cell 1
    have a0 : wr.cell? ⟨aq, 0, none⟩ = some (.int .i64 (j : Int)) := T.out.1.2.cell 0
    have t0 : wr.cell? ⟨w.heap.size + 1, 0, none⟩ = some (.int .i64 (q : Int)) := T.out.1.1.2.2.1.cell 0
    have t1 : wr.cell? ⟨w.heap.size + 1, 1, none⟩ = some (.int .i64 wb) := T.out.1.1.2.2.1.cell 1
    have HCL : Hid (jb < wr.heap.size ∧ eb < wr.heap.size) := ⟨hjb, heb⟩
    have hji : (j : Int) < (v.m : Int) := by omega
    have hj0 : (0 : Int) ≤ (j : Int) := by omega
    have hx0 : (0 : Int) ≤ (x : Int) := by omega
    have hxi : (x : Int) < ((v.J j).ne : Int) := by omega
    have MW : Hid (∀ W, Below wr.heap.size wr W → (((Below w.heap.size w W ∧ Box W w.heap.size 74 #[.int .i64 (p : Int), .int .i64 wa] ∧ Box W (w.heap.size + 1) 74 #[.int .i64 (q : Int), .int .i64 wb] ∧ TkAt W bt sb v pa pc ja jc) ∧ Box W aq 172 #[.int .i64 (j : Int), .int .i64 (k : Int)]) ∧ NsAt 1 0 W (some ⟨xb, xo, none⟩) ex.length (fun i _ => ((ex.getD i 0 : Nat) : Int)))) := fun W hb => ⟨⟨⟨T.out.1.1.1.trans (hb.mono T.out.1.1.1.size), T.out.1.1.2.1.mono hb (Nat.le_refl _), T.out.1.1.2.2.1.mono hb (Nat.le_refl _), T.out.1.1.2.2.2.mono hb (Nat.le_refl _)⟩, T.out.1.2.mono hb (Nat.le_refl _)⟩, T.out.2.mono (Nat.le_refl _) hb (Nat.le_refl _)⟩
    have HN : Hid (eqB ((v.J j).E x) (headE q (-wb)) = false → ∀ r, r < i + 1 → eqB ((v.J j).E (ex.getD r 0)) (headE q (-wb)) = false) := fun h r hr => by
     by_cases c : r = i
     ·
      subst c
      rw [HXX.out]
      exact h
     ·
      exact HK.out r (by omega)
    have HAW : Hid (eqB ((v.J j).E x) (headE q (-wb)) = (decide (ep = (q : Int)) && decide (wayOf ⟨ep, es⟩ = wb))) := by
     show _ = _
     rw [away_eq HSD.out hwb, ← HEP.out, ← HES.out]
    have hes : es = 0 ∨ es = 1 := by rw [← HES.out]; exact HSD.out
    obtain ⟨wy, HWY⟩ : ∃ z, Hid (wayOf ⟨ep, es⟩ = z) := ⟨_, rfl⟩
    rw [HWY.out] at HAW
    have DR : Hid (Below wr.heap.size wr wr.drew) := (Below.refl _ _).drew
    clear hxc hjc hEs hec c0 c1 hje hee hjb heb
    go_wp2_with fail
    refine wp_region_held_drew (S := (fun wx : World => wx.cell? ⟨bt, 1, none⟩ = some (.slice (some ⟨jb, jo, none⟩) v.m jc) ∧ wx.cell? ⟨aq, 0, none⟩ = some (.int .i64 (j : Int)) ∧ wx.cell? ⟨jb, jo + j * 3 + 2, none⟩ = some (.slice (some ⟨eb, eo, none⟩) (v.J j).ne ec) ∧ wx.cell? ⟨eb, eo + x * 2, none⟩ = some (.int .i64 ep) ∧ wx.cell? ⟨eb, eo + x * 2 + 1, none⟩ = some (.int .i64 es) ∧ wx.cell? ⟨w.heap.size + 1, 0, none⟩ = some (.int .i64 (q : Int)) ∧ wx.cell? ⟨w.heap.size + 1, 1, none⟩ = some (.int .i64 wb))) (by kernel_rfl) ?_ (fun hHeld => ?_)
    ·
     exact ⟨f1, a0, c2, d0, d1, t0, t1⟩
    refine tk 0 ?_
    refine tk 1 ?_
    refine tk 2 ?_
    refine tk 3 ?_
    refine tk 4 ?_
    refine tk 5 ?_
    refine tk 6 ?_
    refine tk 7 ?_
    refine tk 8 ?_
    refine tk 9 ?_
    refine tk 10 ?_
    refine tk 11 ?_
    refine tk 12 ?_
    refine tk 14 ?_
    refine rl 13 fun K hK => ?_
    go_simp
    refine (away101 ep es _ hes).mono ?_
    rw [HWY.out]
    rintro e w6 ⟨rfl, hb6⟩
    have B6 := DR.out.trans (hb6.mono DR.out.size)
    have M6 := MW.out w6 B6
    go_wp2_with fail
    refine hK.out _ _ ?_ (fun hHeld13 => ?_)
    ·
     exact ⟨cell_keep B6 (T.out.1.1.2.2.2.box.lt) f1, M6.1.2.cell 0, cell_keep B6 HCL.out.1 c2, cell_keep B6 HCL.out.2 d0, cell_keep B6 HCL.out.2 d1, M6.1.1.2.2.1.cell 0, M6.1.1.2.2.1.cell 1⟩
    clear hK K
    have MF : Hid (((Below w.heap.size w w6 ∧ Box w6 w.heap.size 74 #[.int .i64 (p : Int), .int .i64 wa] ∧ Box w6 (w.heap.size + 1) 74 #[.int .i64 (q : Int), .int .i64 wb] ∧ TkAt w6 bt sb v pa pc ja jc) ∧ Box w6 aq 172 #[.int .i64 (j : Int), .int .i64 (k : Int)]) ∧ NsAt 1 0 w6 (some ⟨xb, xo, none⟩) ex.length (fun i _ => ((ex.getD i 0 : Nat) : Int))) := M6
    clear hb6 B6 M6 f1 a0 c2 d0 d1 t0 t1 T MW DR x0
    by_cases h1 : ep = (q : Int)
    ·
     by_cases h2 : wy = wb
     ·
      have HT : Hid (R = true) := HR.out.symm.trans (HV.out.trans (any_getD.2 ⟨i, hlt, by rw [HXX.out, HAW.out, decide_eq_true h1, decide_eq_true h2]; rfl⟩))
      rw [h1] at hHeld13 ⊢
      rw [h2]
      refine tk 15 ?_
      refine wpAnyH_done (by kernel_rfl) ?_ _
      go_wp2_with fail
      go_ret
      exact ⟨by rw [HT.out]; rfl, MF.out.1.1.1⟩
     ·
      have HX : Hid (∀ r, r < i + 1 → eqB ((v.J j).E (ex.getD r 0)) (headE q (-wb)) = false) := HN.out (by rw [HAW.out, decide_eq_false h2, Bool.and_false])
      rw [h1] at hHeld13 ⊢
      refine tk 15 ?_
      refine wpAnyH_done (by kernel_rfl) ?_ _
      go_wp2_with fail
      go_roundw
      case rel => exact ⟨i + 1, by omega, by go_num, HX, MF⟩
      case measure => simp [intOf]; omega
    ·
     have HX : Hid (∀ r, r < i + 1 → eqB ((v.J j).E (ex.getD r 0)) (headE q (-wb)) = false) := HN.out (by rw [HAW.out, decide_eq_false h1, Bool.false_and])
     refine tk 15 ?_
     refine wpAnyH_done (by kernel_rfl) ?_ _
     go_wp2_with fail
     go_roundw
     case rel => exact ⟨i + 1, by omega, by go_num, HX, MF⟩
     case measure => simp [intOf]; omega
   ·
    have HT : Hid (R = false) := HR.out.symm.trans (HV.out.trans (any_no fun r hr => HK.out r (by omega)))
    have hge : ¬ ((i : Int) < (ex.length : Int)) := by omega
    go_wp2_with fail
    go_ret
    exact ⟨by rw [HT.out]; rfl, T.out.1.1.1⟩
 ·
  have HKV : Hid (kindV (v.J j).kd = .iface 182 (.agg #[])) := by show _ = _; rw [hkd]; rfl
  have HNE : Hid ((v.J j).ne = 3) := by have := HKD.out; show _ = _; omega
  rw [hkd] at HEX
  refine wp_region_held_drew (S := (fun wx : World => wx.cell? ⟨aq, 0, none⟩ = some (.int .i64 (j : Int)) ∧ wx.cell? ⟨aq, 1, none⟩ = some (.int .i64 (k : Int)))) (by kernel_rfl) ?_ (fun hHeld => ?_)
  ·
   exact ⟨a0, a1⟩
  refine tk 0 ?_
  refine tk 1 ?_
  refine tk 2 ?_
  refine tk 4 ?_
  refine tk 5 ?_
  refine tk 8 ?_
  refine rl 3 fun K hK => ?_
  go_simp
  refine (kind96 H.out.1 j _ MD.out.1.2.2.2 hjm).mono ?_
  rintro e w4 ⟨he, hw4⟩
  have hw4 := hw4.symm
  subst hw4
  rw [HKV.out] at he
  subst he
  go_wp2_with fail
  refine hK.out _ _ ?_ (fun hHeld3 => ?_)
  ·
   exact hHeld
  clear hK K
  refine rl 6 fun K hK => ?_
  go_simp
  refine (overSwitch k _ (by have := HNE.out; omega)).mono ?_
  rintro e w5 ⟨xa, xc, he, hns, hb5⟩
  have HEX2 : Hid (acrossF 3 k = ex) := HEX.out
  rw [HEX2.out] at he hns
  subst he
  have HNS : Hid (NsAt 1 0 w5 xa ex.length (fun i _ => ((ex.getD i 0 : Nat) : Int))) := hns.keep (Nat.zero_le _) (Nat.le_refl _) fun _ _ _ => rfl
  clear hns
  have M5 : Hid ((Below w.heap.size w w5 ∧ Box w5 w.heap.size 74 #[.int .i64 (p : Int), .int .i64 wa] ∧ Box w5 (w.heap.size + 1) 74 #[.int .i64 (q : Int), .int .i64 wb] ∧ TkAt w5 bt sb v pa pc ja jc) ∧ Box w5 aq 172 #[.int .i64 (j : Int), .int .i64 (k : Int)]) := HM.out w5 hb5
  clear hb5
  go_wp2_with fail
  refine hK.out _ _ ?_ (fun hHeld6 => ?_)
  ·
   exact ⟨M5.out.2.cell 0, M5.out.2.cell 1⟩
  clear hK K
  refine tk 7 ?_
  refine wpAnyH_done (by kernel_rfl) ?_ _
  have T0 : Hid (((Below w.heap.size w w5 ∧ Box w5 w.heap.size 74 #[.int .i64 (p : Int), .int .i64 wa] ∧ Box w5 (w.heap.size + 1) 74 #[.int .i64 (q : Int), .int .i64 wb] ∧ TkAt w5 bt sb v pa pc ja jc) ∧ Box w5 aq 172 #[.int .i64 (j : Int), .int .i64 (k : Int)]) ∧ NsAt 1 0 w5 xa ex.length (fun i _ => ((ex.getD i 0 : Nat) : Int))) := ⟨M5.out, HNS.out⟩
  clear a0 a1 M5 HNS M2 MD HM m1 m2 m3 m4
  go_wp2_with fail
  go_loopw [21] (fun c wr => ∃ i : Nat, i ≤ ex.length ∧ c = .int .i64 i ∧ Hid (∀ r, r < i → eqB ((v.J j).E (ex.getD r 0)) (headE q (-wb)) = false) ∧ Hid (((Below w.heap.size w wr ∧ Box wr w.heap.size 74 #[.int .i64 (p : Int), .int .i64 wa] ∧ Box wr (w.heap.size + 1) 74 #[.int .i64 (q : Int), .int .i64 wb] ∧ TkAt wr bt sb v pa pc ja jc) ∧ Box wr aq 172 #[.int .i64 (j : Int), .int .i64 (k : Int)]) ∧ NsAt 1 0 wr xa ex.length (fun i _ => ((ex.getD i 0 : Nat) : Int)))) (fun c _ => ex.length - (intOf c).toNat)
  case atStart => exact ⟨0, Nat.zero_le _, rfl, fun r hr => absurd hr (Nat.not_lt_zero _), T0⟩
  case round =>
   clear T0
   obtain ⟨i, hi, rfl, HK, T⟩ := hrel
   by_cases hlt : i < ex.length
   ·
    obtain ⟨xb, xo, rfl, _, hxb, hxc⟩ := T.out.2 (by omega)
    have x0 : wr.cell? ⟨xb, xo + i, none⟩ = some (.int .i64 ((ex.getD i 0 : Nat) : Int)) := by
     have := hxc i hlt 0 (by omega)
     rwa [Nat.mul_one, Nat.add_zero] at this
    have hi0 : (0 : Int) ≤ (i : Int) := by omega
    have hin : (i : Int) < (ex.length : Int) := by omega
    obtain ⟨x, HXX⟩ : ∃ x, Hid (ex.getD i 0 = x) := ⟨_, rfl⟩
    have hxn : x < (v.J j).ne := by rw [← HXX.out]; exact HXB.out i hlt
    rw [HXX.out] at x0
    obtain ⟨jb, jo, hje, _, hjb, hjc⟩ := T.out.1.1.2.2.2.j (by omega)
    obtain ⟨ea, ec, c0, c1, c2, hEs⟩ := hjc j hjm
    obtain ⟨eb, eo, hee, _, heb, hec⟩ := hEs (by omega)
    obtain ⟨d0, d1⟩ := hec x hxn
    have HSD : Hid (((v.J j).E x).sd = 0 ∨ ((v.J j).E x).sd = 1) := (H.out.1.en j hjm x hxn).2.2
    obtain ⟨ep, HEP⟩ : ∃ z, Hid (((v.J j).E x).pc = z) := ⟨_, rfl⟩
    obtain ⟨es, HES⟩ : ∃ z, Hid (((v.J j).E x).sd = z) := ⟨_, rfl⟩
    rw [HEP.out] at d0
    rw [HES.out] at d1
    rw [hee] at c2
    have f1 : wr.cell? ⟨bt, 1, none⟩ = some (.slice (some ⟨jb, jo, none⟩) v.m jc) := by rw [← hje]; exact T.out.1.1.2.2.2.box.cell 1
    have a0 : wr.cell? ⟨aq, 0, none⟩ = some (.int .i64 (j : Int)) := T.out.1.2.cell 0
    have t0 : wr.cell? ⟨w.heap.size + 1, 0, none⟩ = some (.int .i64 (q : Int)) := T.out.1.1.2.2.1.cell 0
    have t1 : wr.cell? ⟨w.heap.size + 1, 1, none⟩ = some (.int .i64 wb) := T.out.1.1.2.2.1.cell 1
    have HCL : Hid (jb < wr.heap.size ∧ eb < wr.heap.size) := ⟨hjb, heb⟩
    have hji : (j : Int) < (v.m : Int) := by omega
    have hj0 : (0 : Int) ≤ (j : Int) := by omega
    have hx0 : (0 : Int) ≤ (x : Int) := by omega
    have hxi : (x : Int) < ((v.J j).ne : Int) := by omega
    have MW : Hid (∀ W, Below wr.heap.size wr W → (((Below w.heap.size w W ∧ Box W w.heap.size 74 #[.int .i64 (p : Int), .int .i64 wa] ∧ Box W (w.heap.size + 1) 74 #[.int .i64 (q : Int), .int .i64 wb] ∧ TkAt W bt sb v pa pc ja jc) ∧ Box W aq 172 #[.int .i64 (j : Int), .int .i64 (k : Int)]) ∧ NsAt 1 0 W (some ⟨xb, xo, none⟩) ex.length (fun i _ => ((ex.getD i 0 : Nat) : Int)))) := fun W hb => ⟨⟨⟨T.out.1.1.1.trans (hb.mono T.out.1.1.1.size), T.out.1.1.2.1.mono hb (Nat.le_refl _), T.out.1.1.2.2.1.mono hb (Nat.le_refl _), T.out.1.1.2.2.2.mono hb (Nat.le_refl _)⟩, T.out.1.2.mono hb (Nat.le_refl _)⟩, T.out.2.mono (Nat.le_refl _) hb (Nat.le_refl _)⟩
    have HN : Hid (eqB ((v.J j).E x) (headE q (-wb)) = false → ∀ r, r < i + 1 → eqB ((v.J j).E (ex.getD r 0)) (headE q (-wb)) = false) := fun h r hr => by
     by_cases c : r = i
     ·
      subst c
      rw [HXX.out]
      exact h
     ·
      exact HK.out r (by omega)
    have HAW : Hid (eqB ((v.J j).E x) (headE q (-wb)) = (decide (ep = (q : Int)) && decide (wayOf ⟨ep, es⟩ = wb))) := by
     show _ = _
     rw [away_eq HSD.out hwb, ← HEP.out, ← HES.out]
    have hes : es = 0 ∨ es = 1 := by rw [← HES.out]; exact HSD.out
    obtain ⟨wy, HWY⟩ : ∃ z, Hid (wayOf ⟨ep, es⟩ = z) := ⟨_, rfl⟩
    rw [HWY.out] at HAW
    have DR : Hid (Below wr.heap.size wr wr.drew) := (Below.refl _ _).drew
    clear hxc hjc hEs hec c0 c1 hje hee hjb heb
    go_wp2_with fail
    refine wp_region_held_drew (S := (fun wx : World => wx.cell? ⟨bt, 1, none⟩ = some (.slice (some ⟨jb, jo, none⟩) v.m jc) ∧ wx.cell? ⟨aq, 0, none⟩ = some (.int .i64 (j : Int)) ∧ wx.cell? ⟨jb, jo + j * 3 + 2, none⟩ = some (.slice (some ⟨eb, eo, none⟩) (v.J j).ne ec) ∧ wx.cell? ⟨eb, eo + x * 2, none⟩ = some (.int .i64 ep) ∧ wx.cell? ⟨eb, eo + x * 2 + 1, none⟩ = some (.int .i64 es) ∧ wx.cell? ⟨w.heap.size + 1, 0, none⟩ = some (.int .i64 (q : Int)) ∧ wx.cell? ⟨w.heap.size + 1, 1, none⟩ = some (.int .i64 wb))) (by kernel_rfl) ?_ (fun hHeld => ?_)
    ·
     exact ⟨f1, a0, c2, d0, d1, t0, t1⟩
    refine tk 0 ?_
    refine tk 1 ?_
    refine tk 2 ?_
    refine tk 3 ?_
    refine tk 4 ?_
    refine tk 5 ?_
    refine tk 6 ?_
    refine tk 7 ?_
    refine tk 8 ?_
    refine tk 9 ?_
    refine tk 10 ?_
    refine tk 11 ?_
    refine tk 12 ?_
    refine tk 14 ?_
    refine rl 13 fun K hK => ?_
    go_simp
    refine (away101 ep es _ hes).mono ?_
    rw [HWY.out]
    rintro e w6 ⟨rfl, hb6⟩
    have B6 := DR.out.trans (hb6.mono DR.out.size)
    have M6 := MW.out w6 B6
    go_wp2_with fail
    refine hK.out _ _ ?_ (fun hHeld13 => ?_)
    ·
     exact ⟨cell_keep B6 (T.out.1.1.2.2.2.box.lt) f1, M6.1.2.cell 0, cell_keep B6 HCL.out.1 c2, cell_keep B6 HCL.out.2 d0, cell_keep B6 HCL.out.2 d1, M6.1.1.2.2.1.cell 0, M6.1.1.2.2.1.cell 1⟩
    clear hK K
    have MF : Hid (((Below w.heap.size w w6 ∧ Box w6 w.heap.size 74 #[.int .i64 (p : Int), .int .i64 wa] ∧ Box w6 (w.heap.size + 1) 74 #[.int .i64 (q : Int), .int .i64 wb] ∧ TkAt w6 bt sb v pa pc ja jc) ∧ Box w6 aq 172 #[.int .i64 (j : Int), .int .i64 (k : Int)]) ∧ NsAt 1 0 w6 (some ⟨xb, xo, none⟩) ex.length (fun i _ => ((ex.getD i 0 : Nat) : Int))) := M6
    clear hb6 B6 M6 f1 a0 c2 d0 d1 t0 t1 T MW DR x0
    by_cases h1 : ep = (q : Int)
    ·
     by_cases h2 : wy = wb
     ·
      have HT : Hid (R = true) := HR.out.symm.trans (HV.out.trans (any_getD.2 ⟨i, hlt, by rw [HXX.out, HAW.out, decide_eq_true h1, decide_eq_true h2]; rfl⟩))
      rw [h1] at hHeld13 ⊢
      rw [h2]
      refine tk 15 ?_
      refine wpAnyH_done (by kernel_rfl) ?_ _
      go_wp2_with fail
      go_ret
      exact ⟨by rw [HT.out]; rfl, MF.out.1.1.1⟩
     ·
      have HX : Hid (∀ r, r < i + 1 → eqB ((v.J j).E (ex.getD r 0)) (headE q (-wb)) = false) := HN.out (by rw [HAW.out, decide_eq_false h2, Bool.and_false])
      rw [h1] at hHeld13 ⊢
      refine tk 15 ?_
      refine wpAnyH_done (by kernel_rfl) ?_ _
      go_wp2_with fail
      go_roundw
      case rel => exact ⟨i + 1, by omega, by go_num, HX, MF⟩
      case measure => simp [intOf]; omega
    ·
     have HX : Hid (∀ r, r < i + 1 → eqB ((v.J j).E (ex.getD r 0)) (headE q (-wb)) = false) := HN.out (by rw [HAW.out, decide_eq_false h1, Bool.false_and])
     refine tk 15 ?_
     refine wpAnyH_done (by kernel_rfl) ?_ _
     go_wp2_with fail
     go_roundw
     case rel => exact ⟨i + 1, by omega, by go_num, HX, MF⟩
     case measure => simp [intOf]; omega
   ·
    have HT : Hid (R = false) := HR.out.symm.trans (HV.out.trans (any_no fun r hr => HK.out r (by omega)))
    have hge : ¬ ((i : Int) < (ex.length : Int)) := by omega
    go_wp2_with fail
    go_ret
    exact ⟨by rw [HT.out]; rfl, T.out.1.1.1⟩
 ·
  have HKV : Hid (kindV (v.J j).kd = .iface 185 (.agg #[])) := by show _ = _; rw [hkd]; rfl
  have HNE : Hid ((v.J j).ne = 4) := by have := HKD.out; show _ = _; omega
  rw [hkd] at HEX
  refine wp_region_held_drew (S := (fun wx : World => wx.cell? ⟨aq, 0, none⟩ = some (.int .i64 (j : Int)) ∧ wx.cell? ⟨aq, 1, none⟩ = some (.int .i64 (k : Int)))) (by kernel_rfl) ?_ (fun hHeld => ?_)
  ·
   exact ⟨a0, a1⟩
  refine tk 0 ?_
  refine tk 1 ?_
  refine tk 2 ?_
  refine tk 4 ?_
  refine tk 5 ?_
  refine tk 8 ?_
  refine rl 3 fun K hK => ?_
  go_simp
  refine (kind96 H.out.1 j _ MD.out.1.2.2.2 hjm).mono ?_
  rintro e w4 ⟨he, hw4⟩
  have hw4 := hw4.symm
  subst hw4
  rw [HKV.out] at he
  subst he
  go_wp2_with fail
  refine hK.out _ _ ?_ (fun hHeld3 => ?_)
  ·
   exact hHeld
  clear hK K
  refine rl 6 fun K hK => ?_
  go_simp
  refine (overCross k _ (by have := HNE.out; omega)).mono ?_
  rintro e w5 ⟨xa, xc, he, hns, hb5⟩
  have HEX2 : Hid (acrossF 4 k = ex) := HEX.out
  rw [HEX2.out] at he hns
  subst he
  have HNS : Hid (NsAt 1 0 w5 xa ex.length (fun i _ => ((ex.getD i 0 : Nat) : Int))) := hns.keep (Nat.zero_le _) (Nat.le_refl _) fun _ _ _ => rfl
  clear hns
  have M5 : Hid ((Below w.heap.size w w5 ∧ Box w5 w.heap.size 74 #[.int .i64 (p : Int), .int .i64 wa] ∧ Box w5 (w.heap.size + 1) 74 #[.int .i64 (q : Int), .int .i64 wb] ∧ TkAt w5 bt sb v pa pc ja jc) ∧ Box w5 aq 172 #[.int .i64 (j : Int), .int .i64 (k : Int)]) := HM.out w5 hb5
  clear hb5
  go_wp2_with fail
  refine hK.out _ _ ?_ (fun hHeld6 => ?_)
  ·
   exact ⟨M5.out.2.cell 0, M5.out.2.cell 1⟩
  clear hK K
  refine tk 7 ?_
  refine wpAnyH_done (by kernel_rfl) ?_ _
  have T0 : Hid (((Below w.heap.size w w5 ∧ Box w5 w.heap.size 74 #[.int .i64 (p : Int), .int .i64 wa] ∧ Box w5 (w.heap.size + 1) 74 #[.int .i64 (q : Int), .int .i64 wb] ∧ TkAt w5 bt sb v pa pc ja jc) ∧ Box w5 aq 172 #[.int .i64 (j : Int), .int .i64 (k : Int)]) ∧ NsAt 1 0 w5 xa ex.length (fun i _ => ((ex.getD i 0 : Nat) : Int))) := ⟨M5.out, HNS.out⟩
  clear a0 a1 M5 HNS M2 MD HM m1 m2 m3 m4
  go_wp2_with fail
  go_loopw [21] (fun c wr => ∃ i : Nat, i ≤ ex.length ∧ c = .int .i64 i ∧ Hid (∀ r, r < i → eqB ((v.J j).E (ex.getD r 0)) (headE q (-wb)) = false) ∧ Hid (((Below w.heap.size w wr ∧ Box wr w.heap.size 74 #[.int .i64 (p : Int), .int .i64 wa] ∧ Box wr (w.heap.size + 1) 74 #[.int .i64 (q : Int), .int .i64 wb] ∧ TkAt wr bt sb v pa pc ja jc) ∧ Box wr aq 172 #[.int .i64 (j : Int), .int .i64 (k : Int)]) ∧ NsAt 1 0 wr xa ex.length (fun i _ => ((ex.getD i 0 : Nat) : Int)))) (fun c _ => ex.length - (intOf c).toNat)
  case atStart => exact ⟨0, Nat.zero_le _, rfl, fun r hr => absurd hr (Nat.not_lt_zero _), T0⟩
  case round =>
   clear T0
   obtain ⟨i, hi, rfl, HK, T⟩ := hrel
   by_cases hlt : i < ex.length
   ·
    obtain ⟨xb, xo, rfl, _, hxb, hxc⟩ := T.out.2 (by omega)
    have x0 : wr.cell? ⟨xb, xo + i, none⟩ = some (.int .i64 ((ex.getD i 0 : Nat) : Int)) := by
     have := hxc i hlt 0 (by omega)
     rwa [Nat.mul_one, Nat.add_zero] at this
    have hi0 : (0 : Int) ≤ (i : Int) := by omega
    have hin : (i : Int) < (ex.length : Int) := by omega
    obtain ⟨x, HXX⟩ : ∃ x, Hid (ex.getD i 0 = x) := ⟨_, rfl⟩
    have hxn : x < (v.J j).ne := by rw [← HXX.out]; exact HXB.out i hlt
    rw [HXX.out] at x0
    obtain ⟨jb, jo, hje, _, hjb, hjc⟩ := T.out.1.1.2.2.2.j (by omega)
    obtain ⟨ea, ec, c0, c1, c2, hEs⟩ := hjc j hjm
    obtain ⟨eb, eo, hee, _, heb, hec⟩ := hEs (by omega)
    obtain ⟨d0, d1⟩ := hec x hxn
    have HSD : Hid (((v.J j).E x).sd = 0 ∨ ((v.J j).E x).sd = 1) := (H.out.1.en j hjm x hxn).2.2
    obtain ⟨ep, HEP⟩ : ∃ z, Hid (((v.J j).E x).pc = z) := ⟨_, rfl⟩
    obtain ⟨es, HES⟩ : ∃ z, Hid (((v.J j).E x).sd = z) := ⟨_, rfl⟩
    rw [HEP.out] at d0
    rw [HES.out] at d1
    rw [hee] at c2
    have f1 : wr.cell? ⟨bt, 1, none⟩ = some (.slice (some ⟨jb, jo, none⟩) v.m jc) := by rw [← hje]; exact T.out.1.1.2.2.2.box.cell 1
    have a0 : wr.cell? ⟨aq, 0, none⟩ = some (.int .i64 (j : Int)) := T.out.1.2.cell 0
    have t0 : wr.cell? ⟨w.heap.size + 1, 0, none⟩ = some (.int .i64 (q : Int)) := T.out.1.1.2.2.1.cell 0
    have t1 : wr.cell? ⟨w.heap.size + 1, 1, none⟩ = some (.int .i64 wb) := T.out.1.1.2.2.1.cell 1
    have HCL : Hid (jb < wr.heap.size ∧ eb < wr.heap.size) := ⟨hjb, heb⟩
    have hji : (j : Int) < (v.m : Int) := by omega
    have hj0 : (0 : Int) ≤ (j : Int) := by omega
    have hx0 : (0 : Int) ≤ (x : Int) := by omega
    have hxi : (x : Int) < ((v.J j).ne : Int) := by omega
    have MW : Hid (∀ W, Below wr.heap.size wr W → (((Below w.heap.size w W ∧ Box W w.heap.size 74 #[.int .i64 (p : Int), .int .i64 wa] ∧ Box W (w.heap.size + 1) 74 #[.int .i64 (q : Int), .int .i64 wb] ∧ TkAt W bt sb v pa pc ja jc) ∧ Box W aq 172 #[.int .i64 (j : Int), .int .i64 (k : Int)]) ∧ NsAt 1 0 W (some ⟨xb, xo, none⟩) ex.length (fun i _ => ((ex.getD i 0 : Nat) : Int)))) := fun W hb => ⟨⟨⟨T.out.1.1.1.trans (hb.mono T.out.1.1.1.size), T.out.1.1.2.1.mono hb (Nat.le_refl _), T.out.1.1.2.2.1.mono hb (Nat.le_refl _), T.out.1.1.2.2.2.mono hb (Nat.le_refl _)⟩, T.out.1.2.mono hb (Nat.le_refl _)⟩, T.out.2.mono (Nat.le_refl _) hb (Nat.le_refl _)⟩
    have HN : Hid (eqB ((v.J j).E x) (headE q (-wb)) = false → ∀ r, r < i + 1 → eqB ((v.J j).E (ex.getD r 0)) (headE q (-wb)) = false) := fun h r hr => by
     by_cases c : r = i
     ·
      subst c
      rw [HXX.out]
      exact h
     ·
      exact HK.out r (by omega)
    have HAW : Hid (eqB ((v.J j).E x) (headE q (-wb)) = (decide (ep = (q : Int)) && decide (wayOf ⟨ep, es⟩ = wb))) := by
     show _ = _
     rw [away_eq HSD.out hwb, ← HEP.out, ← HES.out]
    have hes : es = 0 ∨ es = 1 := by rw [← HES.out]; exact HSD.out
    obtain ⟨wy, HWY⟩ : ∃ z, Hid (wayOf ⟨ep, es⟩ = z) := ⟨_, rfl⟩
    rw [HWY.out] at HAW
    have DR : Hid (Below wr.heap.size wr wr.drew) := (Below.refl _ _).drew
    clear hxc hjc hEs hec c0 c1 hje hee hjb heb
    go_wp2_with fail
    refine wp_region_held_drew (S := (fun wx : World => wx.cell? ⟨bt, 1, none⟩ = some (.slice (some ⟨jb, jo, none⟩) v.m jc) ∧ wx.cell? ⟨aq, 0, none⟩ = some (.int .i64 (j : Int)) ∧ wx.cell? ⟨jb, jo + j * 3 + 2, none⟩ = some (.slice (some ⟨eb, eo, none⟩) (v.J j).ne ec) ∧ wx.cell? ⟨eb, eo + x * 2, none⟩ = some (.int .i64 ep) ∧ wx.cell? ⟨eb, eo + x * 2 + 1, none⟩ = some (.int .i64 es) ∧ wx.cell? ⟨w.heap.size + 1, 0, none⟩ = some (.int .i64 (q : Int)) ∧ wx.cell? ⟨w.heap.size + 1, 1, none⟩ = some (.int .i64 wb))) (by kernel_rfl) ?_ (fun hHeld => ?_)
    ·
     exact ⟨f1, a0, c2, d0, d1, t0, t1⟩
    refine tk 0 ?_
    refine tk 1 ?_
    refine tk 2 ?_
    refine tk 3 ?_
    refine tk 4 ?_
    refine tk 5 ?_
    refine tk 6 ?_
    refine tk 7 ?_
    refine tk 8 ?_
    refine tk 9 ?_
    refine tk 10 ?_
    refine tk 11 ?_
    refine tk 12 ?_
    refine tk 14 ?_
    refine rl 13 fun K hK => ?_
    go_simp
    refine (away101 ep es _ hes).mono ?_
    rw [HWY.out]
    rintro e w6 ⟨rfl, hb6⟩
    have B6 := DR.out.trans (hb6.mono DR.out.size)
    have M6 := MW.out w6 B6
    go_wp2_with fail
    refine hK.out _ _ ?_ (fun hHeld13 => ?_)
    ·
     exact ⟨cell_keep B6 (T.out.1.1.2.2.2.box.lt) f1, M6.1.2.cell 0, cell_keep B6 HCL.out.1 c2, cell_keep B6 HCL.out.2 d0, cell_keep B6 HCL.out.2 d1, M6.1.1.2.2.1.cell 0, M6.1.1.2.2.1.cell 1⟩
    clear hK K
    have MF : Hid (((Below w.heap.size w w6 ∧ Box w6 w.heap.size 74 #[.int .i64 (p : Int), .int .i64 wa] ∧ Box w6 (w.heap.size + 1) 74 #[.int .i64 (q : Int), .int .i64 wb] ∧ TkAt w6 bt sb v pa pc ja jc) ∧ Box w6 aq 172 #[.int .i64 (j : Int), .int .i64 (k : Int)]) ∧ NsAt 1 0 w6 (some ⟨xb, xo, none⟩) ex.length (fun i _ => ((ex.getD i 0 : Nat) : Int))) := M6
    clear hb6 B6 M6 f1 a0 c2 d0 d1 t0 t1 T MW DR x0
    by_cases h1 : ep = (q : Int)
    ·
     by_cases h2 : wy = wb
     ·
      have HT : Hid (R = true) := HR.out.symm.trans (HV.out.trans (any_getD.2 ⟨i, hlt, by rw [HXX.out, HAW.out, decide_eq_true h1, decide_eq_true h2]; rfl⟩))
      rw [h1] at hHeld13 ⊢
      rw [h2]
      refine tk 15 ?_
      refine wpAnyH_done (by kernel_rfl) ?_ _
      go_wp2_with fail
      go_ret
      exact ⟨by rw [HT.out]; rfl, MF.out.1.1.1⟩
     ·
      have HX : Hid (∀ r, r < i + 1 → eqB ((v.J j).E (ex.getD r 0)) (headE q (-wb)) = false) := HN.out (by rw [HAW.out, decide_eq_false h2, Bool.and_false])
      rw [h1] at hHeld13 ⊢
      refine tk 15 ?_
      refine wpAnyH_done (by kernel_rfl) ?_ _
      go_wp2_with fail
      go_roundw
      case rel => exact ⟨i + 1, by omega, by go_num, HX, MF⟩
      case measure => simp [intOf]; omega
    ·
     have HX : Hid (∀ r, r < i + 1 → eqB ((v.J j).E (ex.getD r 0)) (headE q (-wb)) = false) := HN.out (by rw [HAW.out, decide_eq_false h1, Bool.false_and])
     refine tk 15 ?_
     refine wpAnyH_done (by kernel_rfl) ?_ _
     go_wp2_with fail
     go_roundw
     case rel => exact ⟨i + 1, by omega, by go_num, HX, MF⟩
     case measure => simp [intOf]; omega
   ·
    have HT : Hid (R = false) := HR.out.symm.trans (HV.out.trans (any_no fun r hr => HK.out r (by omega)))
    have hge : ¬ ((i : Int) < (ex.length : Int)) := by omega
    go_wp2_with fail
    go_ret
    exact ⟨by rw [HT.out]; rfl, T.out.1.1.1⟩
end Go.Proofs.YtjhmaofjmalglaaGreat
