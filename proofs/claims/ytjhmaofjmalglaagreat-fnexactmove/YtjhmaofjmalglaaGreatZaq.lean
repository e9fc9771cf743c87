import Derived.Test.YtjhmaofjmalglaaGreatZap
import Derived.Test.YtjhmaofjmalglaaGreatZaf
namespace Go.Proofs.YtjhmaofjmalglaaGreat
open Go.RowKit Go.Lib
def exitsOf (v : Nv) (p : Nat) (wa : Int) : List Nat := acrossF (v.J (v.at (headE p wa)).1).kd.toNat (v.at (headE p wa)).2
def joinB (v : Nv) (p : Nat) (wa : Int) (q : Nat) (wb : Int) : Bool := (exitsOf v p wa).any fun x => eqB ((v.J (v.at (headE p wa)).1).E x) (headE q (-wb))
theorem any_getD {l : List Nat} {f : Nat → Bool} : l.any f = true ↔ ∃ i, i < l.length ∧ f (l.getD i 0) = true := by
 simp only [List.any_eq_true]
 constructor
 ·
  rintro ⟨x, hx, hf⟩
  obtain ⟨i, hi, rfl⟩ := List.getElem_of_mem hx
  exact ⟨i, hi, by simpa [List.getD, List.getElem?_eq_getElem hi] using hf⟩
 ·
  rintro ⟨i, hi, hf⟩
  exact ⟨l[i], List.getElem_mem hi, by simpa [List.getD, List.getElem?_eq_getElem hi] using hf⟩
theorem any_no {l : List Nat} {f : Nat → Bool} (h : ∀ i, i < l.length → f (l.getD i 0) = false) : l.any f = false := by
 cases c : l.any f with
 | false => rfl
 | true =>
  obtain ⟨i, hi, hf⟩ := any_getD.1 c
  rw [h i hi] at hf
  cases hf
theorem exits_le (kd k : Nat) : (acrossF kd k).length ≤ 2 := by
 unfold acrossF
 split <;> decide
theorem across1 (nm : ByteArray) (ea : Option Addr) (ne ec : Nat) (q : Nat) (w : World) :
  Calls Tryz.prog 80 #[.agg #[.int .i64 1, .string nm, .slice ea ne ec], .int .i64 (q : Int)] w fun e w' => e = .returned (.slice none 0 0) ∧ Below w.heap.size w w' := by
 go_enter Tryz.func80, Tryz.ntmps80
 go_wp2_with fail
 go_ret
 exact ⟨rfl, bel1 _ _⟩
theorem across92 (nm : ByteArray) (ea : Option Addr) (ne ec : Nat) (E : Nat → En) (kd : Int) (q : Nat) (w : World) (hk : 1 ≤ kd ∧ kd ≤ 4) (hne : (ne : Int) = kd) (hq : q < ne) (hE : EsAt 0 w ea ne E) :
  Calls Tryz.prog 80 #[.agg #[.int .i64 kd, .string nm, .slice ea ne ec], .int .i64 (q : Int)] w fun e w' => ∃ a c, e = .returned (.slice a (acrossF kd.toNat q).length c) ∧ EsAt w.heap.size w' a (acrossF kd.toNat q).length (fun i => E ((acrossF kd.toNat q).getD i 0)) ∧ Below w.heap.size w w' := by
 by_cases h1 : kd = 1
 ·
  subst h1
  have hq0 : q = 0 := by omega
  subst hq0
  exact (across1 nm ea ne ec 0 w).mono fun e w' ⟨h1, h2⟩ => ⟨none, 0, h1, fun h => absurd h (by decide), h2⟩
 ·
  exact (across59 nm ea ne ec E kd q w (by omega) hne hq hE).mono fun e w' ⟨a, h1, h2, h3⟩ => ⟨a, _, h1, h2, h3⟩
set_option maxRecDepth 100000 in
set_option maxHeartbeats 8000000 in
theorem joined64 {v : Nv} (ok : v.Ok) (pa : Option Addr) (pc : Nat) (ja : Option Addr) (jc : Nat) (p : Nat) (wa : Int) (q : Nat) (wb : Int) (w : World) (hp : p < v.n) (hwb : wb = 1 ∨ wb = -1) (hJ : JsAt 0 w ja v.m v.J) :
  Calls Tryz.prog 98 #[.agg #[.slice pa v.n pc, .slice ja v.m jc], .agg #[.int .i64 (p : Int), .int .i64 wa], .agg #[.int .i64 (q : Int), .int .i64 wb]] w fun e w' => e = .returned (.bool (joinB v p wa q wb)) ∧ Below w.heap.size w w' := by
 have HJ : Hid (JsAt 0 w ja v.m v.J) := hJ
 have hm1 := ok.m1
 have HNE : Hid (∀ i, i < v.m → (v.J i).ne ≤ 1048576) := fun i hi => by have := ok.kd i hi; omega
 obtain ⟨h0, h1, h2⟩ : 0 ≤ (headE p wa).pc ∧ (headE p wa).pc < v.n ∧ ((headE p wa).sd = 0 ∨ (headE p wa).sd = 1) := by
  refine ⟨by show (0 : Int) ≤ (p : Int); omega, by show (p : Int) < (v.n : Int); omega, ?_⟩
  show (if wa = 1 then (1 : Int) else 0) = 0 ∨ (if wa = 1 then (1 : Int) else 0) = 1
  split
  ·
   exact Or.inr rfl
  ·
   exact Or.inl rfl
 obtain ⟨j, k, hat, hja, hjm, hkn, hEk, hk1, hk2, hk3⟩ := ok.there h0 h1 h2
 have HAT : Hid (v.at (headE p wa) = (j, k) ∧ atV (jointAt v.J (headE p wa) v.m) = ((j : Int), (k : Int))) := ⟨hat, by rw [hja]; rfl⟩
 obtain ⟨ex, HEX⟩ : ∃ ex, Hid (acrossF (v.J j).kd.toNat k = ex) := ⟨_, rfl⟩
 have hxl : ex.length ≤ 2 := by rw [← HEX.out]; exact exits_le _ _
 have HV : Hid (joinB v p wa q wb = ex.any fun x => eqB ((v.J j).E x) (headE q (-wb))) := by
  show _ = _
  rw [joinB, exitsOf, HAT.out.1, HEX.out]
 obtain ⟨R, HR⟩ : ∃ R, Hid (joinB v p wa q wb = R) := ⟨_, rfl⟩
 rw [HR.out]
 have HKD : Hid (1 ≤ (v.J j).kd ∧ (v.J j).kd ≤ 4 ∧ ((v.J j).ne : Int) = (v.J j).kd) := ⟨hk1, hk2, hk3⟩
 have hmm : v.m ≤ 1048576 := by omega
 clear hJ ok h0 h1 h2 hat hja hEk hk1 hk2 hk3
 have S0 : Hid (Below w.heap.size w (((w.alloc (.cells #[.slice pa v.n pc, .slice ja v.m jc] 40)).alloc (.cells #[.int .i64 (p : Int), .int .i64 wa] 74)).alloc (.cells #[.int .i64 (q : Int), .int .i64 wb] 74)) ∧ Box (((w.alloc (.cells #[.slice pa v.n pc, .slice ja v.m jc] 40)).alloc (.cells #[.int .i64 (p : Int), .int .i64 wa] 74)).alloc (.cells #[.int .i64 (q : Int), .int .i64 wb] 74)) w.heap.size 40 #[.slice pa v.n pc, .slice ja v.m jc] ∧ Box (((w.alloc (.cells #[.slice pa v.n pc, .slice ja v.m jc] 40)).alloc (.cells #[.int .i64 (p : Int), .int .i64 wa] 74)).alloc (.cells #[.int .i64 (q : Int), .int .i64 wb] 74)) (w.heap.size + 1) 74 #[.int .i64 (p : Int), .int .i64 wa] ∧ Box (((w.alloc (.cells #[.slice pa v.n pc, .slice ja v.m jc] 40)).alloc (.cells #[.int .i64 (p : Int), .int .i64 wa] 74)).alloc (.cells #[.int .i64 (q : Int), .int .i64 wb] 74)) (w.heap.size + 1 + 1) 74 #[.int .i64 (q : Int), .int .i64 wb]) := by
  have e1 := (Box.new w 40 #[.slice pa v.n pc, .slice ja v.m jc])
  exact ⟨bel3 _ _ _ _, (e1.alloc _).alloc _, by have := (Box.new (w.alloc (.cells #[.slice pa v.n pc, .slice ja v.m jc] 40)) 74 #[.int .i64 (p : Int), .int .i64 wa]).alloc (.cells #[.int .i64 (q : Int), .int .i64 wb] 74); simpa using this, by have := Box.new ((w.alloc (.cells #[.slice pa v.n pc, .slice ja v.m jc] 40)).alloc (.cells #[.int .i64 (p : Int), .int .i64 wa] 74)) 74 #[.int .i64 (q : Int), .int .i64 wb]; simpa using this⟩
 go_enter Tryz.func98, Tryz.ntmps98
 go_upto_region 1 with fail
 generalize (((w.alloc (.cells #[.slice pa v.n pc, .slice ja v.m jc] 40)).alloc (.cells #[.int .i64 (p : Int), .int .i64 wa] 74)).alloc (.cells #[.int .i64 (q : Int), .int .i64 wb] 74)) = V0 at S0 ⊢
 have n0 : V0.cell? ⟨w.heap.size, 0, none⟩ = some (.slice pa v.n pc) := S0.out.2.1.cell 0
 have n1 : V0.cell? ⟨w.heap.size, 1, none⟩ = some (.slice ja v.m jc) := S0.out.2.1.cell 1
 have s0 : V0.cell? ⟨w.heap.size + 1, 0, none⟩ = some (.int .i64 (p : Int)) := S0.out.2.2.1.cell 0
 have s1 : V0.cell? ⟨w.heap.size + 1, 1, none⟩ = some (.int .i64 wa) := S0.out.2.2.1.cell 1
 have MD : Hid (Below w.heap.size w V0.drew ∧ Box V0.drew w.heap.size 40 #[.slice pa v.n pc, .slice ja v.m jc] ∧ Box V0.drew (w.heap.size + 1) 74 #[.int .i64 (p : Int), .int .i64 wa] ∧ Box V0.drew (w.heap.size + 1 + 1) 74 #[.int .i64 (q : Int), .int .i64 wb]) := ⟨S0.out.1.drew, S0.out.2.1, S0.out.2.2.1, S0.out.2.2.2⟩
 go_wp2_with fail
 refine wp_region_held_drew (S := (fun wx : World => wx.cell? ⟨w.heap.size, 0, none⟩ = some (.slice pa v.n pc) ∧ wx.cell? ⟨w.heap.size, 1, none⟩ = some (.slice ja v.m jc) ∧ wx.cell? ⟨w.heap.size + 1, 0, none⟩ = some (.int .i64 (p : Int)) ∧ wx.cell? ⟨w.heap.size + 1, 1, none⟩ = some (.int .i64 wa))) (by kernel_rfl) ?_ (fun hHeld => ?_)
 ·
  exact ⟨n0, n1, s0, s1⟩
 refine tk 0 ?_
 refine tk 1 ?_
 refine tk 2 ?_
 refine tk 3 ?_
 refine tk 4 ?_
 refine rl 5 fun K hK => ?_
 go_simp
 refine (l12head79 (p : Int) wa _).mono ?_
 rintro e w1 ⟨rfl, hb1⟩
 have M1 : Hid (Below w.heap.size w w1 ∧ Box w1 w.heap.size 40 #[.slice pa v.n pc, .slice ja v.m jc] ∧ Box w1 (w.heap.size + 1) 74 #[.int .i64 (p : Int), .int .i64 wa] ∧ Box w1 (w.heap.size + 1 + 1) 74 #[.int .i64 (q : Int), .int .i64 wb]) := ⟨MD.out.1.trans (hb1.mono MD.out.1.size), MD.out.2.1.mono hb1 (Nat.le_refl _), MD.out.2.2.1.mono hb1 (Nat.le_refl _), MD.out.2.2.2.mono hb1 (Nat.le_refl _)⟩
 clear hb1
 go_wp2_with fail
 refine hK.out _ _ ?_ (fun hHeld5 => ?_)
 ·
  exact ⟨M1.out.2.1.cell 0, M1.out.2.1.cell 1, M1.out.2.2.1.cell 0, M1.out.2.2.1.cell 1⟩
 clear hK K
 refine rl 6 fun K hK => ?_
 go_simp
 refine (l11at78 pa v.n pc ja v.m jc v.J (headE (p : Int) wa) _ hmm (HJ.out.mono (Nat.le_refl _) M1.out.1 (Nat.le_refl _)) HNE.out).mono ?_
 rintro e w2 ⟨he, hb2⟩
 rw [HAT.out.2] at he
 subst he
 have M2 : Hid (Below w.heap.size w w2 ∧ Box w2 w.heap.size 40 #[.slice pa v.n pc, .slice ja v.m jc] ∧ Box w2 (w.heap.size + 1) 74 #[.int .i64 (p : Int), .int .i64 wa] ∧ Box w2 (w.heap.size + 1 + 1) 74 #[.int .i64 (q : Int), .int .i64 wb]) := ⟨M1.out.1.trans (hb2.mono M1.out.1.size), M1.out.2.1.mono hb2 (Nat.le_refl _), M1.out.2.2.1.mono hb2 (Nat.le_refl _), M1.out.2.2.2.mono hb2 (Nat.le_refl _)⟩
 clear hb2
 go_wp2_with fail
 refine hK.out _ _ ?_ (fun hHeld6 => ?_)
 ·
  exact ⟨M2.out.2.1.cell 0, M2.out.2.1.cell 1, M2.out.2.2.1.cell 0, M2.out.2.2.1.cell 1⟩
 clear hK K
 refine tk 7 ?_
 refine tk 8 ?_
 refine tk 9 ?_
 refine tk 10 ?_
 refine tk 11 ?_
 refine wpAnyH_done (by kernel_rfl) ?_ _
 clear n0 n1 s0 s1 M1 MD S0
 have t0 : w2.cell? ⟨w.heap.size + 1 + 1, 0, none⟩ = some (.int .i64 (q : Int)) := M2.out.2.2.2.cell 0
 have t1 : w2.cell? ⟨w.heap.size + 1 + 1, 1, none⟩ = some (.int .i64 wb) := M2.out.2.2.2.cell 1
 have hwn : IntKind.i64.wrap (-wb) = -wb := by rw [IntKind.wrap_i64]; omega
 go_wp2_with fail
 clear t0 t1
 refine (l12head79 (q : Int) (-wb) w2).mono ?_
 rintro e w3 ⟨rfl, hb3⟩
 have M3 : Hid (Below w.heap.size w w3 ∧ Box w3 w.heap.size 40 #[.slice pa v.n pc, .slice ja v.m jc] ∧ Box w3 (w.heap.size + 1) 74 #[.int .i64 (p : Int), .int .i64 wa] ∧ Box w3 (w.heap.size + 1 + 1) 74 #[.int .i64 (q : Int), .int .i64 wb]) := ⟨M2.out.1.trans (hb3.mono M2.out.1.size), M2.out.2.1.mono hb3 (Nat.le_refl _), M2.out.2.2.1.mono hb3 (Nat.le_refl _), M2.out.2.2.2.mono hb3 (Nat.le_refl _)⟩
 clear hb3 M2
 obtain ⟨hE0, hE1, HH⟩ : ∃ x y, Hid ((headE q (-wb)).pc = x ∧ (headE q (-wb)).sd = y) := ⟨_, _, rfl, rfl⟩
 rw [HH.out.1, HH.out.2]
 have M4 : Hid ((Below w.heap.size w (w3.alloc (.cells #[.int .i64 hE0, .int .i64 hE1] 76)) ∧ Box (w3.alloc (.cells #[.int .i64 hE0, .int .i64 hE1] 76)) w.heap.size 40 #[.slice pa v.n pc, .slice ja v.m jc] ∧ Box (w3.alloc (.cells #[.int .i64 hE0, .int .i64 hE1] 76)) (w.heap.size + 1) 74 #[.int .i64 (p : Int), .int .i64 wa] ∧ Box (w3.alloc (.cells #[.int .i64 hE0, .int .i64 hE1] 76)) (w.heap.size + 1 + 1) 74 #[.int .i64 (q : Int), .int .i64 wb]) ∧ Box (w3.alloc (.cells #[.int .i64 hE0, .int .i64 hE1] 76)) w3.heap.size 76 #[.int .i64 hE0, .int .i64 hE1]) := ⟨⟨M3.out.1.alloc M3.out.1.size _, M3.out.2.1.alloc _, M3.out.2.2.1.alloc _, M3.out.2.2.2.alloc _⟩, Box.new _ _ _⟩
 clear M3
 obtain ⟨jb, jo, hja, _, hjb, hjc⟩ := HJ.out (by omega)
 obtain ⟨ea, ec, c0, c1, c2, hEs⟩ := hjc j hjm
 have HEs : Hid (EsAt 0 w ea (v.J j).ne (v.J j).E) := hEs
 have x0 : (w3.alloc (.cells #[.int .i64 hE0, .int .i64 hE1] 76)).cell? ⟨jb, jo + j * 3, none⟩ = some (.int .i64 (v.J j).kd) := cell_keep M4.out.1.1 hjb c0
 have x1 : (w3.alloc (.cells #[.int .i64 hE0, .int .i64 hE1] 76)).cell? ⟨jb, jo + j * 3 + 1, none⟩ = some (.string (v.J j).nm) := cell_keep M4.out.1.1 hjb c1
 have x2 : (w3.alloc (.cells #[.int .i64 hE0, .int .i64 hE1] 76)).cell? ⟨jb, jo + j * 3 + 2, none⟩ = some (.slice ea (v.J j).ne ec) := cell_keep M4.out.1.1 hjb c2
 have n1 : (w3.alloc (.cells #[.int .i64 hE0, .int .i64 hE1] 76)).cell? ⟨w.heap.size, 1, none⟩ = some (.slice (some ⟨jb, jo, none⟩) v.m jc) := by rw [← hja]; exact M4.out.1.2.1.cell 1
 have hji : (j : Int) < (v.m : Int) := by omega
 have hj0 : (0 : Int) ≤ (j : Int) := by omega
 clear hjc c0 c1 c2 hEs hjb hja
 go_wp2_with fail
 clear x0 x1 x2 n1
 refine (across92 (v.J j).nm ea (v.J j).ne ec (v.J j).E (v.J j).kd k _ ⟨HKD.out.1, HKD.out.2.1⟩ HKD.out.2.2 hkn (HEs.out.mono (Nat.le_refl _) M4.out.1.1 (Nat.le_refl _))).mono ?_
 rintro e w5 ⟨xa, xc, he, hx, hb5⟩
 rw [HEX.out] at he hx
 subst he
 have T0 : Hid (Below w.heap.size w w5 ∧ Box w5 w3.heap.size 76 #[.int .i64 hE0, .int .i64 hE1] ∧ EsAt 0 w5 xa ex.length (fun i => (v.J j).E (ex.getD i 0))) := ⟨M4.out.1.1.trans (hb5.mono M4.out.1.1.size), M4.out.2.mono hb5 (Nat.le_refl _), hx.keep (Nat.zero_le _) (Nat.le_refl _) fun _ _ _ => rfl⟩
 clear hb5 hx M4 HEs
 generalize w3.heap.size = hq at T0 ⊢
 go_wp2_with fail
 go_loopw [36] (fun c wr => ∃ i : Nat, i ≤ ex.length ∧ c = .int .i64 i ∧ Hid (∀ r, r < i → eqB ((v.J j).E (ex.getD r 0)) (headE q (-wb)) = false) ∧ Hid (Below w.heap.size w wr ∧ Box wr hq 76 #[.int .i64 hE0, .int .i64 hE1] ∧ EsAt 0 wr xa ex.length (fun i => (v.J j).E (ex.getD i 0)))) (fun c _ => ex.length - (intOf c).toNat)
 case atStart => exact ⟨0, Nat.zero_le _, rfl, fun r hr => absurd hr (Nat.not_lt_zero _), T0⟩
 case round =>
  clear T0
  obtain ⟨i, hi, rfl, HK, T⟩ := hrel
  by_cases hlt : i < ex.length
  ·
   obtain ⟨xb, xo, rfl, _, hxb, hxc⟩ := T.out.2.2 (by omega)
   obtain ⟨d0, d1⟩ := hxc i hlt
   have hi0 : (0 : Int) ≤ (i : Int) := by omega
   have hin : (i : Int) < (ex.length : Int) := by omega
   have y0 : wr.cell? ⟨hq, 0, none⟩ = some (.int .i64 hE0) := T.out.2.1.cell 0
   have y1 : wr.cell? ⟨hq, 1, none⟩ = some (.int .i64 hE1) := T.out.2.1.cell 1
   have hql := T.out.2.1.lt
   have TN : Hid (∀ o, Below w.heap.size w (wr.alloc o) ∧ Box (wr.alloc o) hq 76 #[.int .i64 hE0, .int .i64 hE1] ∧ EsAt 0 (wr.alloc o) (some ⟨xb, xo, none⟩) ex.length (fun i => (v.J j).E (ex.getD i 0))) := fun o => ⟨T.out.1.alloc T.out.1.size _, T.out.2.1.alloc _, T.out.2.2.mono (Nat.le_refl _) (bel1 _ _) (Nat.le_refl _)⟩
   have HN : Hid (eqB ((v.J j).E (ex.getD i 0)) (headE q (-wb)) = false → ∀ r, r < i + 1 → eqB ((v.J j).E (ex.getD r 0)) (headE q (-wb)) = false) := fun h r hr => by
    by_cases c : r = i
    ·
     subst c
     exact h
    ·
     exact HK.out r (by omega)
   have HQE : Hid (∀ x : En, eqB x (headE q (-wb)) = (decide (x.pc = hE0) && decide (x.sd = hE1))) := fun x => by rw [← HH.out.1, ← HH.out.2]; unfold eqB; congr 1 <;> (rw [Bool.eq_iff_iff]; simp)
   clear hxc T
   by_cases h1 : ((v.J j).E (ex.getD i 0)).pc = hE0
   ·
    by_cases h2 : ((v.J j).E (ex.getD i 0)).sd = hE1
    ·
     have HT : Hid (R = true) := HR.out.symm.trans (HV.out.trans (any_getD.2 ⟨i, hlt, by rw [HQE.out, decide_eq_true h1, decide_eq_true h2]; rfl⟩))
     have d0' : wr.cell? ⟨xb, xo + i * 2, none⟩ = some (.int .i64 hE0) := d0.trans (by rw [h1])
     have d1' : wr.cell? ⟨xb, xo + i * 2 + 1, none⟩ = some (.int .i64 hE1) := d1.trans (by rw [h2])
     clear d0 d1 h1 h2
     go_wp2_with fail
     go_ret
     exact ⟨by rw [HT.out]; rfl, (TN.out _).1⟩
    ·
     have HX : Hid (∀ r, r < i + 1 → eqB ((v.J j).E (ex.getD r 0)) (headE q (-wb)) = false) := HN.out (by rw [HQE.out, decide_eq_false h2, Bool.and_false])
     have d0' : wr.cell? ⟨xb, xo + i * 2, none⟩ = some (.int .i64 hE0) := d0.trans (by rw [h1])
     obtain ⟨z, HZ⟩ : ∃ z, Hid (((v.J j).E (ex.getD i 0)).sd = z) := ⟨_, rfl⟩
     have d1' : wr.cell? ⟨xb, xo + i * 2 + 1, none⟩ = some (.int .i64 z) := d1.trans (by rw [HZ.out])
     rw [HZ.out] at h2
     clear d0 d1 h1
     go_wp2_with fail
     go_roundw
     case rel => exact ⟨i + 1, by omega, by go_num, HX, TN.out _⟩
     case measure => simp [intOf]; omega
   ·
    have HX : Hid (∀ r, r < i + 1 → eqB ((v.J j).E (ex.getD r 0)) (headE q (-wb)) = false) := HN.out (by rw [HQE.out, decide_eq_false h1, Bool.false_and])
    obtain ⟨y, HY⟩ : ∃ z, Hid (((v.J j).E (ex.getD i 0)).pc = z) := ⟨_, rfl⟩
    obtain ⟨z, HZ⟩ : ∃ z, Hid (((v.J j).E (ex.getD i 0)).sd = z) := ⟨_, rfl⟩
    have d0' : wr.cell? ⟨xb, xo + i * 2, none⟩ = some (.int .i64 y) := d0.trans (by rw [HY.out])
    have d1' : wr.cell? ⟨xb, xo + i * 2 + 1, none⟩ = some (.int .i64 z) := d1.trans (by rw [HZ.out])
    rw [HY.out] at h1
    clear d0 d1
    go_wp2_with fail
    go_roundw
    case rel => exact ⟨i + 1, by omega, by go_num, HX, TN.out _⟩
    case measure => simp [intOf]; omega
  ·
   have HT : Hid (R = false) := HR.out.symm.trans (HV.out.trans (any_no fun r hr => HK.out r (by omega)))
   have hge : ¬ ((i : Int) < (ex.length : Int)) := by omega
   go_wp2_with fail
   go_ret
   exact ⟨by rw [HT.out]; rfl, T.out.1⟩
end Go.Proofs.YtjhmaofjmalglaaGreat
