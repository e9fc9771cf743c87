import Derived.Test.YtjhmaofjmalglaaGreatPd
import Derived.Test.YtjhmaofjmalglaaGreatYb
import Derived.Test.YtjhmaofjmalglaaGreatTv
import Derived.Test.YtjhmaofjmalglaaGreatSz
import Derived.Test.YtjhmaofjmalglaaGreatEq
namespace Go.Proofs.YtjhmaofjmalglaaGreat
open Go.RowKit Go.Lib

theorem own_markG {B' n c m : Nat} {T0 : TypeId} {w : World} {a : Option Addr} {F : Nat → Nat → Value} (h : VOwn B' T0 m w (.slice a n c) n F) (hB : B' ≤ w.heap.size) : ∃ g, (0 < n → a = some ⟨g, 0, none⟩) ∧ (0 < n → g < w.heap.size) ∧ B' ≤ g ∧ (∀ o, 0 ≤ o → o < 0 + n * m → (∃ v, w.cell? ⟨g, o, none⟩ = some v) ∧ w.frozen? ⟨g, o, none⟩ = false) ∧ ∀ q T xs, T ≠ T0 → Box w q T xs → q ≠ g := by
  rcases h with ⟨h1, h0⟩ | ⟨g, cp, cur, h1, h2, h3, h4, h5, h6, h7⟩
  · subst h0
    exact ⟨w.heap.size, fun h => absurd h (Nat.lt_irrefl _), fun h => absurd h (Nat.lt_irrefl _), hB, fun o _ ho => absurd ho (by omega), fun q T xs _ hb => by have := hb.lt; omega⟩
  · simp only [Value.slice.injEq] at h1
    obtain ⟨rfl, -, rfl⟩ := h1
    refine ⟨g, fun _ => rfl, fun _ => h3.lt, h2, fun o _ ho => ?_, fun q T xs hT hb => box_ne hb h3 hT⟩
    have hlt : o < cur.size := by rw [h6]; exact Nat.lt_of_lt_of_le (by omega) (Nat.mul_le_mul_right m h4)
    exact ⟨⟨cur[o], by rw [h3.cell]; exact Array.getElem?_eq_getElem hlt⟩, h3.free o⟩
theorem within_frG {g lo hi : Nat} {w w' : World} {o : Obj} (h : Within g lo hi (w.alloc o) w') : Fr (fun b => b = g) w w' :=
  ⟨h.os, h.tape, h.output, by rw [h.size]; simp, fun k hk hn => (h.other k hn).trans (Below.heap_alloc w o k hk)⟩
theorem within_fr0 {g lo hi : Nat} {w w' : World} (h : Within g lo hi w w') : Fr (fun b => b = g) w w' :=
  ⟨h.os, h.tape, h.output, by rw [h.size]; exact Nat.le_refl _, fun k _ hn => h.other k hn⟩

theorem IsTo.own {w : World} {B n : Nat} {D : Nat → Int} (h : IsTo w B n n D) (hn : n ≤ maxLen) : VOwn B 3 1 w (.slice (some ⟨B, 0, none⟩) n n) n (intF (fun i _ => D i)) := by
  obtain ⟨f, ⟨cur, h1, h2, h3⟩, hf⟩ := h
  refine .inr ⟨B, n, cur, rfl, Nat.le_refl _, h1, Nat.le_refl _, hn, by rw [h2]; omega, fun i hi j hj => ?_⟩
  obtain rfl : j = 0 := by omega
  have hk : i * 1 + 0 < n := by omega
  rw [h3 _ hk, show i * 1 + 0 = i by omega, hf i hi]
theorem is_of {w : World} {a : Option Addr} {n : Nat} {D : Nat → Int} (h : VsAt 1 0 w a n (intF (fun i _ => D i))) : IsAt 0 w a n D := fun h0 => by
  obtain ⟨b, off, ha, hb, hl, hc⟩ := h h0
  refine ⟨b, off, ha, hb, hl, fun i hi => ?_⟩
  have := hc i hi 0 (by omega)
  rw [show off + i * 1 + 0 = off + i by omega] at this
  exact this
set_option maxHeartbeats 1000000 in
theorem toIntS9x (a : Option Addr) (n cap : Nat) (D : Nat → Int) (w : World) (hn : n ≤ 1048576) (hE : IsAt 0 w a n D) :
    Calls Tryz.prog 9 #[.slice a n cap] w fun e w' => ∃ b, e = .returned (.slice (some ⟨b, 0, none⟩) n n) ∧ VOwn w.heap.size 3 1 w' (.slice (some ⟨b, 0, none⟩) n n) n (intF (fun i _ => D i)) ∧ Below w.heap.size w w' := by
  have hmk := make_rows (P := Tryz.prog) 26 3 _ 8 1 Tryz.underlying26 info3i n (by omega) (by omega)
  have hf0 : IsTo (w.alloc (.cells (mk0 (.int .i64 0) (n * 1)) 3)) w.heap.size n 0 D := by
    obtain ⟨f0, hf0⟩ := row_mk0 w (.int .i64 0) (n * 1) 3
    rw [Nat.mul_one] at hf0 ⊢
    exact ⟨f0, hf0, fun j hj => absurd hj (Nat.not_lt_zero _)⟩
  go_enter Tryz.func9, Tryz.ntmps9
  go_wp2_with fail
  go_loopw [4] (fun i wr => ∃ (k : Nat), k ≤ n ∧ i = .int .i64 k ∧ IsTo wr w.heap.size n k D ∧ Below w.heap.size w wr) (fun i _ => n - (intOf i).toNat)
  case atStart => exact ⟨0, Nat.zero_le _, rfl, by simpa only [Nat.mul_one] using hf0, bel1 _ _⟩
  case round =>
    obtain ⟨k, hk, rfl, hto, hbel⟩ := hrel
    clear hf0 hmk
    by_cases hlt : k < n
    · obtain ⟨b, off, rfl, _, hb, hc⟩ := (hE.mono (Nat.le_refl _) hbel (Nat.le_refl _)) (by omega)
      have c0 := hc k hlt
      have hR := hto.step
      obtain ⟨f, hr1, _⟩ := hto
      have d0 := hr1.cell (i := k) (by omega)
      have e0 := hr1.frozen k
      clear hc hr1
      go_wp2_with fail
      go_roundw
      case rel => exact ⟨k + 1, by omega, by go_num, hR, hbel.setCell (Nat.le_refl _) _⟩
      case measure => simp [intOf]; omega
    · obtain rfl : k = n := by omega
      go_wp2
      go_ret
      exact ⟨_, rfl, hto.own (by simp only [maxLen]; omega), hbel⟩

set_option maxHeartbeats 2000000 in
theorem markIntS16 (a:Option Addr)(n cap k b off:Nat)(w:World)(hn:n≤1048576)(hk:k≤1152921504606846976)(ha:0<n→a=some ⟨b,off,none⟩)
 (hw:∀ o,off≤o→o<off+n→(∃ v,w.cell? ⟨b,o,none⟩=some v)∧w.frozen? ⟨b,o,none⟩=false):
 Calls Tryz.prog 16 #[.slice a n cap,.int .i64 k] w fun e w'=>e=.returned (.int .i64 ((k+n:Nat):Int))∧Within b off (off+n) w w'∧∀ i,i<n→w'.cell? ⟨b,off+i,none⟩=some (.int .i64 ((k+i:Nat):Int)):=by
 have Hw:Hid (∀ o,off≤o→o<off+n→(∃ v,w.cell? ⟨b,o,none⟩=some v)∧w.frozen? ⟨b,o,none⟩=false):=hw
 clear hw
 go_enter Tryz.func16,Tryz.ntmps16
 go_wp2_with fail
 go_loopw [1,5] (fun m i wr=>∃ q:Nat,q≤n∧i=.int .i64 q∧m=.int .i64 ((k+q:Nat):Int)∧Hid (∀ o,off+q≤o→wr.cell? ⟨b,o,none⟩=w.cell? ⟨b,o,none⟩)∧
  Hid (∀ i,i<q→wr.cell? ⟨b,off+i,none⟩=some (.int .i64 ((k+i:Nat):Int)))∧Within b off (off+n) w wr) (fun _ i _=>n-(intOf i).toNat)
 case atStart=>exact ⟨0,Nat.zero_le _,rfl,by simp,fun _ _=>rfl,fun i hi=>absurd hi (Nat.not_lt_zero _),Within.refl _ _ _ _⟩
 case round=>
  obtain ⟨q,hq,rfl,rfl,hsame0,hmk,hW⟩:=hrel
  by_cases hlt:q<n
  ·obtain rfl:=ha (by omega)
   have hsame:=hsame0.out
   have d0':=hsame (off+q) (by omega)
   obtain ⟨v0,hv0⟩:=(Hw.out (off+q) (by omega) (by omega)).1
   have d0:wr.cell? ⟨b,off+q,none⟩=some v0:=d0'.trans hv0
   have e0:wr.frozen? ⟨b,off+q,none⟩=false:=(hW.frozen _).trans (Hw.out (off+q) (by omega) (by omega)).2
   have HW:Hid (Within b off (off+n) w wr):=hW
   clear hsame hW d0' hv0
   go_wp2_with fail
   go_roundw
   case rel=>
    refine ⟨q+1,by omega,by go_num,by go_num,fun o ho=>?_,fun i hi=>?_,(HW.out).set (by omega) (by omega) _⟩
    ·rw [cset_ne _ _ _ _ _ _ (by omega)];exact hsame0.out o (by omega)
    ·by_cases e:i=q
     ·subst e
      rw [cset_same (u:=v0) d0];simp
     ·rw [cset_ne _ _ _ _ _ _ (by omega)];exact hmk.out i (by omega)
   case measure=>simp [intOf];omega
  ·obtain rfl:q=n:=by omega
   go_wp2_with fail
   go_ret
   exact ⟨rfl,hW,hmk.out⟩
set_option maxRecDepth 100000 in
set_option maxHeartbeats 16000000 in
theorem eqPlaced12 (z : Bool) (d0 d1 d2 d3 : Int) (n : Nat) (F : Nat → Nat → Int) (a a' : Option Addr) (c c' : Nat) (w : World) (hn : n ≤ 1048576) (hB : NsAt 2 0 w a n F) (hB' : NsAt 2 0 w a' n F) :
    Calls Tryz.prog 12 #[.agg #[.bool z, .int .i64 d0, .int .i64 d1, .int .i64 d2, .int .i64 d3, .slice a n c], .agg #[.bool z, .int .i64 d0, .int .i64 d1, .int .i64 d2, .int .i64 d3, .slice a' n c']] w fun e w' => e = .returned (.bool true) ∧ Below w.heap.size w w' := by
  have H : Hid (NsAt 2 0 w a n F ∧ NsAt 2 0 w a' n F) := ⟨hB, hB'⟩
  have hzz : (z != z) = false := by simp
  have S0 : Hid (Below w.heap.size w ((w.alloc (.cells #[.bool z, .int .i64 d0, .int .i64 d1, .int .i64 d2, .int .i64 d3, .slice a n c] 35)).alloc (.cells #[.bool z, .int .i64 d0, .int .i64 d1, .int .i64 d2, .int .i64 d3, .slice a' n c'] 35)) ∧ Box ((w.alloc (.cells #[.bool z, .int .i64 d0, .int .i64 d1, .int .i64 d2, .int .i64 d3, .slice a n c] 35)).alloc (.cells #[.bool z, .int .i64 d0, .int .i64 d1, .int .i64 d2, .int .i64 d3, .slice a' n c'] 35)) (w.heap.size) 35 #[.bool z, .int .i64 d0, .int .i64 d1, .int .i64 d2, .int .i64 d3, .slice a n c] ∧ Box ((w.alloc (.cells #[.bool z, .int .i64 d0, .int .i64 d1, .int .i64 d2, .int .i64 d3, .slice a n c] 35)).alloc (.cells #[.bool z, .int .i64 d0, .int .i64 d1, .int .i64 d2, .int .i64 d3, .slice a' n c'] 35)) (w.heap.size + 1) 35 #[.bool z, .int .i64 d0, .int .i64 d1, .int .i64 d2, .int .i64 d3, .slice a' n c']) := ⟨bel2 _ _ _, ((Box.new w 35 #[.bool z, .int .i64 d0, .int .i64 d1, .int .i64 d2, .int .i64 d3, .slice a n c]).alloc (.cells #[.bool z, .int .i64 d0, .int .i64 d1, .int .i64 d2, .int .i64 d3, .slice a' n c'] 35)), by have := (Box.new (w.alloc (.cells #[.bool z, .int .i64 d0, .int .i64 d1, .int .i64 d2, .int .i64 d3, .slice a n c] 35)) 35 #[.bool z, .int .i64 d0, .int .i64 d1, .int .i64 d2, .int .i64 d3, .slice a' n c']); simpa using this⟩
  clear hB hB'
  go_enter Tryz.func12, Tryz.ntmps12
  go_upto_region 1 with fail
  generalize ((w.alloc (.cells #[.bool z, .int .i64 d0, .int .i64 d1, .int .i64 d2, .int .i64 d3, .slice a n c] 35)).alloc (.cells #[.bool z, .int .i64 d0, .int .i64 d1, .int .i64 d2, .int .i64 d3, .slice a' n c'] 35)) = V0 at S0 ⊢
  have x0 : V0.cell? ⟨w.heap.size, 0, none⟩ = some (.bool z) := S0.out.2.1.cell 0
  have x1 : V0.cell? ⟨w.heap.size, 1, none⟩ = some (.int .i64 d0) := S0.out.2.1.cell 1
  have x2 : V0.cell? ⟨w.heap.size, 2, none⟩ = some (.int .i64 d1) := S0.out.2.1.cell 2
  have x3 : V0.cell? ⟨w.heap.size, 3, none⟩ = some (.int .i64 d2) := S0.out.2.1.cell 3
  have x4 : V0.cell? ⟨w.heap.size, 4, none⟩ = some (.int .i64 d3) := S0.out.2.1.cell 4
  have x5 : V0.cell? ⟨w.heap.size, 5, none⟩ = some (.slice a n c) := S0.out.2.1.cell 5
  have y0 : V0.cell? ⟨w.heap.size + 1, 0, none⟩ = some (.bool z) := S0.out.2.2.cell 0
  have y1 : V0.cell? ⟨w.heap.size + 1, 1, none⟩ = some (.int .i64 d0) := S0.out.2.2.cell 1
  have y2 : V0.cell? ⟨w.heap.size + 1, 2, none⟩ = some (.int .i64 d1) := S0.out.2.2.cell 2
  have y3 : V0.cell? ⟨w.heap.size + 1, 3, none⟩ = some (.int .i64 d2) := S0.out.2.2.cell 3
  have y4 : V0.cell? ⟨w.heap.size + 1, 4, none⟩ = some (.int .i64 d3) := S0.out.2.2.cell 4
  have y5 : V0.cell? ⟨w.heap.size + 1, 5, none⟩ = some (.slice a' n c') := S0.out.2.2.cell 5
  go_wp2_with fail
  clear x0 x1 x2 x3 x4 x5 y0 y1 y2 y3 y4 y5
  refine (eqTrain18 d0 d1 d2 d3 n F a a' c c' V0 hn (H.out.1.mono (Nat.le_refl _) S0.out.1 (Nat.le_refl _)) (H.out.2.mono (Nat.le_refl _) S0.out.1 (Nat.le_refl _))).mono ?_
  rintro e w1 ⟨rfl, hb⟩
  have MA117 : Hid (Below w.heap.size w w1 ∧ Box w1 (w.heap.size) 35 #[.bool z, .int .i64 d0, .int .i64 d1, .int .i64 d2, .int .i64 d3, .slice a n c] ∧ Box w1 (w.heap.size + 1) 35 #[.bool z, .int .i64 d0, .int .i64 d1, .int .i64 d2, .int .i64 d3, .slice a' n c']) := ⟨S0.out.1.trans (hb.mono S0.out.1.size), S0.out.2.1.mono hb (Nat.le_refl _), S0.out.2.2.mono hb (Nat.le_refl _)⟩
  clear hb S0
  go_wp2_with fail
  go_ret
  exact ⟨rfl, MA117.out.1⟩
set_option maxHeartbeats 2000000 in
theorem markPlaced17 (z : Bool) (d0 d1 d2 d3 : Int) (a : Option Addr) (n cap k b off : Nat) (w : World) (hn : n ≤ 1048576) (hk : k ≤ 1152921504606846976) (ha : 0 < n → a = some ⟨b, off, none⟩) (hl : 0 < n → b < w.heap.size) (hw : ∀ o, off ≤ o → o < off + n * 2 → (∃ v, w.cell? ⟨b, o, none⟩ = some v) ∧ w.frozen? ⟨b, o, none⟩ = false) :
    Calls Tryz.prog 17 #[.agg #[.bool z, .int .i64 d0, .int .i64 d1, .int .i64 d2, .int .i64 d3, .slice a n cap], .int .i64 k] w fun e w' => e = .returned (.int .i64 ((k + n * 2 : Nat) : Int)) ∧ Fr (fun q => q = b) w w' ∧ ∀ i, i < n → ∀ j, j < 2 → w'.cell? ⟨b, off + i * 2 + j, none⟩ = some (.int .i64 ((k + i * 2 + j : Nat) : Int)) := by
  have hb := bel1 w (.cells #[.bool z, .int .i64 d0, .int .i64 d1, .int .i64 d2, .int .i64 d3, .slice a n cap] 35)
  have t0 : (w.alloc (.cells #[.bool z, .int .i64 d0, .int .i64 d1, .int .i64 d2, .int .i64 d3, .slice a n cap] 35)).cell? ⟨w.heap.size, 0, none⟩ = some (.bool z) := (Box.new w 35 #[.bool z, .int .i64 d0, .int .i64 d1, .int .i64 d2, .int .i64 d3, .slice a n cap]).cell 0
  have t1 : (w.alloc (.cells #[.bool z, .int .i64 d0, .int .i64 d1, .int .i64 d2, .int .i64 d3, .slice a n cap] 35)).cell? ⟨w.heap.size, 1, none⟩ = some (.int .i64 d0) := (Box.new w 35 #[.bool z, .int .i64 d0, .int .i64 d1, .int .i64 d2, .int .i64 d3, .slice a n cap]).cell 1
  have t2 : (w.alloc (.cells #[.bool z, .int .i64 d0, .int .i64 d1, .int .i64 d2, .int .i64 d3, .slice a n cap] 35)).cell? ⟨w.heap.size, 2, none⟩ = some (.int .i64 d1) := (Box.new w 35 #[.bool z, .int .i64 d0, .int .i64 d1, .int .i64 d2, .int .i64 d3, .slice a n cap]).cell 2
  have t3 : (w.alloc (.cells #[.bool z, .int .i64 d0, .int .i64 d1, .int .i64 d2, .int .i64 d3, .slice a n cap] 35)).cell? ⟨w.heap.size, 3, none⟩ = some (.int .i64 d2) := (Box.new w 35 #[.bool z, .int .i64 d0, .int .i64 d1, .int .i64 d2, .int .i64 d3, .slice a n cap]).cell 3
  have t4 : (w.alloc (.cells #[.bool z, .int .i64 d0, .int .i64 d1, .int .i64 d2, .int .i64 d3, .slice a n cap] 35)).cell? ⟨w.heap.size, 4, none⟩ = some (.int .i64 d3) := (Box.new w 35 #[.bool z, .int .i64 d0, .int .i64 d1, .int .i64 d2, .int .i64 d3, .slice a n cap]).cell 4
  have t5 : (w.alloc (.cells #[.bool z, .int .i64 d0, .int .i64 d1, .int .i64 d2, .int .i64 d3, .slice a n cap] 35)).cell? ⟨w.heap.size, 5, none⟩ = some (.slice a n cap) := (Box.new w 35 #[.bool z, .int .i64 d0, .int .i64 d1, .int .i64 d2, .int .i64 d3, .slice a n cap]).cell 5
  have HW : Hid (∀ o, off ≤ o → o < off + n * 2 → (∃ v, (w.alloc (.cells #[.bool z, .int .i64 d0, .int .i64 d1, .int .i64 d2, .int .i64 d3, .slice a n cap] 35)).cell? ⟨b, o, none⟩ = some v) ∧ (w.alloc (.cells #[.bool z, .int .i64 d0, .int .i64 d1, .int .i64 d2, .int .i64 d3, .slice a n cap] 35)).frozen? ⟨b, o, none⟩ = false) := fun o h1 h2 => by
    have hl := hl (by omega)
    obtain ⟨⟨v, hv⟩, hf⟩ := hw o h1 h2
    exact ⟨⟨v, cell_keep hb hl hv⟩, (hb.frozen (p := ⟨b, o, none⟩) hl).trans hf⟩
  have HB : Hid (Fr (fun q => q = b) w (w.alloc (.cells #[.bool z, .int .i64 d0, .int .i64 d1, .int .i64 d2, .int .i64 d3, .slice a n cap] 35))) := Fr.of_below hb
  have HL : Hid (0 < n → b < (w.alloc (.cells #[.bool z, .int .i64 d0, .int .i64 d1, .int .i64 d2, .int .i64 d3, .slice a n cap] 35)).heap.size) := fun h => Nat.lt_of_lt_of_le (hl h) hb.size
  clear hw hb hl
  go_enter Tryz.func17, Tryz.ntmps17
  go_upto_region 1 with fail
  generalize w.alloc (.cells #[.bool z, .int .i64 d0, .int .i64 d1, .int .i64 d2, .int .i64 d3, .slice a n cap] 35) = V0 at *
  go_wp2_with fail
  refine (markTrain15 d0 d1 d2 d3 a n cap k b off V0 hn hk ha HL.out HW.out).mono ?_
  rintro e w1 ⟨rfl, ⟨o, h1⟩, h2⟩
  have HF : Hid (Fr (fun q => q = b) w w1 ∧ ∀ i, i < n → ∀ j, j < 2 → w1.cell? ⟨b, off + i * 2 + j, none⟩ = some (.int .i64 ((k + i * 2 + j : Nat) : Int))) := ⟨HB.out.trans (within_frG h1), h2⟩
  clear h1 h2 t0 t1 t2 t3 t4 t5
  go_wp2_with fail
  go_ret
  exact ⟨rfl, HF.out⟩
set_option maxHeartbeats 2000000 in
theorem heldPlaced18 (z : Bool) (d0 d1 d2 d3 : Int) (a : Option Addr) (n cap k b off : Nat) (w : World) (hn : n ≤ 1048576) (hk : k ≤ 1152921504606846976) (ha : 0 < n → a = some ⟨b, off, none⟩) (hl : 0 < n → b < w.heap.size) (hm : ∀ i, i < n → ∀ j, j < 2 → w.cell? ⟨b, off + i * 2 + j, none⟩ = some (.int .i64 ((k + i * 2 + j : Nat) : Int))) :
    Calls Tryz.prog 18 #[.agg #[.bool z, .int .i64 d0, .int .i64 d1, .int .i64 d2, .int .i64 d3, .slice a n cap], .int .i64 k] w fun e w' => e = .returned (.int .i64 ((k + n * 2 : Nat) : Int)) ∧ Below w.heap.size w w' := by
  have hb := bel1 w (.cells #[.bool z, .int .i64 d0, .int .i64 d1, .int .i64 d2, .int .i64 d3, .slice a n cap] 35)
  have t0 : (w.alloc (.cells #[.bool z, .int .i64 d0, .int .i64 d1, .int .i64 d2, .int .i64 d3, .slice a n cap] 35)).cell? ⟨w.heap.size, 0, none⟩ = some (.bool z) := (Box.new w 35 #[.bool z, .int .i64 d0, .int .i64 d1, .int .i64 d2, .int .i64 d3, .slice a n cap]).cell 0
  have t1 : (w.alloc (.cells #[.bool z, .int .i64 d0, .int .i64 d1, .int .i64 d2, .int .i64 d3, .slice a n cap] 35)).cell? ⟨w.heap.size, 1, none⟩ = some (.int .i64 d0) := (Box.new w 35 #[.bool z, .int .i64 d0, .int .i64 d1, .int .i64 d2, .int .i64 d3, .slice a n cap]).cell 1
  have t2 : (w.alloc (.cells #[.bool z, .int .i64 d0, .int .i64 d1, .int .i64 d2, .int .i64 d3, .slice a n cap] 35)).cell? ⟨w.heap.size, 2, none⟩ = some (.int .i64 d1) := (Box.new w 35 #[.bool z, .int .i64 d0, .int .i64 d1, .int .i64 d2, .int .i64 d3, .slice a n cap]).cell 2
  have t3 : (w.alloc (.cells #[.bool z, .int .i64 d0, .int .i64 d1, .int .i64 d2, .int .i64 d3, .slice a n cap] 35)).cell? ⟨w.heap.size, 3, none⟩ = some (.int .i64 d2) := (Box.new w 35 #[.bool z, .int .i64 d0, .int .i64 d1, .int .i64 d2, .int .i64 d3, .slice a n cap]).cell 3
  have t4 : (w.alloc (.cells #[.bool z, .int .i64 d0, .int .i64 d1, .int .i64 d2, .int .i64 d3, .slice a n cap] 35)).cell? ⟨w.heap.size, 4, none⟩ = some (.int .i64 d3) := (Box.new w 35 #[.bool z, .int .i64 d0, .int .i64 d1, .int .i64 d2, .int .i64 d3, .slice a n cap]).cell 4
  have t5 : (w.alloc (.cells #[.bool z, .int .i64 d0, .int .i64 d1, .int .i64 d2, .int .i64 d3, .slice a n cap] 35)).cell? ⟨w.heap.size, 5, none⟩ = some (.slice a n cap) := (Box.new w 35 #[.bool z, .int .i64 d0, .int .i64 d1, .int .i64 d2, .int .i64 d3, .slice a n cap]).cell 5
  have HM : Hid (∀ i, i < n → ∀ j, j < 2 → (w.alloc (.cells #[.bool z, .int .i64 d0, .int .i64 d1, .int .i64 d2, .int .i64 d3, .slice a n cap] 35)).cell? ⟨b, off + i * 2 + j, none⟩ = some (.int .i64 ((k + i * 2 + j : Nat) : Int))) := fun i hi j hj => cell_keep hb (hl (by omega)) (hm i hi j hj)
  have HB : Hid (Below w.heap.size w (w.alloc (.cells #[.bool z, .int .i64 d0, .int .i64 d1, .int .i64 d2, .int .i64 d3, .slice a n cap] 35))) := hb
  have HL : Hid (0 < n → b < (w.alloc (.cells #[.bool z, .int .i64 d0, .int .i64 d1, .int .i64 d2, .int .i64 d3, .slice a n cap] 35)).heap.size) := fun h => Nat.lt_of_lt_of_le (hl h) hb.size
  have hnn : ¬ (((k + n * 2 : Nat) : Int) < 0) := by omega
  have hnn2 : ¬ ((k : Int) + (n : Int) * 2 < 0) := by omega
  clear hm hl hb
  go_enter Tryz.func18, Tryz.ntmps18
  go_upto_region 1 with fail
  generalize w.alloc (.cells #[.bool z, .int .i64 d0, .int .i64 d1, .int .i64 d2, .int .i64 d3, .slice a n cap] 35) = V0 at *
  go_wp2_with fail
  refine (heldTrain20 d0 d1 d2 d3 a n cap k b off V0 hn hk ha HL.out HM.out).mono ?_
  rintro e w1 ⟨rfl, h1⟩
  have HE : Hid (Below w.heap.size w w1) := HB.out.trans (h1.mono HB.out.size)
  clear h1 t0 t1 t2 t3 t4 t5
  go_wp2_with fail
  go_ret
  exact ⟨rfl, HE.out⟩
theorem plG_le {h : Nat → Int} {lg : Int} {cd : Nat → Int} : ∀ {f k z : Nat}, plG h lg cd f k = some z → z ≤ k + f
  | 0, k, z, hh => by
    by_cases c : lg ≤ h k
    · have h1 : plG h lg cd 0 k = some k := if_pos c
      rw [h1, Option.some.injEq] at hh
      omega
    · have h1 : plG h lg cd 0 k = none := if_neg c
      rw [h1] at hh
      cases hh
  | f + 1, k, z, hh => by
    by_cases c : lg ≤ h k
    · rw [plG_in c, Option.some.injEq] at hh
      omega
    · by_cases d : cd k = 0
      · have h1 : plG h lg cd (f + 1) k = plG h lg cd f (k + 1) := by
          show (if lg ≤ h k then some k else if cd k = 0 then plG h lg cd f (k + 1) else none) = _
          rw [if_neg c, if_pos d]
        rw [h1] at hh
        have := plG_le hh
        omega
      · rw [plG_no c (Or.inl d)] at hh
        cases hh
theorem plO_le (v : Nv) (nl : Nat) (L : Nat → Int) (fp fa fw lg : Int) : (plO v nl L fp fa fw lg).getD 0 ≤ 200 := by
  unfold plO
  split
  · cases hh : plG (plH v L fp fa fw) lg (plC v L fp.toNat fw) 200 0 with
    | none => simp
    | some z =>
      have := plG_le hh
      simp
      omega
  · simp

end Go.Proofs.YtjhmaofjmalglaaGreat
