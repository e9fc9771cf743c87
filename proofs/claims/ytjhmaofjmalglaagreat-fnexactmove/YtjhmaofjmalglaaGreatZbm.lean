import Derived.Test.YtjhmaofjmalglaaGreatZbi
import Derived.Test.YtjhmaofjmalglaaGreatZbl
import Derived.Test.YtjhmaofjmalglaaGreatZba
import Derived.Test.YtjhmaofjmalglaaGreatZag
namespace Go.Proofs.YtjhmaofjmalglaaGreat
open Go.RowKit Go.Lib

theorem own_markG {B' n c m : Nat} {T0 : TypeId} {w : World} {a : Option Addr} {F : Nat → Nat → Value} (h : VOwn B' T0 m w (.slice a n c) n F) (hB : B' ≤ w.heap.size) : ∃ g, (0 < n → a = some ⟨g, 0, none⟩) ∧ (0 < n → g < w.heap.size) ∧ B' ≤ g ∧ (∀ o, 0 ≤ o → o < 0 + n * m → (∃ v, w.cell? ⟨g, o, none⟩ = some v) ∧ w.frozen? ⟨g, o, none⟩ = false) ∧ ∀ q T xs, T ≠ T0 → Box w q T xs → q ≠ g := by
  rcases h with ⟨h1, h0⟩ | ⟨g, cp, cur, h1, h2, h3, h4, h5, h6, h7⟩
  · subst h0
    exact ⟨w.heap.size, fun h => absurd h (Nat.lt_irrefl _), fun h => absurd h (Nat.lt_irrefl _), hB, fun o _ ho => absurd ho (by omega), fun q T xs _ hb => by have := hb.lt; omega⟩
  · simp only [Value.slice.injEq] at h1
    obtain ⟨rfl, -, rfl⟩ := h1
    refine ⟨g, fun _ => rfl, fun _ => h3.lt, h2, fun o _ ho => ?_, fun q T xs hT hb => box_ne hb h3 hT⟩
    have hlt : o < cur.size := by rw [h6]; exact Nat.lt_of_lt_of_le (by omega) (Nat.mul_le_mul_right m h4)
    exact ⟨⟨cur[o], by rw [h3.cell]; exact Array.getElem?_eq_getElem hlt⟩, h3.free o⟩
theorem within_frG {g lo hi : Nat} {w w' : World} {o : Obj} (h : Within g lo hi (w.alloc o) w') : Fr (fun b => b = g) w w' :=
  ⟨h.os, h.tape, h.output, by rw [h.size]; simp, fun k hk hn => (h.other k hn).trans (Below.heap_alloc w o k hk)⟩
theorem within_fr0 {g lo hi : Nat} {w w' : World} (h : Within g lo hi w w') : Fr (fun b => b = g) w w' :=
  ⟨h.os, h.tape, h.output, by rw [h.size]; exact Nat.le_refl _, fun k _ hn => h.other k hn⟩

theorem IsTo.own {w : World} {B n : Nat} {D : Nat → Int} (h : IsTo w B n n D) (hn : n ≤ maxLen) : VOwn B 3 1 w (.slice (some ⟨B, 0, none⟩) n n) n (intF (fun i _ => D i)) := by
  obtain ⟨f, ⟨cur, h1, h2, h3⟩, hf⟩ := h
  refine .inr ⟨B, n, cur, rfl, Nat.le_refl _, h1, Nat.le_refl _, hn, by rw [h2]; omega, fun i hi j hj => ?_⟩
  obtain rfl : j = 0 := by omega
  have hk : i * 1 + 0 < n := by omega
  rw [h3 _ hk, show i * 1 + 0 = i by omega, hf i hi]
theorem is_of {w : World} {a : Option Addr} {n : Nat} {D : Nat → Int} (h : VsAt 1 0 w a n (intF (fun i _ => D i))) : IsAt 0 w a n D := fun h0 => by
  obtain ⟨b, off, ha, hb, hl, hc⟩ := h h0
  refine ⟨b, off, ha, hb, hl, fun i hi => ?_⟩
  have := hc i hi 0 (by omega)
  rw [show off + i * 1 + 0 = off + i by omega] at this
  exact this
set_option maxHeartbeats 1000000 in
theorem toIntS9x (a : Option Addr) (n cap : Nat) (D : Nat → Int) (w : World) (hn : n ≤ 1048576) (hE : IsAt 0 w a n D) :
    Calls Tryz.prog 9 #[.slice a n cap] w fun e w' => ∃ b, e = .returned (.slice (some ⟨b, 0, none⟩) n n) ∧ VOwn w.heap.size 3 1 w' (.slice (some ⟨b, 0, none⟩) n n) n (intF (fun i _ => D i)) ∧ Below w.heap.size w w' := by
  have hmk := make_rows (P := Tryz.prog) 26 3 _ 8 1 Tryz.underlying26 info3i n (by omega) (by omega)
  have hf0 : IsTo (w.alloc (.cells (mk0 (.int .i64 0) (n * 1)) 3)) w.heap.size n 0 D := by
    obtain ⟨f0, hf0⟩ := row_mk0 w (.int .i64 0) (n * 1) 3
    rw [Nat.mul_one] at hf0 ⊢
    exact ⟨f0, hf0, fun j hj => absurd hj (Nat.not_lt_zero _)⟩
  go_enter Tryz.func9, Tryz.ntmps9
  go_wp2_with fail
  go_loopw [4] (fun i wr => ∃ (k : Nat), k ≤ n ∧ i = .int .i64 k ∧ IsTo wr w.heap.size n k D ∧ Below w.heap.size w wr) (fun i _ => n - (intOf i).toNat)
  case atStart => exact ⟨0, Nat.zero_le _, rfl, by simpa only [Nat.mul_one] using hf0, bel1 _ _⟩
  case round =>
    obtain ⟨k, hk, rfl, hto, hbel⟩ := hrel
    clear hf0 hmk
    by_cases hlt : k < n
    · obtain ⟨b, off, rfl, _, hb, hc⟩ := (hE.mono (Nat.le_refl _) hbel (Nat.le_refl _)) (by omega)
      have c0 := hc k hlt
      have hR := hto.step
      obtain ⟨f, hr1, _⟩ := hto
      have d0 := hr1.cell (i := k) (by omega)
      have e0 := hr1.frozen k
      clear hc hr1
      go_wp2_with fail
      go_roundw
      case rel => exact ⟨k + 1, by omega, by go_num, hR, hbel.setCell (Nat.le_refl _) _⟩
      case measure => simp [intOf]; omega
    · obtain rfl : k = n := by omega
      go_wp2
      go_ret
      exact ⟨_, rfl, hto.own (by simp only [maxLen]; omega), hbel⟩

set_option maxHeartbeats 2000000 in
theorem markIntS16 (a:Option Addr)(n cap k b off:Nat)(w:World)(hn:n≤1048576)(hk:k≤1152921504606846976)(ha:0<n→a=some ⟨b,off,none⟩)
 (hw:∀ o,off≤o→o<off+n→(∃ v,w.cell? ⟨b,o,none⟩=some v)∧w.frozen? ⟨b,o,none⟩=false):
 Calls Tryz.prog 16 #[.slice a n cap,.int .i64 k] w fun e w'=>e=.returned (.int .i64 ((k+n:Nat):Int))∧Within b off (off+n) w w'∧∀ i,i<n→w'.cell? ⟨b,off+i,none⟩=some (.int .i64 ((k+i:Nat):Int)):=by
 have Hw:Hid (∀ o,off≤o→o<off+n→(∃ v,w.cell? ⟨b,o,none⟩=some v)∧w.frozen? ⟨b,o,none⟩=false):=hw
 clear hw
 go_enter Tryz.func16,Tryz.ntmps16
 go_wp2_with fail
 go_loopw [1,5] (fun m i wr=>∃ q:Nat,q≤n∧i=.int .i64 q∧m=.int .i64 ((k+q:Nat):Int)∧Hid (∀ o,off+q≤o→wr.cell? ⟨b,o,none⟩=w.cell? ⟨b,o,none⟩)∧
  Hid (∀ i,i<q→wr.cell? ⟨b,off+i,none⟩=some (.int .i64 ((k+i:Nat):Int)))∧Within b off (off+n) w wr) (fun _ i _=>n-(intOf i).toNat)
 case atStart=>exact ⟨0,Nat.zero_le _,rfl,by simp,fun _ _=>rfl,fun i hi=>absurd hi (Nat.not_lt_zero _),Within.refl _ _ _ _⟩
 case round=>
  obtain ⟨q,hq,rfl,rfl,hsame0,hmk,hW⟩:=hrel
  by_cases hlt:q<n
  ·obtain rfl:=ha (by omega)
   have hsame:=hsame0.out
   have d0':=hsame (off+q) (by omega)
   obtain ⟨v0,hv0⟩:=(Hw.out (off+q) (by omega) (by omega)).1
   have d0:wr.cell? ⟨b,off+q,none⟩=some v0:=d0'.trans hv0
   have e0:wr.frozen? ⟨b,off+q,none⟩=false:=(hW.frozen _).trans (Hw.out (off+q) (by omega) (by omega)).2
   have HW:Hid (Within b off (off+n) w wr):=hW
   clear hsame hW d0' hv0
   go_wp2_with fail
   go_roundw
   case rel=>
    refine ⟨q+1,by omega,by go_num,by go_num,fun o ho=>?_,fun i hi=>?_,(HW.out).set (by omega) (by omega) _⟩
    ·rw [cset_ne _ _ _ _ _ _ (by omega)];exact hsame0.out o (by omega)
    ·by_cases e:i=q
     ·subst e
      rw [cset_same (u:=v0) d0];simp
     ·rw [cset_ne _ _ _ _ _ _ (by omega)];exact hmk.out i (by omega)
   case measure=>simp [intOf];omega
  ·obtain rfl:q=n:=by omega
   go_wp2_with fail
   go_ret
   exact ⟨rfl,hW,hmk.out⟩
end Go.Proofs.YtjhmaofjmalglaaGreat
