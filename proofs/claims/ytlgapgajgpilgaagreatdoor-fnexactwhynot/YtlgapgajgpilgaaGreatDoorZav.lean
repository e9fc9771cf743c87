import Derived.Test.YtlgapgajgpilgaaGreatDoorZau
import Derived.Test.YtlgapgajgpilgaaGreatDoorZai
namespace Go.Proofs.YtlgapgajgpilgaaGreatDoor
open Go.RowKit Go.Lib
theorem VOwn.made1 {w : World} {b m : Nat} (hb : Box w b 4 (mk0 (.bool false) m)) (hm : m ≤ 1048576) : VsAt 1 0 w (some ⟨b, 0, none⟩) m (boolF fun _ => false) := (VOwn.made hb hm).vs.le (Nat.zero_le _)
set_option maxRecDepth 100000 in
set_option maxHeartbeats 4000000 in
theorem entered198 (y : Wy) (b1 b2 b3 b4 b5 : Nat) (oa : Option Addr) (no oc : Nat) (O : Nat → Bool) (pa : Option Addr) (np pc : Nat) (P : Nat → Nat → Int) (sh : Bool) (w : World) (hn1 : 1 ≤ y.ns) (h : VwIn w y b1 b2 b3 b4 b5 oa no O pa np P) :
  Calls Tryz.prog 181 #[.bool sh, .agg #[.slice (some ⟨b1, 0, none⟩) y.ns y.ns, .slice (some ⟨b2, 0, none⟩) y.nl y.nl, .slice (some ⟨b3, 0, none⟩) y.nf y.nf, .slice (some ⟨b4, 0, none⟩) y.no y.no, .slice (some ⟨b5, 0, none⟩) y.nm y.nm, .slice oa no oc, .slice pa np pc]] w fun e w' => SlR w y.ns (useS ⟨y.ns, fun k => O (y.S k).toNat, prvB y O P⟩ 0 (fun _ => false) sh) e w' := by
 have H : Hid (VwIn w y b1 b2 b3 b4 b5 oa no O pa np P) := h
 have hns : y.ns ≤ 1048576 := by have := h.sm.1; omega
 clear h
 have hmk := make_rows (P := Tryz.prog) 27 4 _ 1 1 Tryz.underlying27 infoBool y.ns (by omega) (by omega)
 simp only [Nat.mul_one] at hmk
 have SX : Hid (Below w.heap.size w (w.alloc (.cells #[.slice (some ⟨b1, 0, none⟩) y.ns y.ns, .slice (some ⟨b2, 0, none⟩) y.nl y.nl, .slice (some ⟨b3, 0, none⟩) y.nf y.nf, .slice (some ⟨b4, 0, none⟩) y.no y.no, .slice (some ⟨b5, 0, none⟩) y.nm y.nm, .slice oa no oc, .slice pa np pc] 144)) ∧ Box (w.alloc (.cells #[.slice (some ⟨b1, 0, none⟩) y.ns y.ns, .slice (some ⟨b2, 0, none⟩) y.nl y.nl, .slice (some ⟨b3, 0, none⟩) y.nf y.nf, .slice (some ⟨b4, 0, none⟩) y.no y.no, .slice (some ⟨b5, 0, none⟩) y.nm y.nm, .slice oa no oc, .slice pa np pc] 144)) w.heap.size 144 #[.slice (some ⟨b1, 0, none⟩) y.ns y.ns, .slice (some ⟨b2, 0, none⟩) y.nl y.nl, .slice (some ⟨b3, 0, none⟩) y.nf y.nf, .slice (some ⟨b4, 0, none⟩) y.no y.no, .slice (some ⟨b5, 0, none⟩) y.nm y.nm, .slice oa no oc, .slice pa np pc]) := ⟨bel1 _ _, Box.new w 144 #[.slice (some ⟨b1, 0, none⟩) y.ns y.ns, .slice (some ⟨b2, 0, none⟩) y.nl y.nl, .slice (some ⟨b3, 0, none⟩) y.nf y.nf, .slice (some ⟨b4, 0, none⟩) y.no y.no, .slice (some ⟨b5, 0, none⟩) y.nm y.nm, .slice oa no oc, .slice pa np pc]⟩
 have BX0 := Box.new w 144 #[.slice (some ⟨b1, 0, none⟩) y.ns y.ns, .slice (some ⟨b2, 0, none⟩) y.nl y.nl, .slice (some ⟨b3, 0, none⟩) y.nf y.nf, .slice (some ⟨b4, 0, none⟩) y.no y.no, .slice (some ⟨b5, 0, none⟩) y.nm y.nm, .slice oa no oc, .slice pa np pc]
 have v0 := BX0.cel 0
 have v1 := BX0.cel 1
 have v2 := BX0.cel 2
 have v3 := BX0.cel 3
 have v4 := BX0.cel 4
 have v5 := BX0.cel 5
 have v6 := BX0.cel 6
 clear BX0
 go_enter Tryz.func181, Tryz.ntmps181
 go_wp2_with fail
 generalize w.alloc (.cells #[.slice (some ⟨b1, 0, none⟩) y.ns y.ns, .slice (some ⟨b2, 0, none⟩) y.nl y.nl, .slice (some ⟨b3, 0, none⟩) y.nf y.nf, .slice (some ⟨b4, 0, none⟩) y.no y.no, .slice (some ⟨b5, 0, none⟩) y.nm y.nm, .slice oa no oc, .slice pa np pc] 144) = W at *
 have hlt : w.heap.size < W.heap.size := SX.out.2.lt
 refine wp_region_held_drew (S := (fun wx : World => wx.cell? ⟨w.heap.size, 0, none⟩ = some (.slice (some ⟨b1, 0, none⟩) y.ns y.ns) ∧ wx.cell? ⟨w.heap.size, 1, none⟩ = some (.slice (some ⟨b2, 0, none⟩) y.nl y.nl) ∧ wx.cell? ⟨w.heap.size, 2, none⟩ = some (.slice (some ⟨b3, 0, none⟩) y.nf y.nf) ∧ wx.cell? ⟨w.heap.size, 3, none⟩ = some (.slice (some ⟨b4, 0, none⟩) y.no y.no) ∧ wx.cell? ⟨w.heap.size, 4, none⟩ = some (.slice (some ⟨b5, 0, none⟩) y.nm y.nm) ∧ wx.cell? ⟨w.heap.size, 5, none⟩ = some (.slice oa no oc) ∧ wx.cell? ⟨w.heap.size, 6, none⟩ = some (.slice pa np pc))) (by kernel_rfl) ?_ (fun hHeld => ?_)
 ·
  exact ⟨v0, v1, v2, v3, v4, v5, v6⟩
 refine tk 0 ?_
 refine tk 1 ?_
 refine tk 2 ?_
 refine tk 3 ?_
 refine tk 5 ?_
 refine tk 7 ?_
 refine rl 4 fun K hK => ?_
 go_wp2_with fail
 have SX4 : Hid (Below w.heap.size w (W.alloc (.cells (mk0 (.bool false) y.ns) 4)).drew ∧ Box (W.alloc (.cells (mk0 (.bool false) y.ns) 4)).drew w.heap.size 144 #[.slice (some ⟨b1, 0, none⟩) y.ns y.ns, .slice (some ⟨b2, 0, none⟩) y.nl y.nl, .slice (some ⟨b3, 0, none⟩) y.nf y.nf, .slice (some ⟨b4, 0, none⟩) y.no y.no, .slice (some ⟨b5, 0, none⟩) y.nm y.nm, .slice oa no oc, .slice pa np pc] ∧ Box (W.alloc (.cells (mk0 (.bool false) y.ns) 4)).drew W.heap.size 4 (mk0 (.bool false) y.ns)) := ⟨(SX.out.1.alloc SX.out.1.size _).drew, (SX.out.2.alloc _).drew, (Box.new W 4 (mk0 (.bool false) y.ns)).drew⟩
 refine hK.out _ _ ?_ (fun hHeld4 => ?_)
 ·
  exact ⟨SX4.out.2.1.cell 0, SX4.out.2.1.cell 1, SX4.out.2.1.cell 2, SX4.out.2.1.cell 3, SX4.out.2.1.cell 4, SX4.out.2.1.cell 5, SX4.out.2.1.cell 6⟩
 clear hK K
 refine tk 6 ?_
 refine rl 8 fun K hK => ?_
 go_simp
 go_at_call 182
 refine (used199 y b1 b2 b3 b4 b5 oa no oc O pa np pc P 0 W.heap.size y.ns (fun _ => false) sh _ hn1 (Nat.zero_le _) (H.out.mono SX4.out.1 nr) (VOwn.made1 SX4.out.2.2 hns)).mono ?_
 rintro e w5 ⟨v, rfl, hv, hb5⟩
 have HF : Hid (SlR w y.ns (useS ⟨y.ns, fun k => O (y.S k).toNat, prvB y O P⟩ 0 (fun _ => false) sh) (.returned v) w5) := ⟨v, rfl, hv, SX4.out.1.trans (hb5.mono SX4.out.1.size)⟩
 have BX5 := SX4.out.2.1.mono hb5 nr
 go_wp2_with fail
 refine hK.out _ _ ?_ (fun hHeld8 => ?_)
 ·
  exact ⟨BX5.cell 0, BX5.cell 1, BX5.cell 2, BX5.cell 3, BX5.cell 4, BX5.cell 5, BX5.cell 6⟩
 clear hK K
 refine tk 9 ?_
 refine wpAnyH_done (by kernel_rfl) ?_ _
 go_wp2_with fail
 go_ret
 exact HF.out
set_option maxRecDepth 100000 in
set_option maxHeartbeats 4000000 in
theorem idle193 (y : Wy) (b1 b2 b3 b4 b5 : Nat) (oa : Option Addr) (no oc : Nat) (O : Nat → Bool) (pa : Option Addr) (np pc : Nat) (P : Nat → Nat → Int) (w : World)  :
  Calls Tryz.prog 176 #[.agg #[], .agg #[.slice (some ⟨b1, 0, none⟩) y.ns y.ns, .slice (some ⟨b2, 0, none⟩) y.nl y.nl, .slice (some ⟨b3, 0, none⟩) y.nf y.nf, .slice (some ⟨b4, 0, none⟩) y.no y.no, .slice (some ⟨b5, 0, none⟩) y.nm y.nm, .slice oa no oc, .slice pa np pc]] w fun e w' => SlR w y.ns (WS.settle ⟨y.ns, fun k => O (y.S k).toNat, prvB y O P⟩ .idle) e w' := by
 have HF : Hid (SlR w y.ns (WS.settle ⟨y.ns, fun k => O (y.S k).toNat, prvB y O P⟩ .idle) (.returned (.iface 155 (.agg #[]))) ((w.alloc (.cells #[] 155)).alloc (.cells #[.slice (some ⟨b1, 0, none⟩) y.ns y.ns, .slice (some ⟨b2, 0, none⟩) y.nl y.nl, .slice (some ⟨b3, 0, none⟩) y.nf y.nf, .slice (some ⟨b4, 0, none⟩) y.no y.no, .slice (some ⟨b5, 0, none⟩) y.nm y.nm, .slice oa no oc, .slice pa np pc] 144))) := ⟨_, rfl, rfl, bel2 _ _ _⟩
 go_enter Tryz.func176, Tryz.ntmps176
 go_wp2_with fail
 go_ret
 exact HF.out
set_option maxRecDepth 100000 in
set_option maxHeartbeats 4000000 in
theorem set196 (y : Wy) (b1 b2 b3 b4 b5 : Nat) (oa : Option Addr) (no oc : Nat) (O : Nat → Bool) (pa : Option Addr) (np pc : Nat) (P : Nat → Nat → Int) (sh : Bool) (w : World) (hn1 : 1 ≤ y.ns) (h : VwIn w y b1 b2 b3 b4 b5 oa no O pa np P) :
  Calls Tryz.prog 179 #[.agg #[.bool sh], .agg #[.slice (some ⟨b1, 0, none⟩) y.ns y.ns, .slice (some ⟨b2, 0, none⟩) y.nl y.nl, .slice (some ⟨b3, 0, none⟩) y.nf y.nf, .slice (some ⟨b4, 0, none⟩) y.no y.no, .slice (some ⟨b5, 0, none⟩) y.nm y.nm, .slice oa no oc, .slice pa np pc]] w fun e w' => SlR w y.ns (WS.settle ⟨y.ns, fun k => O (y.S k).toNat, prvB y O P⟩ (.set sh)) e w' := by
 have H : Hid (VwIn w y b1 b2 b3 b4 b5 oa no O pa np P) := h
 have hns : y.ns ≤ 1048576 := by have := h.sm.1; omega
 clear h
 have SX : Hid (Below w.heap.size w ((w.alloc (.cells #[.bool sh] 157)).alloc (.cells #[.slice (some ⟨b1, 0, none⟩) y.ns y.ns, .slice (some ⟨b2, 0, none⟩) y.nl y.nl, .slice (some ⟨b3, 0, none⟩) y.nf y.nf, .slice (some ⟨b4, 0, none⟩) y.no y.no, .slice (some ⟨b5, 0, none⟩) y.nm y.nm, .slice oa no oc, .slice pa np pc] 144)) ∧ Box ((w.alloc (.cells #[.bool sh] 157)).alloc (.cells #[.slice (some ⟨b1, 0, none⟩) y.ns y.ns, .slice (some ⟨b2, 0, none⟩) y.nl y.nl, .slice (some ⟨b3, 0, none⟩) y.nf y.nf, .slice (some ⟨b4, 0, none⟩) y.no y.no, .slice (some ⟨b5, 0, none⟩) y.nm y.nm, .slice oa no oc, .slice pa np pc] 144)) w.heap.size 157 #[.bool sh] ∧ Box ((w.alloc (.cells #[.bool sh] 157)).alloc (.cells #[.slice (some ⟨b1, 0, none⟩) y.ns y.ns, .slice (some ⟨b2, 0, none⟩) y.nl y.nl, .slice (some ⟨b3, 0, none⟩) y.nf y.nf, .slice (some ⟨b4, 0, none⟩) y.no y.no, .slice (some ⟨b5, 0, none⟩) y.nm y.nm, .slice oa no oc, .slice pa np pc] 144)) (w.heap.size + 1) 144 #[.slice (some ⟨b1, 0, none⟩) y.ns y.ns, .slice (some ⟨b2, 0, none⟩) y.nl y.nl, .slice (some ⟨b3, 0, none⟩) y.nf y.nf, .slice (some ⟨b4, 0, none⟩) y.no y.no, .slice (some ⟨b5, 0, none⟩) y.nm y.nm, .slice oa no oc, .slice pa np pc]) := ⟨bel2 _ _ _, (Box.new _ _ _).alloc _, by have := Box.new (w.alloc (.cells #[.bool sh] 157)) 144 #[.slice (some ⟨b1, 0, none⟩) y.ns y.ns, .slice (some ⟨b2, 0, none⟩) y.nl y.nl, .slice (some ⟨b3, 0, none⟩) y.nf y.nf, .slice (some ⟨b4, 0, none⟩) y.no y.no, .slice (some ⟨b5, 0, none⟩) y.nm y.nm, .slice oa no oc, .slice pa np pc]; simpa using this⟩
 go_enter Tryz.func179, Tryz.ntmps179
 go_wp2_with fail
 generalize ((w.alloc (.cells #[.bool sh] 157)).alloc (.cells #[.slice (some ⟨b1, 0, none⟩) y.ns y.ns, .slice (some ⟨b2, 0, none⟩) y.nl y.nl, .slice (some ⟨b3, 0, none⟩) y.nf y.nf, .slice (some ⟨b4, 0, none⟩) y.no y.no, .slice (some ⟨b5, 0, none⟩) y.nm y.nm, .slice oa no oc, .slice pa np pc] 144)) = W at *
 refine (filled197 y b1 b2 b3 b4 b5 oa no oc O pa np pc P 0 W (by omega) (H.out.mono SX.out.1 nr)).mono ?_
 rintro e w1 ⟨he, hb1⟩
 have SY : Hid (Below w.heap.size w w1 ∧ Box w1 w.heap.size 157 #[.bool sh] ∧ Box w1 (w.heap.size + 1) 144 #[.slice (some ⟨b1, 0, none⟩) y.ns y.ns, .slice (some ⟨b2, 0, none⟩) y.nl y.nl, .slice (some ⟨b3, 0, none⟩) y.nf y.nf, .slice (some ⟨b4, 0, none⟩) y.no y.no, .slice (some ⟨b5, 0, none⟩) y.nm y.nm, .slice oa no oc, .slice pa np pc]) := ⟨SX.out.1.trans (hb1.mono SX.out.1.size), SX.out.2.1.mono hb1 nr, SX.out.2.2.mono hb1 nr⟩
 clear hb1 SX
 have v0 := SY.out.2.2.cel 0
 have v1 := SY.out.2.2.cel 1
 have v2 := SY.out.2.2.cel 2
 have v3 := SY.out.2.2.cel 3
 have v4 := SY.out.2.2.cel 4
 have v5 := SY.out.2.2.cel 5
 have v6 := SY.out.2.2.cel 6
 have u0 := SY.out.2.1.cel 0
 cases hO : O (y.S 0).toNat with
 | true =>
  rw [hO] at he
  subst he
  have HS : Hid (WS.settle ⟨y.ns, fun k => O (y.S k).toNat, prvB y O P⟩ (.set sh) = useS ⟨y.ns, fun k => O (y.S k).toNat, prvB y O P⟩ 0 (fun _ => false) sh) := by
   show WS.settle _ _ = _
   simp [WS.settle, hO]
  go_wp2_with fail
  refine (entered198 y b1 b2 b3 b4 b5 oa no oc O pa np pc P sh w1 hn1 (H.out.mono SY.out.1 nr)).mono ?_
  rintro e w2 ⟨v, rfl, hv, hb2⟩
  have HF : Hid (SlR w y.ns (WS.settle ⟨y.ns, fun k => O (y.S k).toNat, prvB y O P⟩ (.set sh)) (.returned v) w2) := by
   rw [Hid, HS.out]
   exact ⟨v, rfl, hv, SY.out.1.trans (hb2.mono SY.out.1.size)⟩
  go_wp2_with fail
  go_ret
  exact HF.out
 | false =>
  rw [hO] at he
  subst he
  go_wp2_with fail
  refine (proved70 y b1 b2 b3 b4 b5 oa no oc O pa np pc P w1 (H.out.mono SY.out.1 nr)).mono ?_
  rintro e w2 ⟨he, hb2⟩
  have SZ : Hid (Below w.heap.size w w2 ∧ Box w2 w.heap.size 157 #[.bool sh]) := ⟨SY.out.1.trans (hb2.mono SY.out.1.size), SY.out.2.1.mono hb2 nr⟩
  have u0 := SZ.out.2.cel 0
  clear hb2 SY v0 v1 v2 v3 v4 v5 v6
  cases hp : prvB y O P with
  | true =>
   rw [hp] at he
   subst he
   have HF : Hid (SlR w y.ns (WS.settle ⟨y.ns, fun k => O (y.S k).toNat, true⟩ (.set sh)) (.returned (.iface 158 (.agg #[]))) w2) := by
    have : WS.settle ⟨y.ns, fun k => O (y.S k).toNat, true⟩ (.set sh) = .clear := by simp [WS.settle, hO]
    rw [Hid, this]
    exact ⟨_, rfl, rfl, SZ.out.1⟩
   go_wp2_with fail
   go_ret
   rw [← hp] at HF
   exact HF.out
  | false =>
   rw [hp] at he
   subst he
   have HF : Hid (SlR w y.ns (WS.settle ⟨y.ns, fun k => O (y.S k).toNat, false⟩ (.set sh)) (.returned (.iface 157 (.agg #[.bool sh]))) w2) := by
    have : WS.settle ⟨y.ns, fun k => O (y.S k).toNat, false⟩ (.set sh) = .set sh := by simp [WS.settle, hO]
    rw [Hid, this]
    exact ⟨_, rfl, rfl, SZ.out.1⟩
   go_wp2_with fail
   go_ret
   rw [← hp] at HF
   exact HF.out
set_option maxRecDepth 100000 in
set_option maxHeartbeats 4000000 in
theorem taking206 (y : Wy) (b1 b2 b3 b4 b5 : Nat) (oa : Option Addr) (no oc : Nat) (O : Nat → Bool) (pa : Option Addr) (np pc : Nat) (P : Nat → Nat → Int) (t : Int) (w : World) (hn1 : 1 ≤ y.ns) (h : VwIn w y b1 b2 b3 b4 b5 oa no O pa np P) :
  Calls Tryz.prog 190 #[.agg #[.int .i64 t], .agg #[.slice (some ⟨b1, 0, none⟩) y.ns y.ns, .slice (some ⟨b2, 0, none⟩) y.nl y.nl, .slice (some ⟨b3, 0, none⟩) y.nf y.nf, .slice (some ⟨b4, 0, none⟩) y.no y.no, .slice (some ⟨b5, 0, none⟩) y.nm y.nm, .slice oa no oc, .slice pa np pc]] w fun e w' => SlR w y.ns (WS.settle ⟨y.ns, fun k => O (y.S k).toNat, prvB y O P⟩ (.taking t)) e w' := by
 have H : Hid (VwIn w y b1 b2 b3 b4 b5 oa no O pa np P) := h
 have hns : y.ns ≤ 1048576 := by have := h.sm.1; omega
 clear h
 have SX : Hid (Below w.heap.size w ((w.alloc (.cells #[.int .i64 t] 160)).alloc (.cells #[.slice (some ⟨b1, 0, none⟩) y.ns y.ns, .slice (some ⟨b2, 0, none⟩) y.nl y.nl, .slice (some ⟨b3, 0, none⟩) y.nf y.nf, .slice (some ⟨b4, 0, none⟩) y.no y.no, .slice (some ⟨b5, 0, none⟩) y.nm y.nm, .slice oa no oc, .slice pa np pc] 144)) ∧ Box ((w.alloc (.cells #[.int .i64 t] 160)).alloc (.cells #[.slice (some ⟨b1, 0, none⟩) y.ns y.ns, .slice (some ⟨b2, 0, none⟩) y.nl y.nl, .slice (some ⟨b3, 0, none⟩) y.nf y.nf, .slice (some ⟨b4, 0, none⟩) y.no y.no, .slice (some ⟨b5, 0, none⟩) y.nm y.nm, .slice oa no oc, .slice pa np pc] 144)) w.heap.size 160 #[.int .i64 t] ∧ Box ((w.alloc (.cells #[.int .i64 t] 160)).alloc (.cells #[.slice (some ⟨b1, 0, none⟩) y.ns y.ns, .slice (some ⟨b2, 0, none⟩) y.nl y.nl, .slice (some ⟨b3, 0, none⟩) y.nf y.nf, .slice (some ⟨b4, 0, none⟩) y.no y.no, .slice (some ⟨b5, 0, none⟩) y.nm y.nm, .slice oa no oc, .slice pa np pc] 144)) (w.heap.size + 1) 144 #[.slice (some ⟨b1, 0, none⟩) y.ns y.ns, .slice (some ⟨b2, 0, none⟩) y.nl y.nl, .slice (some ⟨b3, 0, none⟩) y.nf y.nf, .slice (some ⟨b4, 0, none⟩) y.no y.no, .slice (some ⟨b5, 0, none⟩) y.nm y.nm, .slice oa no oc, .slice pa np pc]) := ⟨bel2 _ _ _, (Box.new _ _ _).alloc _, by have := Box.new (w.alloc (.cells #[.int .i64 t] 160)) 144 #[.slice (some ⟨b1, 0, none⟩) y.ns y.ns, .slice (some ⟨b2, 0, none⟩) y.nl y.nl, .slice (some ⟨b3, 0, none⟩) y.nf y.nf, .slice (some ⟨b4, 0, none⟩) y.no y.no, .slice (some ⟨b5, 0, none⟩) y.nm y.nm, .slice oa no oc, .slice pa np pc]; simpa using this⟩
 go_enter Tryz.func190, Tryz.ntmps190
 go_wp2_with fail
 generalize ((w.alloc (.cells #[.int .i64 t] 160)).alloc (.cells #[.slice (some ⟨b1, 0, none⟩) y.ns y.ns, .slice (some ⟨b2, 0, none⟩) y.nl y.nl, .slice (some ⟨b3, 0, none⟩) y.nf y.nf, .slice (some ⟨b4, 0, none⟩) y.no y.no, .slice (some ⟨b5, 0, none⟩) y.nm y.nm, .slice oa no oc, .slice pa np pc] 144)) = W at *
 refine (filled197 y b1 b2 b3 b4 b5 oa no oc O pa np pc P 0 W (by omega) (H.out.mono SX.out.1 nr)).mono ?_
 rintro e w1 ⟨he, hb1⟩
 have SY : Hid (Below w.heap.size w w1 ∧ Box w1 w.heap.size 160 #[.int .i64 t] ∧ Box w1 (w.heap.size + 1) 144 #[.slice (some ⟨b1, 0, none⟩) y.ns y.ns, .slice (some ⟨b2, 0, none⟩) y.nl y.nl, .slice (some ⟨b3, 0, none⟩) y.nf y.nf, .slice (some ⟨b4, 0, none⟩) y.no y.no, .slice (some ⟨b5, 0, none⟩) y.nm y.nm, .slice oa no oc, .slice pa np pc]) := ⟨SX.out.1.trans (hb1.mono SX.out.1.size), SX.out.2.1.mono hb1 nr, SX.out.2.2.mono hb1 nr⟩
 clear hb1 SX
 have v0 := SY.out.2.2.cel 0
 have v1 := SY.out.2.2.cel 1
 have v2 := SY.out.2.2.cel 2
 have v3 := SY.out.2.2.cel 3
 have v4 := SY.out.2.2.cel 4
 have v5 := SY.out.2.2.cel 5
 have v6 := SY.out.2.2.cel 6
 have u0 := SY.out.2.1.cel 0
 cases hO : O (y.S 0).toNat with
 | true =>
  rw [hO] at he
  subst he
  have HS : Hid (WS.settle ⟨y.ns, fun k => O (y.S k).toNat, prvB y O P⟩ (.taking t) = useS ⟨y.ns, fun k => O (y.S k).toNat, prvB y O P⟩ 0 (fun _ => false) true) := by
   show WS.settle _ _ = _
   simp [WS.settle, hO]
  go_wp2_with fail
  refine (entered198 y b1 b2 b3 b4 b5 oa no oc O pa np pc P true w1 hn1 (H.out.mono SY.out.1 nr)).mono ?_
  rintro e w2 ⟨v, rfl, hv, hb2⟩
  have HF : Hid (SlR w y.ns (WS.settle ⟨y.ns, fun k => O (y.S k).toNat, prvB y O P⟩ (.taking t)) (.returned v) w2) := by
   rw [Hid, HS.out]
   exact ⟨v, rfl, hv, SY.out.1.trans (hb2.mono SY.out.1.size)⟩
  go_wp2_with fail
  go_ret
  exact HF.out
 | false =>
  rw [hO] at he
  subst he
  have HF : Hid (SlR w y.ns (WS.settle ⟨y.ns, fun k => O (y.S k).toNat, prvB y O P⟩ (.taking t)) (.returned (.iface 160 (.agg #[.int .i64 t]))) w1) := by
   have : WS.settle ⟨y.ns, fun k => O (y.S k).toNat, prvB y O P⟩ (.taking t) = .taking t := by simp [WS.settle, hO]
   rw [Hid, this]
   exact ⟨_, rfl, rfl, SY.out.1⟩
  go_wp2_with fail
  go_ret
  exact HF.out
set_option maxRecDepth 100000 in
set_option maxHeartbeats 4000000 in
theorem clear203 (y : Wy) (b1 b2 b3 b4 b5 : Nat) (oa : Option Addr) (no oc : Nat) (O : Nat → Bool) (pa : Option Addr) (np pc : Nat) (P : Nat → Nat → Int) (w : World) (hn1 : 1 ≤ y.ns) (h : VwIn w y b1 b2 b3 b4 b5 oa no O pa np P) :
  Calls Tryz.prog 187 #[.agg #[], .agg #[.slice (some ⟨b1, 0, none⟩) y.ns y.ns, .slice (some ⟨b2, 0, none⟩) y.nl y.nl, .slice (some ⟨b3, 0, none⟩) y.nf y.nf, .slice (some ⟨b4, 0, none⟩) y.no y.no, .slice (some ⟨b5, 0, none⟩) y.nm y.nm, .slice oa no oc, .slice pa np pc]] w fun e w' => SlR w y.ns (WS.settle ⟨y.ns, fun k => O (y.S k).toNat, prvB y O P⟩ .clear) e w' := by
 have H : Hid (VwIn w y b1 b2 b3 b4 b5 oa no O pa np P) := h
 have hns : y.ns ≤ 1048576 := by have := h.sm.1; omega
 clear h
 have HS : Hid (WS.settle ⟨y.ns, fun k => O (y.S k).toNat, prvB y O P⟩ .clear = WS.settle ⟨y.ns, fun k => O (y.S k).toNat, prvB y O P⟩ (.set true)) := rfl
 have SX : Hid (Below w.heap.size w ((w.alloc (.cells #[] 158)).alloc (.cells #[.slice (some ⟨b1, 0, none⟩) y.ns y.ns, .slice (some ⟨b2, 0, none⟩) y.nl y.nl, .slice (some ⟨b3, 0, none⟩) y.nf y.nf, .slice (some ⟨b4, 0, none⟩) y.no y.no, .slice (some ⟨b5, 0, none⟩) y.nm y.nm, .slice oa no oc, .slice pa np pc] 144)) ∧ Box ((w.alloc (.cells #[] 158)).alloc (.cells #[.slice (some ⟨b1, 0, none⟩) y.ns y.ns, .slice (some ⟨b2, 0, none⟩) y.nl y.nl, .slice (some ⟨b3, 0, none⟩) y.nf y.nf, .slice (some ⟨b4, 0, none⟩) y.no y.no, .slice (some ⟨b5, 0, none⟩) y.nm y.nm, .slice oa no oc, .slice pa np pc] 144)) w.heap.size 158 #[] ∧ Box ((w.alloc (.cells #[] 158)).alloc (.cells #[.slice (some ⟨b1, 0, none⟩) y.ns y.ns, .slice (some ⟨b2, 0, none⟩) y.nl y.nl, .slice (some ⟨b3, 0, none⟩) y.nf y.nf, .slice (some ⟨b4, 0, none⟩) y.no y.no, .slice (some ⟨b5, 0, none⟩) y.nm y.nm, .slice oa no oc, .slice pa np pc] 144)) (w.heap.size + 1) 144 #[.slice (some ⟨b1, 0, none⟩) y.ns y.ns, .slice (some ⟨b2, 0, none⟩) y.nl y.nl, .slice (some ⟨b3, 0, none⟩) y.nf y.nf, .slice (some ⟨b4, 0, none⟩) y.no y.no, .slice (some ⟨b5, 0, none⟩) y.nm y.nm, .slice oa no oc, .slice pa np pc]) := ⟨bel2 _ _ _, (Box.new _ _ _).alloc _, by have := Box.new (w.alloc (.cells #[] 158)) 144 #[.slice (some ⟨b1, 0, none⟩) y.ns y.ns, .slice (some ⟨b2, 0, none⟩) y.nl y.nl, .slice (some ⟨b3, 0, none⟩) y.nf y.nf, .slice (some ⟨b4, 0, none⟩) y.no y.no, .slice (some ⟨b5, 0, none⟩) y.nm y.nm, .slice oa no oc, .slice pa np pc]; simpa using this⟩
 go_enter Tryz.func187, Tryz.ntmps187
 go_wp2_with fail
 generalize ((w.alloc (.cells #[] 158)).alloc (.cells #[.slice (some ⟨b1, 0, none⟩) y.ns y.ns, .slice (some ⟨b2, 0, none⟩) y.nl y.nl, .slice (some ⟨b3, 0, none⟩) y.nf y.nf, .slice (some ⟨b4, 0, none⟩) y.no y.no, .slice (some ⟨b5, 0, none⟩) y.nm y.nm, .slice oa no oc, .slice pa np pc] 144)) = W at *
 refine (set196 y b1 b2 b3 b4 b5 oa no oc O pa np pc P true W hn1 (H.out.mono SX.out.1 nr)).mono ?_
 rintro e w2 ⟨v, rfl, hv, hb2⟩
 have HF : Hid (SlR w y.ns (WS.settle ⟨y.ns, fun k => O (y.S k).toNat, prvB y O P⟩ .clear) (.returned v) w2) := by
  rw [Hid, HS.out]
  exact ⟨v, rfl, hv, SX.out.1.trans (hb2.mono SX.out.1.size)⟩
 go_wp2_with fail
 go_ret
 exact HF.out
end Go.Proofs.YtlgapgajgpilgaaGreatDoor
