import Derived.Test.YtjhmaofjmalglaaGreatZbr
namespace Go.Proofs.YtjhmaofjmalglaaGreat
open Go.RowKit Go.Lib
def EnR (w : World) (v : Nv) (L : Nat → Int) (bq fp : Nat) (fa fw lg : Int) (bg bo nb bk : Nat) (B : Nat → Nat → Int) (e : Ending) (w' : World) : Prop :=
 ((exitAt v L fp fw).2 ≠ 0 ∧ e = .returned (.int .i64 (exitAt v L fp fw).2) ∧ Fr (fun x => x = bq) w w' ∧ Box w' bq 90 #[.int .i64 (fp : Int), .int .i64 fa, .int .i64 fw, .int .i64 lg, .slice (some ⟨bg, bo, none⟩) nb bk]) ∨
 ((exitAt v L fp fw).2 = 0 ∧ nb = 200 ∧ e = .returned (.int .i64 6) ∧ Fr (fun x => x = bq) w w' ∧ Box w' bq 90 #[.int .i64 (fp : Int), .int .i64 fa, .int .i64 fw, .int .i64 lg, .slice (some ⟨bg, bo, none⟩) nb bk]) ∨
 ((exitAt v L fp fw).2 = 0 ∧ ¬ nb = 200 ∧ ∃ (q2 : Nat) (nw : Int) (yg yc : Nat), q2 < v.n ∧ ((nextAt v L fp fw).pc = (q2 : Int) ∧ wayOf (nextAt v L fp fw) = nw) ∧ e = .returned (.int .i64 0) ∧ Fr (fun x => x = bq) w w' ∧ Box w' bq 90 #[.int .i64 (q2 : Int), .int .i64 (farI (v.P q2).ln 0 nw), .int .i64 nw, .int .i64 lg, .slice (some ⟨yg, 0, none⟩) (nb + 1) yc] ∧ VOwn w.heap.size 74 2 w' (.slice (some ⟨yg, 0, none⟩) (nb + 1) yc) (nb + 1) (intF (stF (fp : Int) fw B)))
set_option maxRecDepth 100000 in
set_option maxHeartbeats 16000000 in
theorem enter114 {v : Nv} (ok : v.Ok) {bt sb : Nat} {pa : Option Addr} {pc : Nat} {ja : Option Addr} {jc : Nat} (bq fp : Nat) (fa fw lg : Int) (bg bo nb bk : Nat) (B : Nat → Nat → Int) (la : Option Addr) (lc : Nat) (L : Nat → Int) (w : World) (h : TkAt w bt sb v pa pc ja jc) (hfp : fp < v.n) (hfw : fw = 1 ∨ fw = -1) (hnb : nb ≤ 200) (hL : IsAt 0 w la v.m L) (hl : ∀ i, i < v.m → lieB v.J L i = true) (hB : Lst w bg bo nb B) (hbox : Box w bq 90 #[.int .i64 (fp : Int), .int .i64 fa, .int .i64 fw, .int .i64 lg, .slice (some ⟨bg, bo, none⟩) nb bk]) :
  Calls Tryz.prog 114 #[.agg #[.pointer (some ⟨bt, 0, none⟩), .slice la v.m lc], .pointer (some ⟨bq, 0, none⟩)] w fun e w' => EnR w v L bq fp fa fw lg bg bo nb bk B e w' := by
 have H : Hid (v.Ok ∧ TkAt w bt sb v pa pc ja jc ∧ IsAt 0 w la v.m L ∧ (∀ i, i < v.m → lieB v.J L i = true) ∧ Lst w bg bo nb B) := ⟨ok, h, hL, hl, hB⟩
 obtain ⟨cd, HCD⟩ : ∃ c, Hid ((exitAt v L fp fw).2 = c) := ⟨_, rfl⟩
 have S0 : Hid (Below w.heap.size w (w.alloc (.cells #[.pointer (some ⟨bt, 0, none⟩), .slice la v.m lc] 87)) ∧ Box (w.alloc (.cells #[.pointer (some ⟨bt, 0, none⟩), .slice la v.m lc] 87)) (w.heap.size) 87 #[.pointer (some ⟨bt, 0, none⟩), .slice la v.m lc] ∧ Box (w.alloc (.cells #[.pointer (some ⟨bt, 0, none⟩), .slice la v.m lc] 87)) (bq) 90 #[.int .i64 (fp : Int), .int .i64 fa, .int .i64 fw, .int .i64 lg, .slice (some ⟨bg, bo, none⟩) nb bk]) := ⟨bel1 _ _, Box.new _ _ _, hbox.alloc _⟩
 clear ok h hL hl hB hbox
 go_enter Tryz.func114, Tryz.ntmps114
 go_upto_region 1 with fail
 generalize (w.alloc (.cells #[.pointer (some ⟨bt, 0, none⟩), .slice la v.m lc] 87)) = V0 at S0 ⊢
 go_cut [5, 6] from 7 (fun s5 s6 wx => ∃ (nq : Nat) (a b : Int), s5 = .pointer (some ⟨nq, 0, none⟩) ∧ s6 = .int .i64 cd ∧ Hid (cd = 0 → a = (nextAt v L fp fw).pc ∧ b = wayOf (nextAt v L fp fw)) ∧ Hid (Below w.heap.size w wx ∧ Box wx (w.heap.size) 87 #[.pointer (some ⟨bt, 0, none⟩), .slice la v.m lc] ∧ Box wx (bq) 90 #[.int .i64 (fp : Int), .int .i64 fa, .int .i64 fw, .int .i64 lg, .slice (some ⟨bg, bo, none⟩) nb bk] ∧ Box wx (nq) 74 #[.int .i64 a, .int .i64 b]))
 case first =>
  have x0 := S0.out.2.1.cel 0
  have x1 := S0.out.2.1.cel 1
  have m0 := S0.out.2.2.cel 0
  have m1 := S0.out.2.2.cel 1
  have m2 := S0.out.2.2.cel 2
  go_wp2_with fail
  refine wp_region_held_drew (S := (fun wx : World => wx.cell? ⟨w.heap.size, 0, none⟩ = some (.pointer (some ⟨bt, 0, none⟩)) ∧ wx.cell? ⟨w.heap.size, 1, none⟩ = some (.slice la v.m lc) ∧ wx.cell? ⟨bq, 0, none⟩ = some (.int .i64 (fp : Int)) ∧ wx.cell? ⟨bq, 1, none⟩ = some (.int .i64 fa) ∧ wx.cell? ⟨bq, 2, none⟩ = some (.int .i64 fw))) (by kernel_rfl) ?_ (fun hHeld => ?_)
  ·
   exact ⟨x0, x1, m0, m1, m2⟩
  have MD82 : Hid (Below w.heap.size w V0.drew ∧ Box V0.drew (w.heap.size) 87 #[.pointer (some ⟨bt, 0, none⟩), .slice la v.m lc] ∧ Box V0.drew (bq) 90 #[.int .i64 (fp : Int), .int .i64 fa, .int .i64 fw, .int .i64 lg, .slice (some ⟨bg, bo, none⟩) nb bk]) := ⟨S0.out.1.drew, S0.out.2.1.drew, S0.out.2.2.drew⟩
  clear x0 x1 m0 m1 m2 S0
  generalize V0.drew = VD at MD82 hHeld ⊢
  refine tk 0 ?_
  refine tk 1 ?_
  refine tk 2 ?_
  refine tk 3 ?_
  refine tk 4 ?_
  refine ready2_lit (i := 5) (j := 10) (by kernel_rfl) rfl rfl (fun K hK => ?_) (fun K hK => ?_)
  ·
   go_simp
   refine (step79 (fp : Int) fa fw _).mono ?_
   rintro e wh83 ⟨rfl, hb⟩
   have MA84 : Hid (Below w.heap.size w wh83 ∧ Box wh83 (w.heap.size) 87 #[.pointer (some ⟨bt, 0, none⟩), .slice la v.m lc] ∧ Box wh83 (bq) 90 #[.int .i64 (fp : Int), .int .i64 fa, .int .i64 fw, .int .i64 lg, .slice (some ⟨bg, bo, none⟩) nb bk]) := ⟨MD82.out.1.trans (hb.mono MD82.out.1.size), MD82.out.2.1.mono hb nr, MD82.out.2.2.mono hb nr⟩
   clear hb MD82
   go_wp2_with fail
   refine hK.out _ _ ?_ (fun hHeld => ?_)
   ·
    exact ⟨MA84.out.2.1.cell 0, MA84.out.2.1.cell 1, MA84.out.2.2.cell 0, MA84.out.2.2.cell 1, MA84.out.2.2.cell 2⟩
   clear hK K
   refine ready2_lit (i := 6) (j := 10) (by kernel_rfl) rfl rfl (fun K hK => ?_) (fun K hK => ?_)
   ·
    go_simp
    refine (over80 H.out.1 fp fw la lc L _ (H.out.2.1.mono MA84.out.1 nr) hfp hfw (H.out.2.2.1.mono nr MA84.out.1 nr) H.out.2.2.2.1).mono ?_
    rintro e wh85 ⟨a, b, he, hab, hb⟩
    have HAB : Hid (cd = 0 → a = (nextAt v L fp fw).pc ∧ b = wayOf (nextAt v L fp fw)) := by rw [HCD.out] at hab; exact hab
    rw [HCD.out] at he
    subst he
    clear hab
    have MA86 : Hid (Below w.heap.size w wh85 ∧ Box wh85 (w.heap.size) 87 #[.pointer (some ⟨bt, 0, none⟩), .slice la v.m lc] ∧ Box wh85 (bq) 90 #[.int .i64 (fp : Int), .int .i64 fa, .int .i64 fw, .int .i64 lg, .slice (some ⟨bg, bo, none⟩) nb bk]) := ⟨MA84.out.1.trans (hb.mono MA84.out.1.size), MA84.out.2.1.mono hb nr, MA84.out.2.2.mono hb nr⟩
    clear hb MA84
    go_wp2_with fail
    refine hK.out _ _ ?_ (fun hHeld => ?_)
    ·
     exact ⟨MA86.out.2.1.cell 0, MA86.out.2.1.cell 1, MA86.out.2.2.cell 0, MA86.out.2.2.cell 1, MA86.out.2.2.cell 2⟩
    clear hK K
    refine tk 7 ?_
    refine tk 8 ?_
    refine tk 9 ?_
    refine rl 10 fun K hK => ?_
    have MA88 : Hid (Below w.heap.size w (wh85.alloc (.cells #[.int .i64 0, .int .i64 0] 74)) ∧ Box (wh85.alloc (.cells #[.int .i64 0, .int .i64 0] 74)) (w.heap.size) 87 #[.pointer (some ⟨bt, 0, none⟩), .slice la v.m lc] ∧ Box (wh85.alloc (.cells #[.int .i64 0, .int .i64 0] 74)) (bq) 90 #[.int .i64 (fp : Int), .int .i64 fa, .int .i64 fw, .int .i64 lg, .slice (some ⟨bg, bo, none⟩) nb bk] ∧ Box (wh85.alloc (.cells #[.int .i64 0, .int .i64 0] 74)) (wh85.heap.size) 74 #[.int .i64 0, .int .i64 0]) := ⟨MA86.out.1.alloc MA86.out.1.size _, MA86.out.2.1.alloc _, MA86.out.2.2.alloc _, Box.new _ _ _⟩
    have HL89 : Hid (w.heap.size ≤ wh85.heap.size) := MA86.out.1.size
    clear MA86
    go_simp
    refine hK.out _ _ ?_ (fun hHeld => ?_)
    ·
     exact ⟨MA88.out.2.1.cell 0, MA88.out.2.1.cell 1, MA88.out.2.2.1.cell 0, MA88.out.2.2.1.cell 1, MA88.out.2.2.1.cell 2⟩
    clear hK K
    clear hHeld
    generalize wh85.alloc (.cells #[.int .i64 0, .int .i64 0] 74) = V87 at MA88 ⊢
    generalize wh85.heap.size = nq at MA88 HL89 ⊢
    have z0 := MA88.out.2.2.2.cel 0
    have z1 := MA88.out.2.2.2.cel 1
    have zf0 := MA88.out.2.2.2.free 0
    have zf1 := MA88.out.2.2.2.free 1
    have MA90 : Hid (Below w.heap.size w ((V87.setCell ⟨nq, 0, none⟩ (.int .i64 a)).setCell ⟨nq, 1, none⟩ (.int .i64 b)) ∧ Box ((V87.setCell ⟨nq, 0, none⟩ (.int .i64 a)).setCell ⟨nq, 1, none⟩ (.int .i64 b)) (w.heap.size) 87 #[.pointer (some ⟨bt, 0, none⟩), .slice la v.m lc] ∧ Box ((V87.setCell ⟨nq, 0, none⟩ (.int .i64 a)).setCell ⟨nq, 1, none⟩ (.int .i64 b)) (bq) 90 #[.int .i64 (fp : Int), .int .i64 fa, .int .i64 fw, .int .i64 lg, .slice (some ⟨bg, bo, none⟩) nb bk] ∧ Box ((V87.setCell ⟨nq, 0, none⟩ (.int .i64 a)).setCell ⟨nq, 1, none⟩ (.int .i64 b)) (nq) 74 #[.int .i64 a, .int .i64 b]) := ⟨((MA88.out.1.setCell HL89.out _).setCell HL89.out _), ((MA88.out.2.1.other (box_ne MA88.out.2.1 MA88.out.2.2.2 (by decide)) _).other (box_ne MA88.out.2.1 MA88.out.2.2.2 (by decide)) _), ((MA88.out.2.2.1.other (box_ne MA88.out.2.2.1 MA88.out.2.2.2 (by decide)) _).other (box_ne MA88.out.2.2.1 MA88.out.2.2.2 (by decide)) _), by have h9 := ((MA88.out.2.2.2.set 0 (.int .i64 a)).set 1 (.int .i64 b)); exact h9⟩
    clear MA88
    refine rl 11 fun K hK => ?_
    go_simp
    refine hK.out _ _ ?_ (fun hHeld => ?_)
    ·
     exact ⟨MA90.out.2.1.cell 0, MA90.out.2.1.cell 1, MA90.out.2.2.1.cell 0, MA90.out.2.2.1.cell 1, MA90.out.2.2.1.cell 2⟩
    clear hK K
    refine tk 12 ?_
    refine wpAnyH_done (by kernel_rfl) ?_ _
    clear z0 z1 zf0 zf1 hHeld
    generalize ((V87.setCell ⟨nq, 0, none⟩ (.int .i64 a)).setCell ⟨nq, 1, none⟩ (.int .i64 b)) = W91 at MA90 ⊢
    go_wp2_with fail
    go_meet
    case rel => exact ⟨nq, a, b, rfl, rfl, HAB, MA90⟩
   ·
    have MA93 : Hid (Below w.heap.size w (wh83.alloc (.cells #[.int .i64 0, .int .i64 0] 74)) ∧ Box (wh83.alloc (.cells #[.int .i64 0, .int .i64 0] 74)) (w.heap.size) 87 #[.pointer (some ⟨bt, 0, none⟩), .slice la v.m lc] ∧ Box (wh83.alloc (.cells #[.int .i64 0, .int .i64 0] 74)) (bq) 90 #[.int .i64 (fp : Int), .int .i64 fa, .int .i64 fw, .int .i64 lg, .slice (some ⟨bg, bo, none⟩) nb bk] ∧ Box (wh83.alloc (.cells #[.int .i64 0, .int .i64 0] 74)) (wh83.heap.size) 74 #[.int .i64 0, .int .i64 0]) := ⟨MA84.out.1.alloc MA84.out.1.size _, MA84.out.2.1.alloc _, MA84.out.2.2.alloc _, Box.new _ _ _⟩
    have HL94 : Hid (w.heap.size ≤ wh83.heap.size) := MA84.out.1.size
    clear MA84
    go_simp
    refine hK.out _ _ ?_ (fun hHeld => ?_)
    ·
     exact ⟨MA93.out.2.1.cell 0, MA93.out.2.1.cell 1, MA93.out.2.2.1.cell 0, MA93.out.2.2.1.cell 1, MA93.out.2.2.1.cell 2⟩
    clear hK K
    clear hHeld
    generalize wh83.alloc (.cells #[.int .i64 0, .int .i64 0] 74) = V92 at MA93 ⊢
    generalize wh83.heap.size = nq at MA93 HL94 ⊢
    refine rl 6 fun K hK => ?_
    go_simp
    refine (over80 H.out.1 fp fw la lc L _ (H.out.2.1.mono MA93.out.1 nr) hfp hfw (H.out.2.2.1.mono nr MA93.out.1 nr) H.out.2.2.2.1).mono ?_
    rintro e wh95 ⟨a, b, he, hab, hb⟩
    have HAB : Hid (cd = 0 → a = (nextAt v L fp fw).pc ∧ b = wayOf (nextAt v L fp fw)) := by rw [HCD.out] at hab; exact hab
    rw [HCD.out] at he
    subst he
    clear hab
    have MA96 : Hid (Below w.heap.size w wh95 ∧ Box wh95 (w.heap.size) 87 #[.pointer (some ⟨bt, 0, none⟩), .slice la v.m lc] ∧ Box wh95 (bq) 90 #[.int .i64 (fp : Int), .int .i64 fa, .int .i64 fw, .int .i64 lg, .slice (some ⟨bg, bo, none⟩) nb bk] ∧ Box wh95 (nq) 74 #[.int .i64 0, .int .i64 0]) := ⟨MA93.out.1.trans (hb.mono MA93.out.1.size), MA93.out.2.1.mono hb nr, MA93.out.2.2.1.mono hb nr, MA93.out.2.2.2.mono hb nr⟩
    clear hb MA93
    go_wp2_with fail
    refine hK.out _ _ ?_ (fun hHeld => ?_)
    ·
     exact ⟨MA96.out.2.1.cell 0, MA96.out.2.1.cell 1, MA96.out.2.2.1.cell 0, MA96.out.2.2.1.cell 1, MA96.out.2.2.1.cell 2⟩
    clear hK K
    refine tk 7 ?_
    refine tk 8 ?_
    refine tk 9 ?_
    have z0 := MA96.out.2.2.2.cel 0
    have z1 := MA96.out.2.2.2.cel 1
    have zf0 := MA96.out.2.2.2.free 0
    have zf1 := MA96.out.2.2.2.free 1
    have MA97 : Hid (Below w.heap.size w ((wh95.setCell ⟨nq, 0, none⟩ (.int .i64 a)).setCell ⟨nq, 1, none⟩ (.int .i64 b)) ∧ Box ((wh95.setCell ⟨nq, 0, none⟩ (.int .i64 a)).setCell ⟨nq, 1, none⟩ (.int .i64 b)) (w.heap.size) 87 #[.pointer (some ⟨bt, 0, none⟩), .slice la v.m lc] ∧ Box ((wh95.setCell ⟨nq, 0, none⟩ (.int .i64 a)).setCell ⟨nq, 1, none⟩ (.int .i64 b)) (bq) 90 #[.int .i64 (fp : Int), .int .i64 fa, .int .i64 fw, .int .i64 lg, .slice (some ⟨bg, bo, none⟩) nb bk] ∧ Box ((wh95.setCell ⟨nq, 0, none⟩ (.int .i64 a)).setCell ⟨nq, 1, none⟩ (.int .i64 b)) (nq) 74 #[.int .i64 a, .int .i64 b]) := ⟨((MA96.out.1.setCell HL94.out _).setCell HL94.out _), ((MA96.out.2.1.other (box_ne MA96.out.2.1 MA96.out.2.2.2 (by decide)) _).other (box_ne MA96.out.2.1 MA96.out.2.2.2 (by decide)) _), ((MA96.out.2.2.1.other (box_ne MA96.out.2.2.1 MA96.out.2.2.2 (by decide)) _).other (box_ne MA96.out.2.2.1 MA96.out.2.2.2 (by decide)) _), by have h9 := ((MA96.out.2.2.2.set 0 (.int .i64 a)).set 1 (.int .i64 b)); exact h9⟩
    clear MA96
    refine rl 11 fun K hK => ?_
    go_simp
    refine hK.out _ _ ?_ (fun hHeld => ?_)
    ·
     exact ⟨MA97.out.2.1.cell 0, MA97.out.2.1.cell 1, MA97.out.2.2.1.cell 0, MA97.out.2.2.1.cell 1, MA97.out.2.2.1.cell 2⟩
    clear hK K
    refine tk 12 ?_
    refine wpAnyH_done (by kernel_rfl) ?_ _
    clear z0 z1 zf0 zf1 hHeld
    generalize ((wh95.setCell ⟨nq, 0, none⟩ (.int .i64 a)).setCell ⟨nq, 1, none⟩ (.int .i64 b)) = W98 at MA97 ⊢
    go_wp2_with fail
    go_meet
    case rel => exact ⟨nq, a, b, rfl, rfl, HAB, MA97⟩
  ·
   have MA100 : Hid (Below w.heap.size w (VD.alloc (.cells #[.int .i64 0, .int .i64 0] 74)) ∧ Box (VD.alloc (.cells #[.int .i64 0, .int .i64 0] 74)) (w.heap.size) 87 #[.pointer (some ⟨bt, 0, none⟩), .slice la v.m lc] ∧ Box (VD.alloc (.cells #[.int .i64 0, .int .i64 0] 74)) (bq) 90 #[.int .i64 (fp : Int), .int .i64 fa, .int .i64 fw, .int .i64 lg, .slice (some ⟨bg, bo, none⟩) nb bk] ∧ Box (VD.alloc (.cells #[.int .i64 0, .int .i64 0] 74)) (VD.heap.size) 74 #[.int .i64 0, .int .i64 0]) := ⟨MD82.out.1.alloc MD82.out.1.size _, MD82.out.2.1.alloc _, MD82.out.2.2.alloc _, Box.new _ _ _⟩
   have HL101 : Hid (w.heap.size ≤ VD.heap.size) := MD82.out.1.size
   clear MD82
   go_simp
   refine hK.out _ _ ?_ (fun hHeld => ?_)
   ·
    exact ⟨MA100.out.2.1.cell 0, MA100.out.2.1.cell 1, MA100.out.2.2.1.cell 0, MA100.out.2.2.1.cell 1, MA100.out.2.2.1.cell 2⟩
   clear hK K
   clear hHeld
   generalize VD.alloc (.cells #[.int .i64 0, .int .i64 0] 74) = V99 at MA100 ⊢
   generalize VD.heap.size = nq at MA100 HL101 ⊢
   refine rl 5 fun K hK => ?_
   go_simp
   refine (step79 (fp : Int) fa fw _).mono ?_
   rintro e wh102 ⟨rfl, hb⟩
   have MA103 : Hid (Below w.heap.size w wh102 ∧ Box wh102 (w.heap.size) 87 #[.pointer (some ⟨bt, 0, none⟩), .slice la v.m lc] ∧ Box wh102 (bq) 90 #[.int .i64 (fp : Int), .int .i64 fa, .int .i64 fw, .int .i64 lg, .slice (some ⟨bg, bo, none⟩) nb bk] ∧ Box wh102 (nq) 74 #[.int .i64 0, .int .i64 0]) := ⟨MA100.out.1.trans (hb.mono MA100.out.1.size), MA100.out.2.1.mono hb nr, MA100.out.2.2.1.mono hb nr, MA100.out.2.2.2.mono hb nr⟩
   clear hb MA100
   go_wp2_with fail
   refine hK.out _ _ ?_ (fun hHeld => ?_)
   ·
    exact ⟨MA103.out.2.1.cell 0, MA103.out.2.1.cell 1, MA103.out.2.2.1.cell 0, MA103.out.2.2.1.cell 1, MA103.out.2.2.1.cell 2⟩
   clear hK K
   refine rl 6 fun K hK => ?_
   go_simp
   refine (over80 H.out.1 fp fw la lc L _ (H.out.2.1.mono MA103.out.1 nr) hfp hfw (H.out.2.2.1.mono nr MA103.out.1 nr) H.out.2.2.2.1).mono ?_
   rintro e wh104 ⟨a, b, he, hab, hb⟩
   have HAB : Hid (cd = 0 → a = (nextAt v L fp fw).pc ∧ b = wayOf (nextAt v L fp fw)) := by rw [HCD.out] at hab; exact hab
   rw [HCD.out] at he
   subst he
   clear hab
   have MA105 : Hid (Below w.heap.size w wh104 ∧ Box wh104 (w.heap.size) 87 #[.pointer (some ⟨bt, 0, none⟩), .slice la v.m lc] ∧ Box wh104 (bq) 90 #[.int .i64 (fp : Int), .int .i64 fa, .int .i64 fw, .int .i64 lg, .slice (some ⟨bg, bo, none⟩) nb bk] ∧ Box wh104 (nq) 74 #[.int .i64 0, .int .i64 0]) := ⟨MA103.out.1.trans (hb.mono MA103.out.1.size), MA103.out.2.1.mono hb nr, MA103.out.2.2.1.mono hb nr, MA103.out.2.2.2.mono hb nr⟩
   clear hb MA103
   go_wp2_with fail
   refine hK.out _ _ ?_ (fun hHeld => ?_)
   ·
    exact ⟨MA105.out.2.1.cell 0, MA105.out.2.1.cell 1, MA105.out.2.2.1.cell 0, MA105.out.2.2.1.cell 1, MA105.out.2.2.1.cell 2⟩
   clear hK K
   refine tk 7 ?_
   refine tk 8 ?_
   refine tk 9 ?_
   have z0 := MA105.out.2.2.2.cel 0
   have z1 := MA105.out.2.2.2.cel 1
   have zf0 := MA105.out.2.2.2.free 0
   have zf1 := MA105.out.2.2.2.free 1
   have MA106 : Hid (Below w.heap.size w ((wh104.setCell ⟨nq, 0, none⟩ (.int .i64 a)).setCell ⟨nq, 1, none⟩ (.int .i64 b)) ∧ Box ((wh104.setCell ⟨nq, 0, none⟩ (.int .i64 a)).setCell ⟨nq, 1, none⟩ (.int .i64 b)) (w.heap.size) 87 #[.pointer (some ⟨bt, 0, none⟩), .slice la v.m lc] ∧ Box ((wh104.setCell ⟨nq, 0, none⟩ (.int .i64 a)).setCell ⟨nq, 1, none⟩ (.int .i64 b)) (bq) 90 #[.int .i64 (fp : Int), .int .i64 fa, .int .i64 fw, .int .i64 lg, .slice (some ⟨bg, bo, none⟩) nb bk] ∧ Box ((wh104.setCell ⟨nq, 0, none⟩ (.int .i64 a)).setCell ⟨nq, 1, none⟩ (.int .i64 b)) (nq) 74 #[.int .i64 a, .int .i64 b]) := ⟨((MA105.out.1.setCell HL101.out _).setCell HL101.out _), ((MA105.out.2.1.other (box_ne MA105.out.2.1 MA105.out.2.2.2 (by decide)) _).other (box_ne MA105.out.2.1 MA105.out.2.2.2 (by decide)) _), ((MA105.out.2.2.1.other (box_ne MA105.out.2.2.1 MA105.out.2.2.2 (by decide)) _).other (box_ne MA105.out.2.2.1 MA105.out.2.2.2 (by decide)) _), by have h9 := ((MA105.out.2.2.2.set 0 (.int .i64 a)).set 1 (.int .i64 b)); exact h9⟩
   clear MA105
   refine rl 11 fun K hK => ?_
   go_simp
   refine hK.out _ _ ?_ (fun hHeld => ?_)
   ·
    exact ⟨MA106.out.2.1.cell 0, MA106.out.2.1.cell 1, MA106.out.2.2.1.cell 0, MA106.out.2.2.1.cell 1, MA106.out.2.2.1.cell 2⟩
   clear hK K
   refine tk 12 ?_
   refine wpAnyH_done (by kernel_rfl) ?_ _
   clear z0 z1 zf0 zf1 hHeld
   generalize ((wh104.setCell ⟨nq, 0, none⟩ (.int .i64 a)).setCell ⟨nq, 1, none⟩ (.int .i64 b)) = W107 at MA106 ⊢
   go_wp2_with fail
   go_meet
   case rel => exact ⟨nq, a, b, rfl, rfl, HAB, MA106⟩
 case rest =>
  obtain ⟨nq, a, b, rfl, rfl, HAB, E⟩ := hcut
  clear S0
  generalize wc = W2 at E ⊢
  have m4 := E.out.2.2.1.cel 4
  by_cases hcd : cd = 0
  ·
   subst hcd
   by_cases hn200 : nb = 200
   ·
    have hk : ((nb : Int) == 200) = true := by simp; omega
    have HN : Hid (nb = 200) := hn200
    clear hn200
    go_wp2_with fail
    go_ret
    exact .inr (.inl ⟨HCD.out, HN.out, rfl, Fr.of_below E.out.1, E.out.2.2.1⟩)
   have hk : ((nb : Int) == 200) = false := by simp; omega
   obtain ⟨q2, hq2, hq2n⟩ := next_pc H.out.1 hfp H.out.2.2.2.1 HCD.out
   obtain ⟨nw, HNW⟩ : ∃ q, Hid (wayOf (nextAt v L fp fw) = q) := ⟨_, rfl⟩
   have HQ2 : Hid ((nextAt v L fp fw).pc = (q2 : Int) ∧ wayOf (nextAt v L fp fw) = nw) := ⟨hq2, HNW.out⟩
   have E1 : Hid (Below w.heap.size w W2 ∧ Box W2 (w.heap.size) 87 #[.pointer (some ⟨bt, 0, none⟩), .slice la v.m lc] ∧ Box W2 (bq) 90 #[.int .i64 (fp : Int), .int .i64 fa, .int .i64 fw, .int .i64 lg, .slice (some ⟨bg, bo, none⟩) nb bk] ∧ Box W2 (nq) 74 #[.int .i64 (q2 : Int), .int .i64 nw]) := by have h9 := E.out; rw [(HAB.out rfl).1, (HAB.out rfl).2, hq2, HNW.out] at h9; exact h9
   clear E hq2
   go_upto_region 5 with fail
   clear m4
   have x0 := E1.out.2.1.cel 0
   have x1 := E1.out.2.1.cel 1
   have u0 := E1.out.2.2.2.cel 0
   have u1 := E1.out.2.2.2.cel 1
   go_wp2_with fail
   refine wp_region_held_drew (S := (fun wx : World => wx.cell? ⟨w.heap.size, 0, none⟩ = some (.pointer (some ⟨bt, 0, none⟩)) ∧ wx.cell? ⟨w.heap.size, 1, none⟩ = some (.slice la v.m lc) ∧ wx.cell? ⟨nq, 0, none⟩ = some (.int .i64 (q2 : Int)) ∧ wx.cell? ⟨nq, 1, none⟩ = some (.int .i64 nw))) (by kernel_rfl) ?_ (fun hHeld => ?_)
   ·
    exact ⟨x0, x1, u0, u1⟩
   have MD108 : Hid (Below w.heap.size w W2.drew ∧ Box W2.drew (w.heap.size) 87 #[.pointer (some ⟨bt, 0, none⟩), .slice la v.m lc] ∧ Box W2.drew (bq) 90 #[.int .i64 (fp : Int), .int .i64 fa, .int .i64 fw, .int .i64 lg, .slice (some ⟨bg, bo, none⟩) nb bk] ∧ Box W2.drew (nq) 74 #[.int .i64 (q2 : Int), .int .i64 nw]) := ⟨E1.out.1.drew, E1.out.2.1.drew, E1.out.2.2.1.drew, E1.out.2.2.2.drew⟩
   clear x0 x1 u0 u1 E1
   generalize W2.drew = VD2 at MD108 hHeld ⊢
   refine tk 0 ?_
   refine tk 1 ?_
   refine tk 2 ?_
   refine tk 3 ?_
   refine tk 6 ?_
   refine tk 7 ?_
   refine tk 8 ?_
   have m0 := MD108.out.2.2.1.cel 0
   have m1 := MD108.out.2.2.1.cel 1
   have m2 := MD108.out.2.2.1.cel 2
   have m3 := MD108.out.2.2.1.cel 3
   have m4 := MD108.out.2.2.1.cel 4
   refine rl 4 fun K hK => ?_
   go_simp
   refine hK.out _ _ ?_ (fun hHeld => ?_)
   ·
    exact ⟨MD108.out.2.1.cell 0, MD108.out.2.1.cell 1, MD108.out.2.2.2.cell 0, MD108.out.2.2.2.cell 1⟩
   clear hK K
   clear m0 m1 m2 m3 m4
   refine rl 5 fun K hK => ?_
   go_simp
   refine (steps100 (fp : Int) fa fw lg nb B bg bo bk _ (by omega) (H.out.2.2.2.2.mono MD108.out.1 nr).ns).mono ?_
   rintro e w3 ⟨vq, rfl, ho, hb⟩
   obtain ⟨ya, yc, rfl⟩ := ho.val
   obtain ⟨yg, rfl, _, _⟩ := ho.addr (by omega)
   have M3 : Hid (Below w.heap.size w w3 ∧ Box w3 (w.heap.size) 87 #[.pointer (some ⟨bt, 0, none⟩), .slice la v.m lc] ∧ Box w3 (bq) 90 #[.int .i64 (fp : Int), .int .i64 fa, .int .i64 fw, .int .i64 lg, .slice (some ⟨bg, bo, none⟩) nb bk] ∧ Box w3 (nq) 74 #[.int .i64 (q2 : Int), .int .i64 nw] ∧ VOwn w.heap.size 74 2 w3 (.slice (some ⟨yg, 0, none⟩) (nb + 1) yc) (nb + 1) (intF (stF (fp : Int) fw B))) := ⟨MD108.out.1.trans (hb.mono MD108.out.1.size), MD108.out.2.1.mono hb nr, MD108.out.2.2.1.mono hb nr, MD108.out.2.2.2.mono hb nr, ho.keep MD108.out.1.size (fun _ _ => rfl)⟩
   clear hb ho MD108
   go_wp2_with fail
   refine hK.out _ _ ?_ (fun hHeld => ?_)
   ·
    exact ⟨M3.out.2.1.cell 0, M3.out.2.1.cell 1, M3.out.2.2.2.1.cell 0, M3.out.2.2.2.1.cell 1⟩
   clear hK K
   refine rl 9 fun K hK => ?_
   go_simp
   refine (spot76 H.out.1 q2 nw 0 _ (H.out.2.1.mono M3.out.1 nr) hq2n ⟨by omega, by omega⟩).mono ?_
   rintro e w4 ⟨rfl, hb⟩
   have M4 : Hid (Below w.heap.size w w4 ∧ Box w4 (w.heap.size) 87 #[.pointer (some ⟨bt, 0, none⟩), .slice la v.m lc] ∧ Box w4 (bq) 90 #[.int .i64 (fp : Int), .int .i64 fa, .int .i64 fw, .int .i64 lg, .slice (some ⟨bg, bo, none⟩) nb bk] ∧ Box w4 (nq) 74 #[.int .i64 (q2 : Int), .int .i64 nw] ∧ VOwn w.heap.size 74 2 w4 (.slice (some ⟨yg, 0, none⟩) (nb + 1) yc) (nb + 1) (intF (stF (fp : Int) fw B))) := ⟨M3.out.1.trans (hb.mono M3.out.1.size), M3.out.2.1.mono hb nr, M3.out.2.2.1.mono hb nr, M3.out.2.2.2.1.mono hb nr, M3.out.2.2.2.2.mono nr hb nr⟩
   clear hb M3
   go_wp2_with fail
   refine hK.out _ _ ?_ (fun hHeld => ?_)
   ·
    exact ⟨M4.out.2.1.cell 0, M4.out.2.1.cell 1, M4.out.2.2.2.1.cell 0, M4.out.2.2.2.1.cell 1⟩
   clear hK K
   have m0 := M4.out.2.2.1.cel 0
   have m1 := M4.out.2.2.1.cel 1
   have m2 := M4.out.2.2.1.cel 2
   have m3 := M4.out.2.2.1.cel 3
   have m4 := M4.out.2.2.1.cel 4
   have mf0 := M4.out.2.2.1.free 0
   have mf1 := M4.out.2.2.1.free 1
   have mf2 := M4.out.2.2.1.free 2
   have mf3 := M4.out.2.2.1.free 3
   have mf4 := M4.out.2.2.1.free 4
   have HFR : Hid (Fr (fun x => x = bq) w (w4.setCell ⟨bq, 4, none⟩ (.slice (some ⟨yg, 0, none⟩) (nb + 1) yc)) ∧ Box (w4.setCell ⟨bq, 4, none⟩ (.slice (some ⟨yg, 0, none⟩) (nb + 1) yc)) (w.heap.size) 87 #[.pointer (some ⟨bt, 0, none⟩), .slice la v.m lc] ∧ Box (w4.setCell ⟨bq, 4, none⟩ (.slice (some ⟨yg, 0, none⟩) (nb + 1) yc)) nq 74 #[.int .i64 (q2 : Int), .int .i64 nw]) := ⟨(Fr.of_below M4.out.1).put 4 _, M4.out.2.1.other (box_ne M4.out.2.1 M4.out.2.2.1 (by decide)) _, M4.out.2.2.2.1.other (box_ne M4.out.2.2.2.1 M4.out.2.2.1 (by decide)) _⟩
   refine tk 10 ?_
   refine tk 11 ?_
   refine rl 12 fun K hK => ?_
   go_simp
   refine hK.out _ _ ?_ (fun hHeld => ?_)
   ·
    exact ⟨HFR.out.2.1.cell 0, HFR.out.2.1.cell 1, HFR.out.2.2.cell 0, HFR.out.2.2.cell 1⟩
   clear hK K
   have HQH : Hid (bq ≠ w.heap.size) := (box_ne M4.out.2.1 M4.out.2.2.1 (by decide)).symm
   have HQN : Hid (bq ≠ nq) := (box_ne M4.out.2.2.2.1 M4.out.2.2.1 (by decide)).symm
   have HEND : Hid (Fr (fun x => x = bq) w ((((w4.setCell ⟨bq, 4, none⟩ (.slice (some ⟨yg, 0, none⟩) (nb + 1) yc)).setCell ⟨bq, 0, none⟩ (.int .i64 (q2 : Int))).setCell ⟨bq, 1, none⟩ (.int .i64 (farI (v.P q2).ln 0 nw))).setCell ⟨bq, 2, none⟩ (.int .i64 nw)) ∧ Box ((((w4.setCell ⟨bq, 4, none⟩ (.slice (some ⟨yg, 0, none⟩) (nb + 1) yc)).setCell ⟨bq, 0, none⟩ (.int .i64 (q2 : Int))).setCell ⟨bq, 1, none⟩ (.int .i64 (farI (v.P q2).ln 0 nw))).setCell ⟨bq, 2, none⟩ (.int .i64 nw)) bq 90 #[.int .i64 (q2 : Int), .int .i64 (farI (v.P q2).ln 0 nw), .int .i64 nw, .int .i64 lg, .slice (some ⟨yg, 0, none⟩) (nb + 1) yc] ∧ VOwn w.heap.size 74 2 ((((w4.setCell ⟨bq, 4, none⟩ (.slice (some ⟨yg, 0, none⟩) (nb + 1) yc)).setCell ⟨bq, 0, none⟩ (.int .i64 (q2 : Int))).setCell ⟨bq, 1, none⟩ (.int .i64 (farI (v.P q2).ln 0 nw))).setCell ⟨bq, 2, none⟩ (.int .i64 nw)) (.slice (some ⟨yg, 0, none⟩) (nb + 1) yc) (nb + 1) (intF (stF (fp : Int) fw B)) ∧ Box ((((w4.setCell ⟨bq, 4, none⟩ (.slice (some ⟨yg, 0, none⟩) (nb + 1) yc)).setCell ⟨bq, 0, none⟩ (.int .i64 (q2 : Int))).setCell ⟨bq, 1, none⟩ (.int .i64 (farI (v.P q2).ln 0 nw))).setCell ⟨bq, 2, none⟩ (.int .i64 nw)) (w.heap.size) 87 #[.pointer (some ⟨bt, 0, none⟩), .slice la v.m lc] ∧ Box ((((w4.setCell ⟨bq, 4, none⟩ (.slice (some ⟨yg, 0, none⟩) (nb + 1) yc)).setCell ⟨bq, 0, none⟩ (.int .i64 (q2 : Int))).setCell ⟨bq, 1, none⟩ (.int .i64 (farI (v.P q2).ln 0 nw))).setCell ⟨bq, 2, none⟩ (.int .i64 nw)) nq 74 #[.int .i64 (q2 : Int), .int .i64 nw]) := ⟨(((HFR.out.1.put 0 _).put 1 _).put 2 _), by have h9 := ((((M4.out.2.2.1.set 4 (.slice (some ⟨yg, 0, none⟩) (nb + 1) yc)).set 0 (.int .i64 (q2 : Int))).set 1 (.int .i64 (farI (v.P q2).ln 0 nw))).set 2 (.int .i64 nw)); exact h9, ((((M4.out.2.2.2.2.set M4.out.2.2.1 (by decide) 4 _).set (M4.out.2.2.1.set 4 (.slice (some ⟨yg, 0, none⟩) (nb + 1) yc)) (by decide) 0 _).set ((M4.out.2.2.1.set 4 (.slice (some ⟨yg, 0, none⟩) (nb + 1) yc)).set 0 (.int .i64 (q2 : Int))) (by decide) 1 _).set (((M4.out.2.2.1.set 4 (.slice (some ⟨yg, 0, none⟩) (nb + 1) yc)).set 0 (.int .i64 (q2 : Int))).set 1 (.int .i64 (farI (v.P q2).ln 0 nw))) (by decide) 2 _), (((HFR.out.2.1.other (Ne.symm HQH.out) _).other (Ne.symm HQH.out) _).other (Ne.symm HQH.out) _), (((HFR.out.2.2.other (Ne.symm HQN.out) _).other (Ne.symm HQN.out) _).other (Ne.symm HQN.out) _)⟩
   refine tk 13 ?_
   refine tk 14 ?_
   refine rl 15 fun K hK => ?_
   go_simp
   refine hK.out _ _ ?_ (fun hHeld => ?_)
   ·
    exact ⟨HEND.out.2.2.2.1.cell 0, HEND.out.2.2.2.1.cell 1, HEND.out.2.2.2.2.cell 0, HEND.out.2.2.2.2.cell 1⟩
   clear hK K
   refine wpAnyH_done (by kernel_rfl) ?_ _
   clear m0 m1 m2 m3 m4 mf0 mf1 mf2 mf3 mf4 hHeld HFR HQH HQN M4
   generalize ((((w4.setCell ⟨bq, 4, none⟩ (.slice (some ⟨yg, 0, none⟩) (nb + 1) yc)).setCell ⟨bq, 0, none⟩ (.int .i64 (q2 : Int))).setCell ⟨bq, 1, none⟩ (.int .i64 (farI (v.P q2).ln 0 nw))).setCell ⟨bq, 2, none⟩ (.int .i64 nw)) = W9 at HEND ⊢
   go_wp2_with fail
   go_ret
   exact .inr (.inr ⟨HCD.out, hn200, q2, nw, yg, yc, hq2n, HQ2.out, rfl, HEND.out.1, HEND.out.2.1, HEND.out.2.2.1⟩)
  ·
   have hcd' : (cd == 0) = false := by simpa using hcd
   have HC1 : Hid (¬ (exitAt v L fp fw).2 = 0) := fun h => hcd (HCD.out.symm.trans h)
   go_wp2_with fail
   go_ret
   exact .inl ⟨HC1.out, by rw [HCD.out]; rfl, Fr.of_below E.out.1, E.out.2.2.1⟩
end Go.Proofs.YtjhmaofjmalglaaGreat
