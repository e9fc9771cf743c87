import Derived.Test.YtlgapgajgpilgaaGreatDoorRows
import Derived.Test.YtlgapgajgpilgaaGreatDoorZbr
import Derived.Test.YtlgapgajgpilgaaGreatDoorZce
import Derived.Test.YtlgapgajgpilgaaGreatDoorZbi
import Derived.Test.YtlgapgajgpilgaaGreatDoorTie
import Derived.Test.YtlgapgajgpilgaaGreatDoorCards
import Derived.SevenTiedAt
namespace Go.Proofs.YtlgapgajgpilgaaGreatDoor
open Go.ChangeShapes Go.WideShapes Go.ChangeAt Go.RowKit Go.Joins
theorem gl0 : Tryz.prog.globalNamed "loop.example/signalbox/impl.errNone" = some 0 := by kernel_rfl
theorem gt0 : (Tryz.prog.globals[0]?).map (·.type) = some 75 := by kernel_rfl
theorem gl1 : Tryz.prog.globalNamed "loop.example/signalbox/impl.errHeld" = some 1 := by kernel_rfl
theorem gt1 : (Tryz.prog.globals[1]?).map (·.type) = some 75 := by kernel_rfl
theorem gl2 : Tryz.prog.globalNamed "loop.example/signalbox/impl.errBarred" = some 2 := by kernel_rfl
theorem gt2 : (Tryz.prog.globals[2]?).map (·.type) = some 75 := by kernel_rfl
theorem gl3 : Tryz.prog.globalNamed "loop.example/signalbox/impl.errFilled" = some 3 := by kernel_rfl
theorem gt3 : (Tryz.prog.globals[3]?).map (·.type) = some 75 := by kernel_rfl
theorem gl4 : Tryz.prog.globalNamed "loop.example/signalbox/impl.errWanted" = some 4 := by kernel_rfl
theorem gt4 : (Tryz.prog.globals[4]?).map (·.type) = some 75 := by kernel_rfl
theorem gl5 : Tryz.prog.globalNamed "loop.example/signalbox/impl.errUnder" = some 5 := by kernel_rfl
theorem gt5 : (Tryz.prog.globals[5]?).map (·.type) = some 75 := by kernel_rfl
theorem gl6 : Tryz.prog.globalNamed "loop.example/signalbox/impl.errNotSet" = some 6 := by kernel_rfl
theorem gt6 : (Tryz.prog.globals[6]?).map (·.type) = some 75 := by kernel_rfl
theorem cellsE : Tryz.prog.cellsOf 255 = 1 := by kernel_rfl
theorem cellsS : Tryz.prog.cellsOf 9 = 1 := by kernel_rfl
theorem starE : "*" ++ "errors.errorString" = "*errors.errorString" := by decide
theorem rowE (u : TypeId) (h : Tryz.prog.typeName? 3 u = some "*errors.errorString") : u = 228 :=
 typeName_ptr_named (nm := "errors.errorString") (by rw [starE]; kernel_rfl) (by kernel_rfl) (by decide) u (by rw [starE]; exact h)
noncomputable def low : Nat := (World.holding Tryz.prog default ⟨#[], #[], []⟩).heap.size
noncomputable def setG (h : Array Obj) (g k : Nat) : Array Obj := h.modify g fun
 | .cells _ t frozen => .cells #[.iface 228 (.pointer (some ⟨low + k, 0, none⟩))] t frozen
 | o => o
noncomputable def lw6 (os : Os) : World :=
 let w0 := World.holding Tryz.prog os ⟨#[.cells #[.string ⟨#[116, 104, 101, 114, 101, 32, 105, 115, 32, 110, 111, 32, 115, 117, 99, 104, 32, 102, 114, 97, 109, 101, 44, 32, 119, 97, 121, 32, 111, 114, 32, 101, 118, 101, 110, 116]⟩] 255, .cells #[.string ⟨#[97, 32, 119, 97, 121, 32, 119, 97, 110, 116, 115, 32, 116, 104, 101, 32, 115, 119, 105, 116, 99, 104]⟩] 255, .cells #[.string ⟨#[115, 111, 109, 101, 98, 111, 100, 121, 32, 105, 115, 32, 105, 110, 32, 116, 104, 101, 32, 115, 101, 99, 116, 105, 111, 110, 32, 111, 102, 32, 116, 104, 101, 32, 115, 119, 105, 116, 99, 104]⟩] 255], #[], []⟩
 { w0 with heap := setG (setG (setG (w0.heap) 0 0) 4 1) 5 2 }
theorem lwMet6 (os : Os) (args : Array Value) : laidMet Tryz.prog Rows.fnExactBlockedRow.laid ((lw6 os).forCall (fun _ _ => 0) ⟨#[], args, []⟩).memory :=
 laidMet_of_run (ps := [.cell 0 0, .cell (low + 0) 0, .cell 4 0, .cell (low + 1) 0, .cell 5 0, .cell (low + 2) 0]) 8 (by kernel_rfl) (by kernel_rfl) (by kernel_rfl)
set_option maxRecDepth 100000 in
theorem lifted6 (os : Os) (started : os.Started) (H : Type) (enc : TypeId × Value → H) :
  ReturnsInHanded {} Tryz.checked os 6 .any (fun w args => (Rows.fnExactBlockedSpec.pre enc Tryz.prog Tryz.f6 [] false w args ∧ laidMet Tryz.prog Rows.fnExactBlockedRow.laid w) ∧ sizedMet enc Tryz.prog Tryz.f6 (OpenSpec.ofChange Rows.fnExactBlockedSpec) false w args)
   (Rows.fnExactBlockedSpec.post enc Tryz.prog Tryz.f6 false true false false) := by
 refine returnsInHanded_of_change_and (C := Tryz.checked) (X := fun w _ => laidMet Tryz.prog Rows.fnExactBlockedRow.laid w) (fun _ _ _ hh h => h.of_heap hh) own started (by kernel_rfl) Tryz.func6
  (ChangeSpec.witness_at (enc := enc) (C := Tryz.checked) (os := os) (X := fun w _ => laidMet Tryz.prog Rows.fnExactBlockedRow.laid w) false (lw6 os) #[.agg #[.int .i64 0, .slice none 0 0, .slice none 0 0, .slice none 0 0, .int .i64 0], .agg #[.bool false, .slice none 0 0, .slice none 0 0, .slice none 0 0], .int .i64 0] 8 rfl (by kernel_rfl) (by kernel_rfl) (by kernel_rfl) (by kernel_rfl) (by kernel_rfl) (lwMet6 os _)) ?_
 intro W base args ds gs before hval0 hW _ _ hL _
 have hval : ∀ (j : Nat) t v, Tryz.f6.params[j]? = some t → args[j]? = some v → Value.okWide Tryz.prog W .any base t v := hval0
 have hW' := hW
 obtain ⟨p, q, hA0, hV0, rfl, hfz, hnd⟩ := hW
 have hA : DataW.TrodAll enc Tryz.prog W 0 (fun _ => true) true Tryz.f6.params.toList args.toList ds p := hA0
 have hV : DataW.TrodVars enc Tryz.prog W (fun _ => true) ["loop.example/signalbox/impl.errNone", "loop.example/signalbox/impl.errWanted", "loop.example/signalbox/impl.errUnder"] gs q := hV0
 rw [Tryz.params6] at hA hval
 obtain ⟨v0, vs0, d0, ds0, p0, q0, ha0, rfl, rfl, h0, r0⟩ := trodAll_cons hA
 obtain ⟨v1, vs1, d1, ds1, p1, q1, rfl, rfl, rfl, h1, r1⟩ := trodAll_cons r0
 obtain ⟨v2, vs2, d2, ds2, p2, q2, rfl, rfl, rfl, h2, r2⟩ := trodAll_cons r1
 obtain ⟨rfl, rfl, rfl⟩ := trodAll_nil r2
 obtain rfl : args = #[v0, v1, v2] := by cases args; simp_all
 obtain ⟨ps, hps, hpn, hpr⟩ := hL
 obtain ⟨A, hAll, hInj⟩ := laid_all (P := Tryz.prog) (W := W) Tryz.underlying75 rowE Tryz.underlying228 Tryz.underlying255 rfl rfl Tryz.underlying9 cellsE cellsS [("loop.example/signalbox/impl.errNone", [116, 104, 101, 114, 101, 32, 105, 115, 32, 110, 111, 32, 115, 117, 99, 104, 32, 102, 114, 97, 109, 101, 44, 32, 119, 97, 121, 32, 111, 114, 32, 101, 118, 101, 110, 116]), ("loop.example/signalbox/impl.errWanted", [97, 32, 119, 97, 121, 32, 119, 97, 110, 116, 115, 32, 116, 104, 101, 32, 115, 119, 105, 116, 99, 104]), ("loop.example/signalbox/impl.errUnder", [115, 111, 109, 101, 98, 111, 100, 121, 32, 105, 115, 32, 105, 110, 32, 116, 104, 101, 32, 115, 101, 99, 116, 105, 111, 110, 32, 111, 102, 32, 116, 104, 101, 32, 115, 119, 105, 116, 99, 104])] ps hps hpn hpr (fun x hx => by
  simp only [List.mem_cons, List.not_mem_nil, or_false] at hx
  rcases hx with rfl | rfl | rfl
  ·
   exact ⟨0, gl0, gt0⟩
  ·
   exact ⟨4, gl4, gt4⟩
  ·
   exact ⟨5, gl5, gt5⟩)
 obtain ⟨hv0, _, hb0⟩ := hAll 0 _ rfl
 obtain ⟨hv1, _, hb1⟩ := hAll 1 _ rfl
 obtain ⟨hv2, _, hb2⟩ := hAll 2 _ rfl
 have hR : ∀ (sp : Nat → Bool) W', (∀ i x, ([("loop.example/signalbox/impl.errNone", [116, 104, 101, 114, 101, 32, 105, 115, 32, 110, 111, 32, 115, 117, 99, 104, 32, 102, 114, 97, 109, 101, 44, 32, 119, 97, 121, 32, 111, 114, 32, 101, 118, 101, 110, 116]), ("loop.example/signalbox/impl.errWanted", [97, 32, 119, 97, 121, 32, 119, 97, 110, 116, 115, 32, 116, 104, 101, 32, 115, 119, 105, 116, 99, 104]), ("loop.example/signalbox/impl.errUnder", [115, 111, 109, 101, 98, 111, 100, 121, 32, 105, 115, 32, 105, 110, 32, 116, 104, 101, 32, 115, 101, 99, 116, 105, 111, 110, 32, 111, 102, 32, 116, 104, 101, 32, 115, 119, 105, 116, 99, 104])] : List (String × List UInt8))[i]? = some x → W'.var? Tryz.prog x.1 = some #[.iface 228 (.pointer (some (A i)))]) → DataW.TrodVars enc Tryz.prog W' sp ["loop.example/signalbox/impl.errNone", "loop.example/signalbox/impl.errWanted", "loop.example/signalbox/impl.errUnder"] _ _ := fun sp W' hq =>
  vars_readN enc Tryz.underlying75 sp [("loop.example/signalbox/impl.errNone", 0, .iface 228 (.pointer (some (A 0)))), ("loop.example/signalbox/impl.errWanted", 4, .iface 228 (.pointer (some (A 1)))), ("loop.example/signalbox/impl.errUnder", 5, .iface 228 (.pointer (some (A 2))))] (fun x hx => by
   simp only [List.mem_cons, List.not_mem_nil, or_false] at hx
   rcases hx with rfl | rfl | rfl
   ·
    exact ⟨gl0, gt0, hq 0 _ rfl, trivial⟩
   ·
    exact ⟨gl4, gt4, hq 1 _ rfl, trivial⟩
   ·
    exact ⟨gl5, gt5, hq 2 _ rfl, trivial⟩)
 obtain ⟨rfl, rfl⟩ := hV.unique (hR (fun _ => true) W fun i x hx => (hAll i x hx).1)
 have hc0 : W.cell? ⟨0, 0, none⟩ = some (.iface 228 (.pointer (some (A 0)))) := by simpa using World.var?_cell gl0 hv0 0
 have hc1 : W.cell? ⟨4, 0, none⟩ = some (.iface 228 (.pointer (some (A 1)))) := by simpa using World.var?_cell gl4 hv1 0
 have hc2 : W.cell? ⟨5, 0, none⟩ = some (.iface 228 (.pointer (some (A 2)))) := by simpa using World.var?_cell gl5 hv2 0
 have hl0 : 0 < W.heap.size := World.block_lt_of_cell? W _ hc0
 have hl1 : 4 < W.heap.size := World.block_lt_of_cell? W _ hc1
 have hl2 : 5 < W.heap.size := World.block_lt_of_cell? W _ hc2
 have k0 := h0
 have k1 := h1
 have k2 := h2
 have lt0 : ∀ x ∈ p0, x.block < W.heap.size := by obtain ⟨m, hm⟩ := k0; exact DataW.trod_lt m _ _ _ hm
 have lt1 : ∀ x ∈ p1, x.block < W.heap.size := by obtain ⟨m, hm⟩ := k1; exact DataW.trod_lt m _ _ _ hm
 have lt2 : ∀ x ∈ p2, x.block < W.heap.size := by obtain ⟨m, hm⟩ := k2; exact DataW.trod_lt m _ _ _ hm
 obtain ⟨pl, wa, ya, ba, wc, yc, bc, rfl, hf, hP⟩ := open_planV (hval 0 26 v0 rfl rfl) h0
 obtain ⟨fr, oa, pa, ha, oc, pc, hc, rfl, hff, hF⟩ := open_frameV (hval 1 31 v1 rfl rfl) h1
 obtain ⟨kk, rfl⟩ := okWide_int Tryz.underlying3 (hval 2 3 v2 rfl rfl)
 clear hA0 hV0 hval0
 refine (law6 pl fr wa ya ba wc yc bc oa pa ha oc pc hc 228 228 228 (.pointer (some (A 0))) (.pointer (some (A 1))) (.pointer (some (A 2))) kk W hf hff hP hF hc0 hc1 hc2 hl2).mono fun e W' ⟨he, bel⟩ => ?_
 subst he
 have hvs : ∀ i x, ([("loop.example/signalbox/impl.errNone", [116, 104, 101, 114, 101, 32, 105, 115, 32, 110, 111, 32, 115, 117, 99, 104, 32, 102, 114, 97, 109, 101, 44, 32, 119, 97, 121, 32, 111, 114, 32, 101, 118, 101, 110, 116]), ("loop.example/signalbox/impl.errWanted", [97, 32, 119, 97, 121, 32, 119, 97, 110, 116, 115, 32, 116, 104, 101, 32, 115, 119, 105, 116, 99, 104]), ("loop.example/signalbox/impl.errUnder", [115, 111, 109, 101, 98, 111, 100, 121, 32, 105, 115, 32, 105, 110, 32, 116, 104, 101, 32, 115, 101, 99, 116, 105, 111, 110, 32, 111, 102, 32, 116, 104, 101, 32, 115, 119, 105, 116, 99, 104])] : List (String × List UInt8))[i]? = some x → W'.var? Tryz.prog x.1 = some #[.iface 228 (.pointer (some (A i)))] := fun i x hx => by
  match i, hx with
  | 0, hx => obtain rfl := Option.some.inj hx; exact var?_below bel gl0 hl0 hv0
  | 1, hx => obtain rfl := Option.some.inj hx; exact var?_below bel gl4 hl1 hv1
  | 2, hx => obtain rfl := Option.some.inj hx; exact var?_below bel gl5 hl2 hv2
  | i + 3, hx => exact absurd hx (by simp)
 exact ⟨_, rfl, _, _, _, [], _, _, hW', trodAll_mk1 (shut_bool Tryz.underlying4 _), (trodAll_cons_mk (Below.trod laidOut (by kernel_rfl) (of_decide_eq_true (by kernel_rfl)) k0 bel lt0) (trodAll_cons_mk (Below.trod laidOut (by kernel_rfl) (of_decide_eq_true (by kernel_rfl)) k1 bel lt1) (trodAll_cons_mk (Below.trod laidOut (by kernel_rfl) (of_decide_eq_true (by kernel_rfl)) k2 bel lt2) trodAll_mk0))), hR _ W' hvs, bel.frame _, fun h => by cases h⟩
theorem over6 : Rows.FnExactBlockedSaid :=
 OpenClaim.holds_of_wide 6 Tryz.f6 rfl rfl rfl rfl rfl rfl rfl ⟨rfl, rfl, rfl, rfl, rfl⟩ rfl rfl rfl rfl rfl (by kernel_rfl) Tryz.func6 (by kernel_rfl)
  (of_decide_eq_true (by kernel_rfl)) (by unfold Func.isWrapper; first | (rw [if_pos (by decide +kernel)]; kernel_rfl) | (rw [if_neg (by decide +kernel)]; exact ⟨rfl, rfl⟩))
  (fun os started H enc _ => lifted6 os started H enc)
end Go.Proofs.YtlgapgajgpilgaaGreatDoor
namespace Go.Proofs.YtlgapgajgpilgaaGreatDoor
open Go
theorem fnExactBlocked_proved : Rows.FnExactBlockedCardSaid :=
 Claim7.holds_tied_plain_at .later [] [.sentinel, .sentinel, .sentinel] true (true, "49ad68e3c21d2cc9c14b23374be36f52d389f06f31791c143d346871e3181f20") true
  over6 (fun _ h => by cases h) (by kernel_rfl) (fun _ h => by cases h) fnExactBlocked_row_tie rfl ⟨rfl, rfl⟩ (by kernel_rfl) rfl
  (fun f fn hf hfn => by
   obtain rfl : f = 6 := Option.some.inj ((show Tryz.prog.funcNamed "loop.example/signalbox/laws.FnExactBlocked" = some 6 by kernel_rfl).symm.trans hf) |>.symm
   obtain rfl : fn = Tryz.f6 := (Option.some.inj (Tryz.func6.symm.trans hfn)).symm
   exact ⟨by kernel_rfl, fun j t ht => by
    rw [Tryz.params6] at ht
    have hm : t ∈ [26, 31, 3] := by simpa using Array.mem_of_getElem? ht
    have hall : ([26, 31, 3].all fun u => !Tryz.prog.wantsStandIn u) = true := by kernel_rfl
    exact (show Tryz.prog.wantsStandIn t = false by simpa using List.all_eq_true.1 hall t hm)⟩)
  (by kernel_rfl)
#print axioms fnExactBlocked_proved
end Go.Proofs.YtlgapgajgpilgaaGreatDoor
