import Derived.Test.YtflomaagenjfpaaQb
namespace Go.Proofs.Ytflomaagenjfpaa
open Go.RowKit Go.ChangeShapes Go.WideShapes

theorem bodyPost_void {P : Program} {fn : Func} {R : Ending → World → Prop} {a : Act} {w : World} {x : Exit} (hx : x = .normal ∨ x = .ret) (hres : fn.results = #[]) (hd : a.defers = []) (hR : R (.returned (.tuple #[])) w) : bodyPost P fn R x a w := by
  rcases hx with rfl | rfl <;> exact ⟨hd, _, results_none hres _ _ _, hR⟩
/-- a list of one's own, as a list -/
def QL (w : World) (v : Value) (L : List Int) (og : Option Nat) : Prop := QAt w v L.length (fun j => L.getD j 0) og
theorem QL.src {w : World} {a : Option Addr} {n c : Nat} {L : List Int} {og : Option Nat} (h : QL w (.slice a n c) L og) : SrcAt w a n c (fun j => L.getD j 0) ∧ n = L.length := by
  rcases h with ⟨h1, h2, _⟩ | ⟨g, off, cap, h1, h2, h3, h4, h5, h6⟩
  · simp only [Value.slice.injEq] at h1
    exact ⟨.inl ⟨h1.2.1, h1.1, h1.2.2⟩, by omega⟩
  · simp only [Value.slice.injEq] at h2
    exact ⟨.inr ⟨g, off, h2.1, fun j hj => h6 j (by omega)⟩, h2.2.1⟩
theorem getD_app_left {L M : List Int} {j : Nat} (h : j < L.length) : (L ++ M).getD j 0 = L.getD j 0 := by
  simp [List.getD_eq_getElem?_getD, List.getElem?_append_left h]
theorem getD_app_right {L M : List Int} {j : Nat} : (L ++ M).getD (L.length + j) 0 = M.getD j 0 := by
  simp [List.getD_eq_getElem?_getD, List.getElem?_append_right]
/-- what putting does -/
def PutR (w : World) (q : Nat) (L : List Int) (og : Option Nat) (e : Ending) (w' : World) : Prop :=
  ∃ (v : Value) (og' : Option Nat), e = .returned (.tuple #[]) ∧ Box w' q 52 #[v] ∧ QL w' v L og' ∧ (og' = og ∨ ∃ g, og' = some g ∧ w.heap.size ≤ g) ∧ og' ≠ some q ∧ Fr (fun b => b = q ∨ og = some b) w w'

set_option maxRecDepth 100000 in
set_option maxHeartbeats 4000000 in
theorem put36 (q : Nat) (v : Value) (L M : List Int) (og : Option Nat) (xa : Option Addr) (m xc : Nat) (w : World) (hq : Box w q 52 #[v]) (hQ : QL w v L og) (ho : og ≠ some q) (hM : SrcAt w xa m xc (fun j => M.getD j 0)) (hm : m = M.length) (hlen : L.length + M.length ≤ 1000000) :
    Calls Try.prog 36 #[.pointer (some ⟨q, 0, none⟩), .slice xa m xc] w fun e w' => PutR w q (L ++ M) og e w' := by
  subst hm
  obtain ⟨a, c, rfl⟩ := hQ.val
  have c0 : w.cell? ⟨q, 0, none⟩ = some (.slice a L.length c) := hq.cell 0
  have HB : Hid (Box w q 52 #[.slice a L.length c]) := hq
  have HQ : Hid (QL w (.slice a L.length c) L og) := hQ
  have HM : Hid (SrcAt w xa M.length xc (fun j => M.getD j 0)) := hM
  have HO : Hid (og ≠ some q) := ho
  clear hq hQ hM ho
  go_enter Try.func36, Try.ntmps36
  go_wp2_with (at_builtin; go_must (refine wpList_qapp _ rfl _ _ rfl (.slice a L.length c) L.length (fun j => L.getD j 0) og rfl HQ.out xa M.length xc (fun j => M.getD j 0) rfl HM.out hlen (Halt.mk ?_)))
  intro v2 w2 og2 q2 ho2 hg2
  have hq2 : QL w2 v2 (L ++ M) og2 := by
    have := q2 (fun j => (L ++ M).getD j 0) (fun j hj => getD_app_left hj) (fun j _ => getD_app_right)
    show QAt w2 v2 (L ++ M).length _ og2
    rw [List.length_append]
    exact this
  obtain ⟨a2, k2, rfl⟩ := hq2.val
  have hB2 : Box w2 q 52 #[.slice a L.length c] := HB.out.grown hg2 HO.out
  have d0 : w2.cell? ⟨q, 0, none⟩ = some (.slice a L.length c) := hB2.cell 0
  have d1 := hB2.free 0
  have hne : og2 ≠ some q := by
    rcases ho2 with rfl | ⟨g, rfl, hge⟩
    · exact HO.out
    · intro e
      simp only [Option.some.injEq] at e
      have := HB.out.lt
      omega
  have HR : Hid (PutR w q (L ++ M) og (.returned (.tuple #[])) (w2.setCell ⟨q, 0, none⟩ (.slice a2 (L.length + M.length) k2))) := by
    rw [← List.length_append]
    refine ⟨_, og2, rfl, hB2.set 0 _, hq2.other (p := ⟨q, 0, none⟩) (fun g hg e => hne (by rw [hg]; exact congrArg some e)) _, ho2, hne, ?_⟩
    have hf : Fr (fun b => b = q ∨ og = some b) w w2 := ⟨hg2.os, hg2.tape, hg2.output, hg2.size, fun k hk hx => hg2.block k hk (fun e => hx (.inr e.symm))⟩
    exact hf.cells (.inl rfl) 0 _
  clear q2 ho2 hg2 hq2 hB2 hne c0 HQ HM HB
  go_wp2_with fail
  (try simp only [Exit.inBlock, Exit.then])
  exact bodyPost_void (by first | exact .inl rfl | exact .inr rfl) (by kernel_rfl) rfl HR.out

set_option maxHeartbeats 1000000 in
theorem empty38 (q : Nat) (v : Value) (L : List Int) (og : Option Nat) (w : World) (hq : Box w q 52 #[v]) (hQ : QL w v L og) :
    Calls Try.prog 38 #[.pointer (some ⟨q, 0, none⟩)] w fun e w' => e = .returned (.bool L.isEmpty) ∧ w' = w := by
  obtain ⟨a, c, rfl⟩ := hQ.val
  have c0 : w.cell? ⟨q, 0, none⟩ = some (.slice a L.length c) := hq.cell 0
  clear hq hQ
  cases L with
  | nil =>
    go_enter Try.func38, Try.ntmps38
    go_wp2_with fail
    go_ret
    exact ⟨rfl, rfl⟩
  | cons x L =>
    have hne : (((x :: L).length : Int) == 0) = false := by simp; omega
    generalize (x :: L).length = n at c0 hne
    go_enter Try.func38, Try.ntmps38
    go_wp2_with fail
    go_ret
    exact ⟨by simp, rfl⟩

/-- what taking does -/
def TakeR (w : World) (q : Nat) (x : Int) (L : List Int) (og : Option Nat) (e : Ending) (w' : World) : Prop :=
  ∃ (v : Value), e = .returned (.int .i64 x) ∧ Box w' q 52 #[v] ∧ QL w' v L og ∧ Fr (fun b => b = q) w w'
set_option maxRecDepth 100000 in
set_option maxHeartbeats 4000000 in
theorem take39 (q : Nat) (v : Value) (x : Int) (L : List Int) (og : Option Nat) (w : World) (hq : Box w q 52 #[v]) (hQ : QL w v (x :: L) og) (ho : og ≠ some q) :
    Calls Try.prog 39 #[.pointer (some ⟨q, 0, none⟩)] w fun e w' => TakeR w q x L og e w' := by
  rcases hQ with ⟨_, h1, _⟩ | ⟨g, off, cap, h1, rfl, h3, h4, h5, h6⟩
  · simp at h1
  · have hl : (x :: L).length = L.length + 1 := rfl
    rw [hl] at h4 h6 hq
    have c0 : w.cell? ⟨q, 0, none⟩ = some (.slice (some ⟨g, off, none⟩) (L.length + 1) cap) := hq.cell 0
    have f0 := hq.free 0
    have c1 : w.cell? ⟨g, off, none⟩ = some (.int .i64 x) := by have := h6 0 (by omega); simpa using this
    have hgq : g ≠ q := fun e => ho (by rw [h1, e])
    have hn : (0 : Int) < ((L.length + 1 : Nat) : Int) := by omega
    have h1n : (1 : Int) ≤ ((L.length + 1 : Nat) : Int) := by omega
    have HR : Hid (∀ a : Option Addr, (cap = 1 → a = some ⟨g, off, none⟩) → (cap ≠ 1 → a = some ⟨g, off + 1, none⟩) → TakeR w q x L og (.returned (.int .i64 x)) (w.setCell ⟨q, 0, none⟩ (.slice a L.length (cap - 1)))) := fun a ha1 ha2 => by
      refine ⟨_, rfl, hq.set 0 _, .inr ?_, (Fr.refl (fun b => b = q) w).cells rfl 0 _⟩
      have hk : ∀ o, (w.setCell ⟨q, 0, none⟩ (.slice a L.length (cap - 1))).cell? ⟨g, o, none⟩ = w.cell? ⟨g, o, none⟩ := fun o => cset_ne _ _ _ _ _ _ (.inl (Ne.symm hgq))
      have hf : ∀ o, (w.setCell ⟨q, 0, none⟩ (.slice a L.length (cap - 1))).frozen? ⟨g, o, none⟩ = w.frozen? ⟨g, o, none⟩ := fun o => World.frozen?_setCell _ _ _ _
      by_cases hc : cap = 1
      · have ea := ha1 hc
        subst ea
        refine ⟨g, off, cap - 1, h1, rfl, by rw [size_setc]; exact h3, by omega, fun j hj => ?_, fun j hj => ?_⟩
        · rw [hk, hf]
          exact h5 j (by omega)
        · omega
      · have ea := ha2 hc
        subst ea
        refine ⟨g, off + 1, cap - 1, h1, rfl, by rw [size_setc]; exact h3, by omega, fun j hj => ?_, fun j hj => ?_⟩
        · rw [hk, hf, Nat.add_assoc, Nat.add_comm 1 j]
          exact h5 (j + 1) (by omega)
        · rw [hk, Nat.add_assoc, Nat.add_comm 1 j, h6 (j + 1) (by omega)]
          simp
    clear hq h5 h6 h1 ho
    by_cases hc : cap = 1
    · subst hc
      obtain rfl : L = [] := List.eq_nil_of_length_eq_zero (by omega)
      have HR2 := HR.out _ (fun _ => rfl) (fun h => absurd rfl h)
      have HR3 : Hid (TakeR w q x [] og (.returned (.int .i64 x)) (w.setCell ⟨q, 0, none⟩ (.slice (some ⟨g, off, none⟩) 0 0))) := HR2
      clear HR HR2 h4
      go_enter Try.func39, Try.ntmps39
      go_wp2_with fail
      go_ret
      exact HR3.out
    · have HR2 := HR.out _ (fun h => absurd h hc) (fun _ => rfl)
      have HR3 : Hid (TakeR w q x L og (.returned (.int .i64 x)) (w.setCell ⟨q, 0, none⟩ (.slice (some ⟨g, off + 1, none⟩) L.length (cap - 1)))) := HR2
      have hc' : ¬ (cap = 1) := hc
      clear HR HR2
      go_enter Try.func39, Try.ntmps39
      go_wp2_with fail
      go_ret
      exact HR3.out

end Go.Proofs.Ytflomaagenjfpaa
