import Derived.Test.YtpghgdnhfhdgmaaTb
import Derived.Test.YtpghgdnhfhdgmaaCt
namespace Go.Proofs.Ytpghgdnhfhdgmaa
open Go.RowKit

/-- how many rows a table has -/
def tn (n : Nat) : Nat := if n ≤ 300 then n else 0

/-- an append of cells, whatever they are, at which the walk halts -/
theorem wpList_appCH {P : Program} (w : World) {ops : Array Oper} {rest : List Oper} {o : Oper} {a : Act} {Q : Exit → Act → World → Prop} (hgd : o.guard = none) (s x : Operand) (t : TypeId)
    (ho : o.op = .call { callee := .builtin .append, args := #[s, x], argTypes := #[t, t] })
    (B : Nat) (e : TypeId) (i : TypeInfo) (z : Value) (c bytes : Nat) (ht : P.underlying t = some (.slice e)) (hi : P.info? e = some i) (hz : i.zero = some z)
    (hsize : i.size = c) (hby : i.bytes = bytes) (hzs : z.cells.size = c) (hsz : 0 < c)
    (v : Value) (n : Nat) (xs : List Value) (hs : a.eval s = v) (hown : w.ownsRow B e c v n xs)
    (ad : Addr) (m cc : Nat) (news : List Value) (hx : a.eval x = .slice (some ad) m cc) (hl : news.length = m * c) (hnews : ∀ j u, news[j]? = some u → w.cell? (ad.add j) = some u) (h1 : ∀ u ∈ news, u.oneCell' = true)
    (h63 : n + m ≤ maxLen) (hbytes : (n + m) * bytes ≤ 140737488355328) (hbase : B ≤ w.heap.size)
    (h : Halt (∀ v' w', w'.ownsRow B e c v' (n + m) (xs ++ news) → w.grownBy w' v.ownBlock → wpList P ops Q rest (a.put o.dst v') w')) : wpList P ops Q (o :: rest) a w :=
  wpList_append_own w hgd s x t ho B e i z c bytes ht hi hz hsize hby hzs hsz v n xs hs hown ad m cc news hx hl hnews h1 h63 hbytes hbase (fun v' w' a1 a2 _ => h v' w' a1 a2)
/-- a fresh block of cells -/
theorem news_atV {w : World} {e : TypeId} (r : List Value) {q : Nat} (hq : w.heap.size = q) : ∀ j u, r[j]? = some u → (w.alloc (.cells r.toArray e)).cell? ((⟨q, 0, none⟩ : Addr).add j) = some u := by
  subst hq
  intro j u hj
  have h1 : (w.alloc (.cells r.toArray e)).cell? ⟨w.heap.size, j, none⟩ = some u := by
    rw [World.cell?_alloc_at _ _ _ _ rfl]
    simpa using hj
  by_cases h0 : j = 0
  · subst h0; simpa [Addr.add] using h1
  · simpa [Addr.add, h0] using h1
/-- what the cells of an owned row hold -/
theorem ownsRow_cell {w : World} {B : Nat} {e : TypeId} {c : Nat} {v : Value} {n : Nat} {xs : List Value} (h : w.ownsRow B e c v n xs) (h0 : 0 < n) : ∃ g cap, v = .slice (some ⟨g, 0, none⟩) n cap ∧ B ≤ g ∧ g < w.heap.size ∧ ∀ j u, xs[j]? = some u → w.cell? ⟨g, j, none⟩ = some u := by
  obtain ⟨hx, ⟨_, h2⟩ | ⟨g, cap, cur, h1, h2, h3, h4, h5, h6, h7⟩⟩ := h
  · omega
  · refine ⟨g, cap, h1, h2, (Array.getElem?_eq_some_iff.1 h3).1, fun j u hj => ?_⟩
    have hl : j < n * c := by rw [← hx]; exact (List.getElem?_eq_some_iff.1 hj).1
    rw [← h7, List.getElem?_take_of_lt hl] at hj
    simp only [World.cell?, h3]
    simpa using hj
theorem ownsRow_val {w : World} {B : Nat} {e : TypeId} {c : Nat} {v : Value} {n : Nat} {xs : List Value} (h : w.ownsRow B e c v n xs) : ∃ a cap, v = .slice a n cap := by
  obtain ⟨_, ⟨h1, h2⟩ | ⟨g, cap, cur, h1, _⟩⟩ := h
  · exact ⟨none, 0, by rw [h1, h2]⟩
  · exact ⟨_, cap, h1⟩
theorem ownsRow_lt {w : World} {B : Nat} {e : TypeId} {c : Nat} {v : Value} {n : Nat} {xs : List Value} (h : w.ownsRow B e c v n xs) {g : Nat} (hg : v.ownBlock = some g) : B ≤ g ∧ g < w.heap.size ∧ ∃ cur, w.heap[g]? = some (.cells cur e (0, 0)) := by
  obtain ⟨_, ⟨rfl, _⟩ | ⟨g', cap, cur, rfl, r2, r3, _⟩⟩ := h
  · simp [Value.ownBlock] at hg
  · simp only [Value.ownBlock, Option.some.injEq] at hg
    subst hg
    exact ⟨r2, (Array.getElem?_eq_some_iff.1 r3).1, cur, r3⟩
theorem ownsRow_keep {w w' : World} {B : Nat} {e : TypeId} {c : Nat} {v : Value} {n : Nat} {xs : List Value} (h : w.ownsRow B e c v n xs) (hk : ∀ g, v.ownBlock = some g → w'.heap[g]? = w.heap[g]?) : w'.ownsRow B e c v n xs := by
  obtain ⟨q1, q2⟩ := h
  refine ⟨q1, ?_⟩
  rcases q2 with q2 | ⟨g, cap, cur, rfl, r2, r3, r4⟩
  · exact .inl q2
  · exact .inr ⟨g, cap, cur, rfl, r2, by rw [hk g rfl]; exact r3, r4⟩
/-- a row of another kind does not turn by an append -/
theorem Own.grownOther {B B' : Nat} {e e' : TypeId} {c c' : Nat} {w w' : World} {v s : Value} {l : List Rw} {k : Nat} {xs : List Value} (h : Own B e c w v l) (hs : w.ownsRow B' e' c' s k xs) (hne : e ≠ e') (hg : w.grownBy w' s.ownBlock) : Own B e c w' v l := by
  refine h.keep (Nat.le_refl _) fun g hv => hg.block g (h.lt hv).2 fun e9 => ?_
  obtain ⟨_, _, cur, h3⟩ := ownsRow_lt hs e9.symm
  rcases h.shape with ⟨rfl, _⟩ | ⟨g', cap, cur', rfl, _, h5, _⟩
  · simp [Value.ownBlock] at hv
  · simp only [Value.ownBlock, Option.some.injEq] at hv
    subst hv
    rw [h3] at h5
    simp only [Option.some.injEq, Obj.cells.injEq] at h5
    exact hne h5.2.1.symm
theorem Own.nsG {B : Nat} {e : TypeId} {c : Nat} {w : World} {a : Option Addr} {n cap : Nat} {F : Nat → Nat → Int} (h : Own B e c w (.slice a n cap) (lsF c n F)) : NsAt c 0 w a n F := by
  obtain ⟨a9, cp, h1, h2⟩ := h.ls.val
  rw [lsF_len] at h1 h2
  simp only [Value.slice.injEq] at h1
  obtain ⟨rfl, _, _⟩ := h1
  intro h0
  obtain ⟨b', off, h3, h4, h5, h6⟩ := h2 h0
  exact ⟨b', off, h3, Nat.zero_le _, h5, fun i hi j hj => by rw [h6 i hi j hj, lsF_fn hi hj]⟩

/-- a claim in memory, with the kinds of its rows -/
structure ClT (w : World) (r : Rt) (c : Cm) : Prop where
  q : ∃ B cp, Own B 103 3 w (.slice c.qa r.np cp) (lsF 3 r.np r.Q)
  o : ∃ B cp, Own B 103 3 w (.slice c.oa r.no cp) (lsF 3 r.no r.O)
  x : ∃ B, Own B 112 1 w (.slice c.xa r.nx c.xc) (lsF 1 r.nx r.X)
  n : ∃ B, Own B 62 2 w (.slice c.na (ndR r).length c.nc) (ndR r)
theorem ClT.at {w : World} {r : Rt} {c : Cm} (h : ClT w r c) : ClAt w r c := by
  obtain ⟨⟨_, _, h1⟩, ⟨_, _, h2⟩, ⟨_, h3⟩, ⟨_, h4⟩⟩ := h
  exact ⟨h1.nsG, h2.nsG, h3.nsG, h4.nsL⟩
theorem ClT.mono {w w' : World} {r : Rt} {c : Cm} {N : Nat} (h : ClT w r c) (hb : Below N w w') (hN : w.heap.size ≤ N) : ClT w' r c := by
  obtain ⟨⟨_, _, h1⟩, ⟨_, _, h2⟩, ⟨_, h3⟩, ⟨_, h4⟩⟩ := h
  exact ⟨⟨_, _, h1.mono (Nat.le_refl _) hb hN⟩, ⟨_, _, h2.mono (Nat.le_refl _) hb hN⟩, ⟨_, h3.mono (Nat.le_refl _) hb hN⟩, ⟨_, h4.mono (Nat.le_refl _) hb hN⟩⟩
theorem ClT.grown {w w' : World} {r : Rt} {c : Cm} {B : Nat} {s : Value} {k : Nat} {xs : List Value} (h : ClT w r c) (hs : w.ownsRow B 90 12 s k xs) (hg : w.grownBy w' s.ownBlock) : ClT w' r c := by
  obtain ⟨⟨_, _, h1⟩, ⟨_, _, h2⟩, ⟨_, h3⟩, ⟨_, h4⟩⟩ := h
  exact ⟨⟨_, _, h1.grownOther hs (by decide) hg⟩, ⟨_, _, h2.grownOther hs (by decide) hg⟩, ⟨_, h3.grownOther hs (by decide) hg⟩, ⟨_, h4.grownOther hs (by decide) hg⟩⟩
theorem infoClaim : (Try.prog.info? 90).map (fun i => (i.zero, i.size, i.bytes)) = some (some (.agg #[.slice none 0 0, .int .u64 0, .int .u64 0, .slice none 0 0, .int .u64 0, .int .u64 0, .slice none 0 0, .int .u64 0, .int .u64 0, .slice none 0 0, .int .u64 0, .int .u64 0]), 12, 160) := by kernel_rfl

/-- the claims that are made -/
def CsTo (w : World) (xs : List Value) (k : Nat) (R : Nat → Rt) (c : Nat → Cm) : Prop := xs.length = k * 12 ∧ ∀ i, i < k → (xs[i * 12]? = some (.slice (c i).qa (R i).np (c i).qc) ∧ xs[i * 12 + 1]? = some (.int .u64 ((c i).p1 : Int)) ∧ xs[i * 12 + 2]? = some (.int .u64 ((c i).p2 : Int)) ∧ xs[i * 12 + 3]? = some (.slice (c i).oa (R i).no (c i).oc) ∧ xs[i * 12 + 4]? = some (.int .u64 ((c i).o1 : Int)) ∧ xs[i * 12 + 5]? = some (.int .u64 ((c i).o2 : Int)) ∧ xs[i * 12 + 6]? = some (.slice (c i).xa (R i).nx (c i).xc) ∧ xs[i * 12 + 7]? = some (.int .u64 ((c i).x1 : Int)) ∧ xs[i * 12 + 8]? = some (.int .u64 ((c i).x2 : Int)) ∧ xs[i * 12 + 9]? = some (.slice (c i).na (ndR (R i)).length (c i).nc) ∧ xs[i * 12 + 10]? = some (.int .u64 ((c i).n1 : Int)) ∧ xs[i * 12 + 11]? = some (.int .u64 ((c i).n2 : Int))) ∧ ClT w (R i) (c i) ∧ ClOk (R i) (c i)
theorem CsTo.step {w w' : World} {xs : List Value} {k : Nat} {R : Nat → Rt} {c : Nat → Cm} {d : Cm} (h : CsTo w xs k R c) (hw : ∀ i, i < k → ClT w (R i) (c i) → ClT w' (R i) (c i)) (hd : ClT w' (R k) d) (hk : ClOk (R k) d) :
    CsTo w' (xs ++ [.slice d.qa (R k).np d.qc, .int .u64 (d.p1 : Int), .int .u64 (d.p2 : Int), .slice d.oa (R k).no d.oc, .int .u64 (d.o1 : Int), .int .u64 (d.o2 : Int), .slice d.xa (R k).nx d.xc, .int .u64 (d.x1 : Int), .int .u64 (d.x2 : Int), .slice d.na (ndR (R k)).length d.nc, .int .u64 (d.n1 : Int), .int .u64 (d.n2 : Int)]) (k + 1) R (fun i => if i < k then c i else d) := by
  obtain ⟨h1, h2⟩ := h
  refine ⟨by rw [List.length_append, h1]; simp; omega, fun i hi => ?_⟩
  by_cases e : i = k
  · have e' := e.symm
    subst e'
    simp only [Nat.lt_irrefl, if_false]
    have e0 : ∀ j, (xs ++ [.slice d.qa (R k).np d.qc, .int .u64 (d.p1 : Int), .int .u64 (d.p2 : Int), .slice d.oa (R k).no d.oc, .int .u64 (d.o1 : Int), .int .u64 (d.o2 : Int), .slice d.xa (R k).nx d.xc, .int .u64 (d.x1 : Int), .int .u64 (d.x2 : Int), .slice d.na (ndR (R k)).length d.nc, .int .u64 (d.n1 : Int), .int .u64 (d.n2 : Int)])[k * 12 + j]? = [.slice d.qa (R k).np d.qc, .int .u64 (d.p1 : Int), .int .u64 (d.p2 : Int), .slice d.oa (R k).no d.oc, .int .u64 (d.o1 : Int), .int .u64 (d.o2 : Int), .slice d.xa (R k).nx d.xc, .int .u64 (d.x1 : Int), .int .u64 (d.x2 : Int), .slice d.na (ndR (R k)).length d.nc, .int .u64 (d.n1 : Int), .int .u64 (d.n2 : Int)][j]? := fun j => by
      rw [List.getElem?_append_right (by omega), h1, Nat.add_sub_cancel_left]
    exact ⟨⟨by have := e0 0; simpa using this, by have := e0 1; simpa using this, by have := e0 2; simpa using this, by have := e0 3; simpa using this, by have := e0 4; simpa using this, by have := e0 5; simpa using this, by have := e0 6; simpa using this, by have := e0 7; simpa using this, by have := e0 8; simpa using this, by have := e0 9; simpa using this, by have := e0 10; simpa using this, by have := e0 11; simpa using this⟩, hd, hk⟩
  · have hik : i < k := by omega
    simp only [hik, if_true]
    obtain ⟨⟨k0, k1, k2, k3, k4, k5, k6, k7, k8, k9, k10, k11⟩, h4, h5⟩ := h2 i hik
    have e0 : ∀ j, j < 12 → (xs ++ [.slice d.qa (R k).np d.qc, .int .u64 (d.p1 : Int), .int .u64 (d.p2 : Int), .slice d.oa (R k).no d.oc, .int .u64 (d.o1 : Int), .int .u64 (d.o2 : Int), .slice d.xa (R k).nx d.xc, .int .u64 (d.x1 : Int), .int .u64 (d.x2 : Int), .slice d.na (ndR (R k)).length d.nc, .int .u64 (d.n1 : Int), .int .u64 (d.n2 : Int)])[i * 12 + j]? = xs[i * 12 + j]? := fun j hj => List.getElem?_append_left (by omega)
    exact ⟨⟨(e0 0 (by omega)).trans k0, (e0 1 (by omega)).trans k1, (e0 2 (by omega)).trans k2, (e0 3 (by omega)).trans k3, (e0 4 (by omega)).trans k4, (e0 5 (by omega)).trans k5, (e0 6 (by omega)).trans k6, (e0 7 (by omega)).trans k7, (e0 8 (by omega)).trans k8, (e0 9 (by omega)).trans k9, (e0 10 (by omega)).trans k10, (e0 11 (by omega)).trans k11⟩, hw i hik h4, h5⟩
theorem CsTo.at {w : World} {B : Nat} {a : Option Addr} {cap n : Nat} {xs : List Value} {R : Nat → Rt} {c : Nat → Cm} (h : CsTo w xs n R c) (ho : w.ownsRow B 90 12 (.slice a n cap) n xs) : CsAt w a n R c := by
  intro h0
  obtain ⟨g, cp, hv, _, hl, hc⟩ := ownsRow_cell ho h0
  simp only [Value.slice.injEq] at hv
  obtain ⟨rfl, _, _⟩ := hv
  refine ⟨g, 0, rfl, hl, fun i hi => ?_⟩
  obtain ⟨⟨k0, k1, k2, k3, k4, k5, k6, k7, k8, k9, k10, k11⟩, h4, _⟩ := h.2 i hi
  simp only [Nat.zero_add]
  exact ⟨⟨hc _ _ k0, hc _ _ k1, hc _ _ k2, hc _ _ k3, hc _ _ k4, hc _ _ k5, hc _ _ k6, hc _ _ k7, hc _ _ k8, hc _ _ k9, hc _ _ k10, hc _ _ k11⟩, h4.at⟩

set_option maxRecDepth 100000 in
set_option maxHeartbeats 16000000 in
theorem table20 (b n : Nat) (R : Nat → Rt) (lo : Nat → Nat) (w : World) (hn : n ≤ 1048576) (hs : ∀ i, i < n → (R i).small ∧ (R i).nl + (R i).nf ≤ 1048576) (h : RsOwn w b n n R lo) :
    Calls Try.prog 20 #[.slice (some ⟨b, 0, none⟩) n n] w fun e w' => ∃ a' cap' r, e = .returned (.slice a' (tn n) cap') ∧ SsOwn w.heap.size w' a' (tn n) (tn n) (fun i k => exF (R i) (R k)) r ∧ Below w.heap.size w w' := by
  have HS : Hid (∀ i, i < n → (R i).small ∧ (R i).nl + (R i).nf ≤ 1048576) := hs
  have H : Hid (RsOwn w b n n R lo) := h
  obtain ⟨i1, e1, e2, e3, e4⟩ := info_parts infoClaim
  clear hs h
  by_cases h3 : n ≤ 300
  · have HN : Hid (tn n = n) := by show _ = _; simp [tn, h3]
    go_enter Try.func20, Try.ntmps20
    go_wp2_with fail
    go_loopw [3, 11] (fun s i wr => ∃ (k : Nat) (a : Option Addr) (cp : Nat) (xs : List Value) (c : Nat → Cm), k ≤ n ∧ i = .int .i64 k ∧ s = .slice a k cp ∧ Hid (wr.ownsRow w.heap.size 90 12 (.slice a k cp) k xs) ∧ Hid (CsTo wr xs k R c) ∧ Below w.heap.size w wr) (fun _ i _ => n - (intOf i).toNat)
    case atStart => exact ⟨0, none, 0, [], fun _ => ⟨none, 0, 0, 0, none, 0, 0, 0, none, 0, 0, 0, none, 0, 0, 0⟩, Nat.zero_le _, rfl, rfl, World.ownsRow_nil w _ 90 12, ⟨rfl, fun i hi => absurd hi (Nat.not_lt_zero _)⟩, Below.refl _ _⟩
    case round =>
      obtain ⟨k, a, cp, xs, c, hk, rfl, rfl, HOw, HCs, hbel⟩ := hrel
      by_cases hlt : k < n
      · obtain ⟨vs, g1, g2, g3, g4, g5, g6⟩ := H.out.mono hbel (Nat.le_refl _)
        obtain ⟨b1, b2, b3, b4, b5, b6, hr⟩ := g6 k hlt
        have x0 := (g1.cell (k * 8)).trans hr.c0
        have x1 := (g1.cell (k * 8 + 1)).trans hr.c1
        have x2 := (g1.cell (k * 8 + 2)).trans hr.c2
        have x3 := (g1.cell (k * 8 + 3)).trans hr.c3
        have x4 := (g1.cell (k * 8 + 4)).trans hr.c4
        have x5 := (g1.cell (k * 8 + 5)).trans hr.c5
        have x6 := (g1.cell (k * 8 + 6)).trans hr.c6
        have x7 := (g1.cell (k * 8 + 7)).trans hr.c7
        have HRo : Hid (RtOwn (lo k) wr (R k) b1 b2 b3 b4 b5 b6) := hr.own
        have hlt' : (k : Int) < (n : Int) := by omega
        clear g1 g2 g4 g5 g6 hr
        go_wp2_with fail
        clear x0 x1 x2 x3 x4 x5 x6 x7
        have c6 := bel1 wr (.cells #[.int .i64 (R k).fr, .int .i64 (R k).to, .slice (some ⟨b1, 0, none⟩) (R k).ns (R k).ns, .slice (some ⟨b2, 0, none⟩) (R k).nl (R k).nl, .slice (some ⟨b3, 0, none⟩) (R k).nx (R k).nx, .slice (some ⟨b4, 0, none⟩) (R k).np (R k).np, .slice (some ⟨b5, 0, none⟩) (R k).no (R k).no, .slice (some ⟨b6, 0, none⟩) (R k).nf (R k).nf] 36)
        have R6 := HRo.out.mono (Nat.le_refl _) c6 (Nat.le_refl _)
        refine (claim47t (R k) (some ⟨b1, 0, none⟩) (some ⟨b2, 0, none⟩) (some ⟨b3, 0, none⟩) (some ⟨b4, 0, none⟩) (some ⟨b5, 0, none⟩) (some ⟨b6, 0, none⟩) (R k).ns (R k).nl (R k).nx (R k).np (R k).no (R k).nf _ (HS.out k hlt).1 (HS.out k hlt).2 (lsAt_le R6.l.ls (Nat.zero_le _)) (R6.x.ns.le (Nat.zero_le _)) (R6.q.ns.le (Nat.zero_le _)) (R6.o.ns.le (Nat.zero_le _)) (R6.f.ns.le (Nat.zero_le _))).mono ?_
        rintro e w1 ⟨d, rfl, hq1, ho1, hx1, hn1, hk1, hb1⟩
        have c61 := c6.trans (hb1.mono c6.size)
        have R1 := R6.mono (Nat.le_refl _) hb1 (Nat.le_refl _)
        have HT1 : Hid (ClT w1 (R k) d) := ⟨⟨_, _, by rw [hq1]; exact R1.q⟩, ⟨_, _, by rw [ho1]; exact R1.o⟩, ⟨_, hx1⟩, ⟨_, hn1⟩⟩
        have HK1 : Hid (ClOk (R k) d) := hk1
        have HOw1 : Hid (w1.ownsRow w.heap.size 90 12 (.slice a k cp) k xs) := ownsRow_keep HOw.out fun g hg => c61.block g (ownsRow_lt HOw.out hg).2.1
        have B1 : Below w.heap.size w w1 := hbel.trans (c61.mono hbel.size)
        have HC61 : Hid (Below wr.heap.size wr w1) := c61
        have z1 := B1.size
        clear c6 R6 hq1 ho1 hx1 hn1 hk1 hb1 c61 R1 HRo
        have HOw2 : Hid ((w1.alloc (.cells #[.slice d.qa (R k).np d.qc, .int .u64 (d.p1 : Int), .int .u64 (d.p2 : Int), .slice d.oa (R k).no d.oc, .int .u64 (d.o1 : Int), .int .u64 (d.o2 : Int), .slice d.xa (R k).nx d.xc, .int .u64 (d.x1 : Int), .int .u64 (d.x2 : Int), .slice d.na (ndR (R k)).length d.nc, .int .u64 (d.n1 : Int), .int .u64 (d.n2 : Int)] 90)).ownsRow w.heap.size 90 12 (.slice a k cp) k xs) := ownsRow_keep HOw1.out fun g hg => Below.heap_alloc _ _ _ (ownsRow_lt HOw1.out hg).2.1
        go_wp2_with (at_builtin; go_must (refine wpList_appCH _ rfl (.tmp 15) (.tmp 18) 93 rfl w.heap.size 90 i1 _ 12 160 Try.underlying93 e1 e2 e3 e4 rfl (by decide) _ k xs rfl HOw2.out ⟨w1.heap.size, 0, none⟩ 1 1 [.slice d.qa (R k).np d.qc, .int .u64 (d.p1 : Int), .int .u64 (d.p2 : Int), .slice d.oa (R k).no d.oc, .int .u64 (d.o1 : Int), .int .u64 (d.o2 : Int), .slice d.xa (R k).nx d.xc, .int .u64 (d.x1 : Int), .int .u64 (d.x2 : Int), .slice d.na (ndR (R k)).length d.nc, .int .u64 (d.n1 : Int), .int .u64 (d.n2 : Int)] rfl rfl (news_atV [.slice d.qa (R k).np d.qc, .int .u64 (d.p1 : Int), .int .u64 (d.p2 : Int), .slice d.oa (R k).no d.oc, .int .u64 (d.o1 : Int), .int .u64 (d.o2 : Int), .slice d.xa (R k).nx d.xc, .int .u64 (d.x1 : Int), .int .u64 (d.x2 : Int), .slice d.na (ndR (R k)).length d.nc, .int .u64 (d.n1 : Int), .int .u64 (d.n2 : Int)] rfl) (by simp [Value.oneCell']) (by simp [maxLen]; omega) (by omega) (by simp; omega) ?_))
        refine Halt.mk fun v4 w4 ho4 hg4 => ?_
        obtain ⟨a4, c4, rfl⟩ := ownsRow_val ho4
        have hT4 : ∀ r c, ClT w1 r c → ClT w4 r c := fun r c hh => (hh.mono (bel1 w1 _) (Nat.le_refl _)).grown HOw2.out hg4
        have HC4 : Hid (CsTo w4 (xs ++ [.slice d.qa (R k).np d.qc, .int .u64 (d.p1 : Int), .int .u64 (d.p2 : Int), .slice d.oa (R k).no d.oc, .int .u64 (d.o1 : Int), .int .u64 (d.o2 : Int), .slice d.xa (R k).nx d.xc, .int .u64 (d.x1 : Int), .int .u64 (d.x2 : Int), .slice d.na (ndR (R k)).length d.nc, .int .u64 (d.n1 : Int), .int .u64 (d.n2 : Int)]) (k + 1) R (fun i => if i < k then c i else d)) := HCs.out.step (fun i hi hh => hT4 _ _ (hh.mono HC61.out (Nat.le_refl _))) (hT4 _ _ HT1.out) HK1.out
        have HO4 : Hid (w4.ownsRow w.heap.size 90 12 (.slice a4 (k + 1) c4) (k + 1) (xs ++ [.slice d.qa (R k).np d.qc, .int .u64 (d.p1 : Int), .int .u64 (d.p2 : Int), .slice d.oa (R k).no d.oc, .int .u64 (d.o1 : Int), .int .u64 (d.o2 : Int), .slice d.xa (R k).nx d.xc, .int .u64 (d.x1 : Int), .int .u64 (d.x2 : Int), .slice d.na (ndR (R k)).length d.nc, .int .u64 (d.n1 : Int), .int .u64 (d.n2 : Int)])) := ho4
        have D4 : Below w.heap.size w w4 := (B1.alloc z1 _).grown hg4 (by simp; omega) (fun g e => (ownsRow_lt HOw2.out e).1)
        clear ho4 hg4 hT4 HOw1 HOw2 HT1 HK1 B1 HC61 HOw HCs
        go_wp2_with fail
        go_roundw
        case rel => exact ⟨k + 1, a4, c4, _, _, by omega, by go_num, rfl, HO4, HC4, D4⟩
        case measure => simp [intOf]; omega
      · obtain rfl : k = n := by omega
        have HCA : Hid (CsAt wr a k R c) := HCs.out.at HOw.out
        have HCO : Hid (∀ i, i < k → ClOk (R i) (c i)) := fun i hi => (HCs.out.2 i hi).2.2
        clear HOw HCs
        go_wp2_with fail
        refine (table49 a k cp R c _ h3 HS.out HCA.out HCO.out).mono ?_
        rintro e w1 ⟨b', r, rfl, hso, hb1⟩
        have HSO : Hid (SsOwn wr.heap.size w1 (some ⟨b', 0, none⟩) k k (fun i k => exF (R i) (R k)) r) := hso
        have B1 := hbel.trans (hb1.mono hbel.size)
        have hz := hbel.size
        clear hso hb1 HCA HCO
        go_wp2_with fail
        go_ret
        refine ⟨some ⟨b', 0, none⟩, k, r, by rw [HN.out]; rfl, ?_, B1⟩
        rw [HN.out]
        intro h0
        obtain ⟨b2, q1, q2, q3, q4⟩ := HSO.out h0
        exact ⟨b2, q1, by omega, q3, q4⟩
  · have HN : Hid (tn n = 0) := by show _ = _; simp [tn, h3]
    have h3' : (300 : Int) < (n : Int) := by omega
    go_enter Try.func20, Try.ntmps20
    go_wp2_with fail
    go_ret
    exact ⟨none, 0, fun _ => 0, by rw [HN.out]; rfl, fun h0 => absurd h0 (by rw [HN.out]; omega), Below.refl _ _⟩

end Go.Proofs.Ytpghgdnhfhdgmaa
