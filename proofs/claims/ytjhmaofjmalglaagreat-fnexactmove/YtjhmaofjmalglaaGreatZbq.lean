import Derived.Test.YtjhmaofjmalglaaGreatZbn
import Derived.Test.YtjhmaofjmalglaaGreatZbo
import Derived.Test.YtjhmaofjmalglaaGreatZbp
import Derived.Laws.AppendOwnNone
namespace Go.Proofs.YtjhmaofjmalglaaGreat
open Go.RowKit Go.Lib
theorem wpList_vcatO {P : Program} (w : World) {ops : Array Oper} {rest : List Oper} {o : Oper} {a : Act} {Q : Exit → Act → World → Prop} (hgd : o.guard = none) (s x : Operand) (t : TypeId)
  (ho : o.op = .call { callee := .builtin .append, args := #[s, x], argTypes := #[t, t] })
  (B : Nat) (e : TypeId) (i : TypeInfo) (z : Value) (c bytes : Nat) (ht : P.underlying t = some (.slice e)) (hi : P.info? e = some i) (hz : i.zero = some z)
  (hsize : i.size = c) (hby : i.bytes = bytes) (hzs : z.cells.size = c) (hsz : 0 < c)
  (v : Value) (n : Nat) (F : Nat → Nat → Int) (hs : a.eval s = v) (hown : VOwn B e c w v n (intF F))
  (B2 : Nat) (vx : Value) (m : Nat) (G : Nat → Nat → Int) (hx : a.eval x = vx) (hE : VOwn B2 e c w vx m (intF G))
  (h63 : n + m ≤ maxLen) (hbytes : (n + m) * bytes ≤ 140737488355328) (hbase : B ≤ w.heap.size)
  (h : Halt (∀ v' w', VOwn B e c w' v' (n + m) (intF (cat n F G)) → w.grownBy w' v.ownBlock → wpList P ops Q rest (a.put o.dst v') w')) : wpList P ops Q (o :: rest) a w := by
 have hE' := hE
 rcases hE with ⟨h1, h0⟩ | ⟨g, cap, cur, h1, h2, h3, h4, h5, h6, h7⟩
 ·
  subst h0
  refine wpList_append_own_none hgd s x t ho B e i c ht hi v n (vcells c n (intF F)) hs hown.row (hx.trans h1) ?_
  exact h v w (hown.congr fun i hi j _ => by show Value.int .i64 (F i j) = Value.int .i64 (if i < n then F i j else G (i - n) j); rw [if_pos hi]) ⟨rfl, rfl, rfl, Nat.le_refl _, fun _ _ _ => rfl⟩
 ·
  subst h1
  exact wpList_vcat w hgd s x t ho B e i z c bytes ht hi hz hsize hby hzs hsz v n F hs hown g 0 m cap G hx (hE'.vs.le (Nat.zero_le _)) h63 hbytes hbase h
theorem own_one {w : World} {q : Nat} {e : TypeId} {x y : Int} (h : Box w q e #[.int .i64 x, .int .i64 y]) {B : Nat} (hB : B ≤ q) : VOwn B e 2 w (.slice (some ⟨q, 0, none⟩) 1 1) 1 (intF fun _ j => if j = 0 then x else y) := by
 refine .inr ⟨q, 1, _, rfl, hB, h, Nat.le_refl _, by simp [maxLen], rfl, fun i hi j hj => ?_⟩
 obtain rfl : i = 0 := by omega
 rcases (show j = 0 ∨ j = 1 by omega) with rfl | rfl <;> rfl
theorem cat_st (fp fw : Int) (B : Nat → Nat → Int) (i j : Nat) (hj : j < 2) : cat 1 (fun _ j => if j = 0 then fp else fw) B i j = stF fp fw B i j := by
 unfold cat stF
 cases i with
 | zero => rfl
 | succ i =>
  rw [if_neg (by omega), Nat.add_sub_cancel]
  rcases (show j = 0 ∨ j = 1 by omega) with rfl | rfl <;> rfl
theorem one_grown {W w6 : World} {q n c : Nat} {T : TypeId} {xs : Array Value} {b : Nat} (hb : Box W b T xs) (hn : b ≠ q) (hg : W.grownBy w6 (Value.slice (some ⟨q, 0, none⟩) n c).ownBlock) : Box w6 b T xs :=
 hb.grown hg (fun h => hn (Option.some.inj h).symm)
theorem own_grown {W w6 : World} {q n c m k : Nat} {M : Nat} {T : TypeId} {v : Value} {F : Nat → Nat → Value} (ho : VOwn M T k W v m F) (hn : ∀ g, v.ownBlock = some g → g ≠ q) (hg : W.grownBy w6 (Value.slice (some ⟨q, 0, none⟩) n c).ownBlock) : VOwn M T k w6 v m F :=
 ho.keep nr fun g hgg => hg.block g (ho.lt hgg).2 (fun h => hn g hgg (Option.some.inj h))
def MvF (v : Nv) (L : Nat → Int) (lg T : Int) (s r : Mv) (c j : Int) : Prop := (railedB v L (s.fp : Int) s.fw s.nb s.B = true → MvTo v L lg T s r c j) ∧ (railedB v L (s.fp : Int) s.fw s.nb s.B = false → r = s ∧ c = 4 ∧ j = -1)
theorem MvF.det {v : Nv} {L : Nat → Int} {lg T : Int} {s r r' : Mv} {c j c' j' : Int} (h : MvF v L lg T s r c j) (h' : MvF v L lg T s r' c' j') : r = r' ∧ c = c' ∧ j = j' := by
 cases hb : railedB v L (s.fp : Int) s.fw s.nb s.B with
 | true => exact (h.1 hb).det (h'.1 hb)
 | false =>
  obtain ⟨rfl, rfl, rfl⟩ := h.2 hb
  obtain ⟨rfl, rfl, rfl⟩ := h'.2 hb
  exact ⟨rfl, rfl, rfl⟩
def mv0 (fp : Nat) (fa fw : Int) (nb : Nat) (B : Nat → Nat → Int) : Mv := ⟨fp, fa, fw, nb, B, 0, 0, fun _ _ => 0⟩
def MvR (w : World) (v : Nv) (L : Nat → Int) (lg T : Int) (s : Mv) (e : Ending) (w' : World) : Prop := ∃ (r : Mv) (c j : Int) (a1 : Option Addr) (c1 : Nat) (a2 : Option Addr) (c2 : Nat), MvF v L lg T s r c j ∧ e = .returned (.agg #[.int .i64 c, .int .i64 r.far, .int .i64 j, .int .i64 (r.fp : Int), .int .i64 r.fa, .int .i64 r.fw, .int .i64 lg, .slice a1 r.nb c1, .slice a2 r.no c2]) ∧ VOwn w.heap.size 74 2 w' (.slice a1 r.nb c1) r.nb (intF r.B) ∧ VOwn w.heap.size 112 3 w' (.slice a2 r.no c2) r.no (intF r.O) ∧ Below w.heap.size w w'
def intAt : Option Value → Int
 | some (.int _ x) => x
 | _ => 0
def mvM (v : Nv) (T : Int) (c1 c3 c4 c5 : Option Value) : Nat := 2 * (T - intAt c1).toNat + (if mvR v ⟨(intAt c3).toNat, intAt c4, intAt c5, 0, fun _ _ => 0, 0, 0, fun _ _ => 0⟩ = 0 then 1 else 0)
theorem mvE_more {v : Nv} (ok : v.Ok) {L : Nat → Int} (hl : ∀ i, i < v.m → lieB v.J L i = true) {lg : Int} {s : Mv} (h : MvOk v lg s) (hc : mvC v L s = 0) : ¬ mvR v (mvE v L s) = 0 := by
 obtain ⟨q, h1, h2, h3⟩ := mv_next ok hl h hc
 have hln := ok.ln q h2
 have e : mvR v (mvE v L s) = (v.P q).ln := by
  unfold mvR
  show (if wayOf (nextAt v L s.fp s.fw) = 1 then (v.P (nextAt v L s.fp s.fw).pc.toNat).ln - farI (v.P (nextAt v L s.fp s.fw).pc.toNat).ln 0 (wayOf (nextAt v L s.fp s.fw)) else farI (v.P (nextAt v L s.fp s.fw).pc.toNat).ln 0 (wayOf (nextAt v L s.fp s.fw))) = _
  rw [h1, Int.toNat_natCast]
  unfold farI
  split <;> simp
 rw [e]
 omega
theorem en_way {e : En} (h : e.sd = 0 ∨ e.sd = 1) : enW e.sd = wayOf e := by
 unfold enW wayOf
 rcases h with g | g <;> rw [g] <;> simp
theorem en_at {v : Nv} {q : Nat} {e : En} (h : e.sd = 0 ∨ e.sd = 1) : enA v q e.sd = farI (v.P q).ln 0 (wayOf e) := by
 unfold enA farI wayOf
 rcases h with g | g <;> rw [g] <;> simp
theorem trim_all {h : Nat → Int} {lg : Int} {nb z : Nat} (hz : z ≤ nb ∧ (∀ q, q < z → h q < lg) ∧ (z < nb → lg ≤ h z)) (hl : ∀ q, q < nb → h q < lg) : z = nb := by
 by_cases c : z < nb
 ·
  have h1 := hz.2.2 c
  have h2 := hl z c
  omega
 ·
  omega
theorem trim_nd {h : Nat → Int} {lg : Int} {nb z : Nat} (hz : z ≤ nb ∧ (∀ q, q < z → h q < lg) ∧ (z < nb → lg ≤ h z)) (hl : lg ≤ h nb) : z = ndN h lg nb := by
 refine (ndN_is (by omega) (fun q a _ => hz.2.1 q a) fun a => ?_).symm
 by_cases c : z < nb
 ·
  exact hz.2.2 c
 ·
  have e : z = nb := by omega
  rw [e]; exact hl
end Go.Proofs.YtjhmaofjmalglaaGreat
