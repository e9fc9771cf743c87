import Derived.Test.YtkeilejbelblcaaGreatDoorChecked
import Derived.WalkKit
import Derived.WalkSpells
import Derived.WalkLawsBesides
import Derived.BigQuiet
import Derived.Deep.RegionWith
import Derived.Deep.OwnRows
import Derived.ArgAppend
import Derived.Laws.AppendOwnNone
namespace Go.Proofs.YtkeilejbelblcaaGreatDoor
open Go.RowKit
theorem cset_same {w:World}{b o:Nat}{u v:Value}(h:w.cell? ⟨b,o,none⟩=some u):(w.setCell ⟨b,o,none⟩ v).cell? ⟨b,o,none⟩=some v:=
 World.cell?_setCell_same' w _ v (by rw[h];rfl)
theorem cset_ne (w:World) (b o b' o':Nat) (v:Value) (h:b≠b'\/o≠o'):(w.setCell ⟨b,o,none⟩ v).cell? ⟨b',o',none⟩=w.cell? ⟨b',o',none⟩:=by
 apply World.cell?_setCell_other
 intro e
 simp only[Addr.mk.injEq] at e
 omega
theorem bel1 (w:World) (a:Obj):Below w.heap.size w (w.alloc a):=(Below.refl _ _).alloc (Nat.le_refl _) _
theorem bel2 (w:World) (a b:Obj):Below w.heap.size w ((w.alloc a).alloc b):=(bel1 w a).alloc (by simp) _
theorem bel3 (w:World) (a b c:Obj):Below w.heap.size w (((w.alloc a).alloc b).alloc c):=(bel2 w a b).alloc (by simp;omega) _
theorem bel4 (w:World) (a b c d:Obj):Below w.heap.size w ((((w.alloc a).alloc b).alloc c).alloc d):=(bel3 w a b c).alloc (by simp;omega) _
theorem cell_keep {B:Nat}{W w1:World}{b o:Nat}{v:Value}(hb:Below B W w1) (hlt:b<B) (h:W.cell? ⟨b,o,none⟩=some v):w1.cell? ⟨b,o,none⟩=some v:=(hb.cell (p:=⟨b,o,none⟩) hlt).trans h
def szL (left n:Int):Int:=if left<n then -1 else left-n
def Box (w:World) (b:Nat) (T:TypeId) (vs:Array Value):Prop:=w.heap[b]?=some (.cells vs T (0,0))
theorem Box.lt {w:World}{b:Nat}{T:TypeId}{vs:Array Value}(h:Box w b T vs):b<w.heap.size:=(Array.getElem?_eq_some_iff.1 h).1
theorem Box.cell {w:World}{b:Nat}{T:TypeId}{vs:Array Value}(h:Box w b T vs) (j:Nat):w.cell? ⟨b,j,none⟩=vs[j]?:=by
 have h':w.heap[b]?=some (.cells vs T (0,0)):=h
 simp[World.cell?,h']
theorem nr {n:Nat}:n<=n:=Nat.le_refl n
theorem Box.cel {w:World}{b:Nat}{T:TypeId}{vs:Array Value}(h:Box w b T vs) (j:Nat) {v:Value}(hv:vs[j]?=some v:=by first |(simp only[List.getElem?_toArray,List.getElem?_cons_zero,List.getElem?_cons_succ];rfl)|(simp only[List.setIfInBounds_toArray,List.set_cons_zero,List.set_cons_succ,List.getElem?_toArray,List.getElem?_cons_zero,List.getElem?_cons_succ];rfl)|(simp;rfl)|rfl):w.cell? ⟨b,j,none⟩=some v:=(h.cell j).trans hv
abbrev ad (b o:Nat):Addr:=⟨b,o,none⟩
theorem Box.free {w:World}{b:Nat}{T:TypeId}{vs:Array Value}(h:Box w b T vs) (j:Nat):w.frozen? ⟨b,j,none⟩=false:=by
 have h':w.heap[b]?=some (.cells vs T (0,0)):=h
 simp[World.frozen?,h']
theorem Box.c2 {w:World}{b:Nat}{T:TypeId}{v0 v1:Value}(h:Box w b T #[v0,v1]):w.cell? ⟨b,0,none⟩=some v0/\w.cell? ⟨b,1,none⟩=some v1:=⟨h.cell 0,h.cell 1⟩
theorem Box.c3 {w:World}{b:Nat}{T:TypeId}{v0 v1 v2:Value}(h:Box w b T #[v0,v1,v2]):w.cell? ⟨b,0,none⟩=some v0/\w.cell? ⟨b,1,none⟩=some v1/\w.cell? ⟨b,2,none⟩=some v2:=⟨h.cell 0,h.cell 1,h.cell 2⟩
theorem Box.c4 {w:World}{b:Nat}{T:TypeId}{v0 v1 v2 v3:Value}(h:Box w b T #[v0,v1,v2,v3]):w.cell? ⟨b,0,none⟩=some v0/\w.cell? ⟨b,1,none⟩=some v1/\w.cell? ⟨b,2,none⟩=some v2/\w.cell? ⟨b,3,none⟩=some v3:=⟨h.cell 0,h.cell 1,h.cell 2,h.cell 3⟩
theorem Box.c5 {w:World}{b:Nat}{T:TypeId}{v0 v1 v2 v3 v4:Value}(h:Box w b T #[v0,v1,v2,v3,v4]):w.cell? ⟨b,0,none⟩=some v0/\w.cell? ⟨b,1,none⟩=some v1/\w.cell? ⟨b,2,none⟩=some v2/\w.cell? ⟨b,3,none⟩=some v3/\w.cell? ⟨b,4,none⟩=some v4:=⟨h.cell 0,h.cell 1,h.cell 2,h.cell 3,h.cell 4⟩
theorem Box.c7 {w:World}{b:Nat}{T:TypeId}{v0 v1 v2 v3 v4 v5 v6:Value}(h:Box w b T #[v0,v1,v2,v3,v4,v5,v6]):w.cell? ⟨b,0,none⟩=some v0/\w.cell? ⟨b,1,none⟩=some v1/\w.cell? ⟨b,2,none⟩=some v2/\w.cell? ⟨b,3,none⟩=some v3/\w.cell? ⟨b,4,none⟩=some v4/\w.cell? ⟨b,5,none⟩=some v5/\w.cell? ⟨b,6,none⟩=some v6:=⟨h.cell 0,h.cell 1,h.cell 2,h.cell 3,h.cell 4,h.cell 5,h.cell 6⟩
theorem Box.c8 {w:World}{b:Nat}{T:TypeId}{v0 v1 v2 v3 v4 v5 v6 v7:Value}(h:Box w b T #[v0,v1,v2,v3,v4,v5,v6,v7]):w.cell? ⟨b,0,none⟩=some v0/\w.cell? ⟨b,1,none⟩=some v1/\w.cell? ⟨b,2,none⟩=some v2/\w.cell? ⟨b,3,none⟩=some v3/\w.cell? ⟨b,4,none⟩=some v4/\w.cell? ⟨b,5,none⟩=some v5/\w.cell? ⟨b,6,none⟩=some v6/\w.cell? ⟨b,7,none⟩=some v7:=⟨h.cell 0,h.cell 1,h.cell 2,h.cell 3,h.cell 4,h.cell 5,h.cell 6,h.cell 7⟩
theorem d354 {w0:World}{b0:Nat}{T0:TypeId}{v00 v01 v02:Value}(h0:Box w0 b0 T0 #[v00,v01,v02]){w1:World}{b1:Nat}{T1:TypeId}{v10 v11 v12 v13 v14:Value}(h1:Box w1 b1 T1 #[v10,v11,v12,v13,v14]){w2:World}{b2:Nat}{T2:TypeId}{v20 v21 v22 v23:Value}(h2:Box w2 b2 T2 #[v20,v21,v22,v23]):w0.cell? ⟨b0,0,none⟩=some v00/\w0.cell? ⟨b0,1,none⟩=some v01/\w0.cell? ⟨b0,2,none⟩=some v02/\w1.cell? ⟨b1,0,none⟩=some v10/\w1.cell? ⟨b1,1,none⟩=some v11/\w1.cell? ⟨b1,2,none⟩=some v12/\w1.cell? ⟨b1,3,none⟩=some v13/\w1.cell? ⟨b1,4,none⟩=some v14/\w2.cell? ⟨b2,0,none⟩=some v20/\w2.cell? ⟨b2,1,none⟩=some v21/\w2.cell? ⟨b2,2,none⟩=some v22/\w2.cell? ⟨b2,3,none⟩=some v23:=⟨h0.cell 0,h0.cell 1,h0.cell 2,h1.cell 0,h1.cell 1,h1.cell 2,h1.cell 3,h1.cell 4,h2.cell 0,h2.cell 1,h2.cell 2,h2.cell 3⟩
theorem d3 {w0:World}{b0:Nat}{T0:TypeId}{v00 v01 v02:Value}(h0:Box w0 b0 T0 #[v00,v01,v02]):w0.cell? ⟨b0,0,none⟩=some v00/\w0.cell? ⟨b0,1,none⟩=some v01/\w0.cell? ⟨b0,2,none⟩=some v02:=⟨h0.cell 0,h0.cell 1,h0.cell 2⟩
theorem d44 {w0:World}{b0:Nat}{T0:TypeId}{v00 v01 v02 v03:Value}(h0:Box w0 b0 T0 #[v00,v01,v02,v03]){w1:World}{b1:Nat}{T1:TypeId}{v10 v11 v12 v13:Value}(h1:Box w1 b1 T1 #[v10,v11,v12,v13]):w0.cell? ⟨b0,0,none⟩=some v00/\w0.cell? ⟨b0,1,none⟩=some v01/\w0.cell? ⟨b0,2,none⟩=some v02/\w0.cell? ⟨b0,3,none⟩=some v03/\w1.cell? ⟨b1,0,none⟩=some v10/\w1.cell? ⟨b1,1,none⟩=some v11/\w1.cell? ⟨b1,2,none⟩=some v12/\w1.cell? ⟨b1,3,none⟩=some v13:=⟨h0.cell 0,h0.cell 1,h0.cell 2,h0.cell 3,h1.cell 0,h1.cell 1,h1.cell 2,h1.cell 3⟩
theorem d543 {w0:World}{b0:Nat}{T0:TypeId}{v00 v01 v02 v03 v04:Value}(h0:Box w0 b0 T0 #[v00,v01,v02,v03,v04]){w1:World}{b1:Nat}{T1:TypeId}{v10 v11 v12 v13:Value}(h1:Box w1 b1 T1 #[v10,v11,v12,v13]){w2:World}{b2:Nat}{T2:TypeId}{v20 v21 v22:Value}(h2:Box w2 b2 T2 #[v20,v21,v22]):w0.cell? ⟨b0,0,none⟩=some v00/\w0.cell? ⟨b0,1,none⟩=some v01/\w0.cell? ⟨b0,2,none⟩=some v02/\w0.cell? ⟨b0,3,none⟩=some v03/\w0.cell? ⟨b0,4,none⟩=some v04/\w1.cell? ⟨b1,0,none⟩=some v10/\w1.cell? ⟨b1,1,none⟩=some v11/\w1.cell? ⟨b1,2,none⟩=some v12/\w1.cell? ⟨b1,3,none⟩=some v13/\w2.cell? ⟨b2,0,none⟩=some v20/\w2.cell? ⟨b2,1,none⟩=some v21/\w2.cell? ⟨b2,2,none⟩=some v22:=⟨h0.cell 0,h0.cell 1,h0.cell 2,h0.cell 3,h0.cell 4,h1.cell 0,h1.cell 1,h1.cell 2,h1.cell 3,h2.cell 0,h2.cell 1,h2.cell 2⟩
theorem d55 {w0:World}{b0:Nat}{T0:TypeId}{v00 v01 v02 v03 v04:Value}(h0:Box w0 b0 T0 #[v00,v01,v02,v03,v04]){w1:World}{b1:Nat}{T1:TypeId}{v10 v11 v12 v13 v14:Value}(h1:Box w1 b1 T1 #[v10,v11,v12,v13,v14]):w0.cell? ⟨b0,0,none⟩=some v00/\w0.cell? ⟨b0,1,none⟩=some v01/\w0.cell? ⟨b0,2,none⟩=some v02/\w0.cell? ⟨b0,3,none⟩=some v03/\w0.cell? ⟨b0,4,none⟩=some v04/\w1.cell? ⟨b1,0,none⟩=some v10/\w1.cell? ⟨b1,1,none⟩=some v11/\w1.cell? ⟨b1,2,none⟩=some v12/\w1.cell? ⟨b1,3,none⟩=some v13/\w1.cell? ⟨b1,4,none⟩=some v14:=⟨h0.cell 0,h0.cell 1,h0.cell 2,h0.cell 3,h0.cell 4,h1.cell 0,h1.cell 1,h1.cell 2,h1.cell 3,h1.cell 4⟩
theorem d7 {w0:World}{b0:Nat}{T0:TypeId}{v00 v01 v02 v03 v04 v05 v06:Value}(h0:Box w0 b0 T0 #[v00,v01,v02,v03,v04,v05,v06]):w0.cell? ⟨b0,0,none⟩=some v00/\w0.cell? ⟨b0,1,none⟩=some v01/\w0.cell? ⟨b0,2,none⟩=some v02/\w0.cell? ⟨b0,3,none⟩=some v03/\w0.cell? ⟨b0,4,none⟩=some v04/\w0.cell? ⟨b0,5,none⟩=some v05/\w0.cell? ⟨b0,6,none⟩=some v06:=⟨h0.cell 0,h0.cell 1,h0.cell 2,h0.cell 3,h0.cell 4,h0.cell 5,h0.cell 6⟩
theorem d8 {w0:World}{b0:Nat}{T0:TypeId}{v00 v01 v02 v03 v04 v05 v06 v07:Value}(h0:Box w0 b0 T0 #[v00,v01,v02,v03,v04,v05,v06,v07]):w0.cell? ⟨b0,0,none⟩=some v00/\w0.cell? ⟨b0,1,none⟩=some v01/\w0.cell? ⟨b0,2,none⟩=some v02/\w0.cell? ⟨b0,3,none⟩=some v03/\w0.cell? ⟨b0,4,none⟩=some v04/\w0.cell? ⟨b0,5,none⟩=some v05/\w0.cell? ⟨b0,6,none⟩=some v06/\w0.cell? ⟨b0,7,none⟩=some v07:=⟨h0.cell 0,h0.cell 1,h0.cell 2,h0.cell 3,h0.cell 4,h0.cell 5,h0.cell 6,h0.cell 7⟩
theorem Box.f2 {w:World}{b:Nat}{T:TypeId}{vs:Array Value}(h:Box w b T vs):w.frozen? ⟨b,0,none⟩=false/\w.frozen? ⟨b,1,none⟩=false:=⟨h.free 0,h.free 1⟩
theorem Box.f3 {w:World}{b:Nat}{T:TypeId}{vs:Array Value}(h:Box w b T vs):w.frozen? ⟨b,0,none⟩=false/\w.frozen? ⟨b,1,none⟩=false/\w.frozen? ⟨b,2,none⟩=false:=⟨h.free 0,h.free 1,h.free 2⟩
theorem Box.f4 {w:World}{b:Nat}{T:TypeId}{vs:Array Value}(h:Box w b T vs):w.frozen? ⟨b,0,none⟩=false/\w.frozen? ⟨b,1,none⟩=false/\w.frozen? ⟨b,2,none⟩=false/\w.frozen? ⟨b,3,none⟩=false:=⟨h.free 0,h.free 1,h.free 2,h.free 3⟩
theorem Box.f5 {w:World}{b:Nat}{T:TypeId}{vs:Array Value}(h:Box w b T vs):w.frozen? ⟨b,0,none⟩=false/\w.frozen? ⟨b,1,none⟩=false/\w.frozen? ⟨b,2,none⟩=false/\w.frozen? ⟨b,3,none⟩=false/\w.frozen? ⟨b,4,none⟩=false:=⟨h.free 0,h.free 1,h.free 2,h.free 3,h.free 4⟩
theorem Box.f7 {w:World}{b:Nat}{T:TypeId}{vs:Array Value}(h:Box w b T vs):w.frozen? ⟨b,0,none⟩=false/\w.frozen? ⟨b,1,none⟩=false/\w.frozen? ⟨b,2,none⟩=false/\w.frozen? ⟨b,3,none⟩=false/\w.frozen? ⟨b,4,none⟩=false/\w.frozen? ⟨b,5,none⟩=false/\w.frozen? ⟨b,6,none⟩=false:=⟨h.free 0,h.free 1,h.free 2,h.free 3,h.free 4,h.free 5,h.free 6⟩
theorem Box.f8 {w:World}{b:Nat}{T:TypeId}{vs:Array Value}(h:Box w b T vs):w.frozen? ⟨b,0,none⟩=false/\w.frozen? ⟨b,1,none⟩=false/\w.frozen? ⟨b,2,none⟩=false/\w.frozen? ⟨b,3,none⟩=false/\w.frozen? ⟨b,4,none⟩=false/\w.frozen? ⟨b,5,none⟩=false/\w.frozen? ⟨b,6,none⟩=false/\w.frozen? ⟨b,7,none⟩=false:=⟨h.free 0,h.free 1,h.free 2,h.free 3,h.free 4,h.free 5,h.free 6,h.free 7⟩
abbrev z3v:Array Value:=#[.slice none 0 0,.slice none 0 0,.slice none 0 0]
abbrev z4v:Array Value:=#[.bool false,.slice none 0 0,.slice none 0 0,.slice none 0 0]
abbrev z5v:Array Value:=#[.int .i64 0,.bool false,.slice none 0 0,.slice none 0 0,.slice none 0 0]
abbrev z8v:Array Value:=#[.int .i64 0,.slice none 0 0,.slice none 0 0,.slice none 0 0,.int .i64 0,.slice none 0 0,.slice none 0 0,.slice none 0 0]
abbrev zhv:Array Value:=#[.int .i64 0,.int .i64 0,.slice none 0 0,.bool false,.int .i64 0]
abbrev vEv (a b c:Int):Array Value:=#[.int .i64 a,.int .i64 b,.int .i64 c]
theorem Box.keep {w w':World}{b:Nat}{T:TypeId}{vs:Array Value}(h:Box w b T vs) (hk:w'.heap[b]?=w.heap[b]?):Box w' b T vs:=by
 show w'.heap[b]?=_
 rw[hk];exact h
theorem Box.alloc {w:World}{b:Nat}{T:TypeId}{vs:Array Value}(h:Box w b T vs) (o:Obj):Box (w.alloc o) b T vs:=h.keep (Below.heap_alloc w o b h.lt)
theorem Box.new (w:World) (T:TypeId) (vs:Array Value):Box (w.alloc (.cells vs T)) w.heap.size T vs:=heap_alloc_new w _
theorem Box.set {w:World}{b:Nat}{T:TypeId}{vs:Array Value}(h:Box w b T vs) (j:Nat) (v:Value):Box (w.setCell ⟨b,j,none⟩ v) b T (vs.setIfInBounds j v):=by
 have h':w.heap[b]?=some (.cells vs T (0,0)):=h
 show(w.setCell ⟨b,j,none⟩ v).heap[b]?=_
 simp[World.setCell,Array.getElem?_modify,h']
theorem Box.other {w:World}{b:Nat}{T:TypeId}{vs:Array Value}(h:Box w b T vs) {p:Addr}(hp:b≠p.block) (v:Value):Box (w.setCell p v) b T vs:=h.keep (Below.heap_setCell w p v b hp)
theorem Box.drew {w:World}{b:Nat}{T:TypeId}{vs:Array Value}(h:Box w b T vs):Box w.drew b T vs:=h
theorem Box.mono {w w':World}{b:Nat}{T:TypeId}{vs:Array Value}{N:Nat}(h:Box w b T vs) (hb:Below N w w') (hN:w.heap.size<=N):Box w' b T vs:=h.keep (hb.block b (by have :=h.lt;omega))
theorem Box.grown {w w':World}{b:Nat}{T:TypeId}{vs:Array Value}{row:Option Nat}(h:Box w b T vs) (hg:w.grownBy w' row) (hr:row≠some b):Box w' b T vs:=h.keep (hg.block b h.lt (fun e=>hr e.symm))
def mk0 (z:Value) (k:Nat):Array Value:=madeCells z.cells k
theorem make_rows {P:Program}(t e:TypeId) (z:Value) (bytes size:Nat) (ht:P.underlying t=some (.slice e)) (hinfo:(P.info? e).map (fun i=>(i.zero,i.size,i.bytes))=some (some z,size,bytes))
  (n:Nat) (hbytes:bytes*n<=281474976710656) (h63:n<=9223372036854775807) (w:World):
  (Instr.makeSlice t (.int .i64 (n:Int)) (.int .i64 (n:Int))).run P w=.ok (.slice (some ⟨w.heap.size,0,none⟩) n n) (w.alloc (.cells (mk0 z (n*size)) e)):=by
 obtain⟨i,hi,hzz⟩:=Option.map_eq_some_iff.1 hinfo
 simp only[Prod.mk.injEq] at hzz
 obtain⟨hz,hs,hb⟩:=hzz
 have hb':(i.bytes:Int)*(n:Int)<=281474976710656:=by
  have h:((i.bytes*n:Nat):Int)<=281474976710656:=by rw[hb];omega
  rwa [Int.natCast_mul] at h
 have hr:=run_make (P:=P) w t e i z ht hi hz .i64 .i64 n n (by omega) (Int.le_refl _) hb' (by omega)
 simp only[Int.toNat_natCast,hs] at hr
 exact hr
theorem row_mk0 (w:World) (z:Value) (k:Nat) (e:TypeId):∃f,(w.alloc (.cells (mk0 z k) e)).rowIs w.heap.size e k f:=by
 refine⟨fun i=>(mk0 z k).getD i z,?_⟩
 have h:=World.rowIs_alloc w (mk0 z k) e (fun i=>(mk0 z k).getD i z) (fun i hi=>by simp[Array.getD,hi])
 have hs:(mk0 z k).size=k:=size_madeCells _ _
 rw[hs] at h
 exact h
structure Fr (X:Nat->Prop) (w w':World):Prop where
 os:w'.os=w.os
 tape:w'.tape=w.tape
 output:w'.output=w.output
 size:w.heap.size<=w'.heap.size
 block:∀k,k<w.heap.size->¬X k->w'.heap[k]?=w.heap[k]?
theorem Fr.refl (X:Nat->Prop) (w:World):Fr X w w:=⟨rfl,rfl,rfl,Nat.le_refl _,fun _ _ _=>rfl⟩
theorem Fr.trans {X:Nat->Prop}{a b c:World}(h:Fr X a b) (k:Fr X b c):Fr X a c:=
 ⟨k.os.trans h.os,k.tape.trans h.tape,k.output.trans h.output,Nat.le_trans h.size k.size,fun i hi hx=>(k.block i (Nat.lt_of_lt_of_le hi h.size) hx).trans (h.block i hi hx)⟩
theorem Fr.mono {X Y:Nat->Prop}{a b:World}(h:Fr X a b) (hy:∀k,k<a.heap.size->X k->Y k):Fr Y a b:=⟨h.os,h.tape,h.output,h.size,fun i hi hx=>h.block i hi fun x=>hx (hy i hi x)⟩
theorem Fr.of_below {X:Nat->Prop}{w w':World}(h:Below w.heap.size w w'):Fr X w w':=⟨h.os,h.tape,h.output,h.size,fun k hk _=>h.block k hk⟩
theorem Fr.drew {X:Nat->Prop}{w w':World}(h:Fr X w w'):Fr X w w'.drew:=⟨h.os,h.tape,h.output,h.size,h.block⟩
theorem Fr.below {X:Nat->Prop}{w w':World}(h:Fr X w w') {B:Nat}(hB:B<=w.heap.size) (hx:∀k,k<B->¬X k):Below B w w':=⟨h.os,h.tape,h.output,h.size,fun k hk=>h.block k (by omega) (hx k hk)⟩
theorem info_parts {P:Program}{e:TypeId}{z:Value}{s b:Nat}(h:(P.info? e).map (fun i=>(i.zero,i.size,i.bytes))=some (some z,s,b)):∃i,P.info? e=some i/\i.zero=some z/\i.size=s/\i.bytes=b:=by
 obtain⟨i,hi,hzz⟩:=Option.map_eq_some_iff.1 h
 simp only[Prod.mk.injEq] at hzz
 exact⟨i,hi,hzz.1,hzz.2.1,hzz.2.2⟩
def Halt (p:Prop):Prop:=p
theorem Halt.mk {p:Prop}(h:p):Halt p:=h
theorem size_setc (w:World) (p:Addr) (v:Value):(w.setCell p v).heap.size=w.heap.size:=by simp[World.setCell]
theorem Box.fr {w w':World}{b:Nat}{T:TypeId}{vs:Array Value}{X:Nat->Prop}(h:Box w b T vs) (hf:Fr X w w') (hx:¬X b):Box w' b T vs:=h.keep (hf.block b h.lt hx)
theorem Fr.cells {X:Nat->Prop}{w w':World}{b:Nat}(h:Fr X w w') (hb:X b) (o:Nat) (v:Value):Fr X w (w'.setCell ⟨b,o,none⟩ v):=⟨h.os,h.tape,h.output,by rw[size_setc];exact h.size,fun k hk hn=>(Below.heap_setCell w' _ v k fun e=>hn (by rw[e];exact hb)).trans (h.block k hk hn)⟩
def VsAt (c C:Nat) (w:World) (a:Option Addr) (n:Nat) (F:Nat->Nat->Value):Prop:=
 0<n->∃b off,a=some ⟨b,off,none⟩/\C<=b/\b<w.heap.size/\∀i,i<n->∀j,j<c->w.cell? ⟨b,off+i*c+j,none⟩=some (F i j)
theorem VsAt.keep {c C C':Nat}{w w':World}{a:Option Addr}{n:Nat}{F:Nat->Nat->Value}(h:VsAt c C w a n F) (hC:C'<=C) (hs:w.heap.size<=w'.heap.size)
  (hk:∀b,C<=b->b<w.heap.size->w'.heap[b]?=w.heap[b]?):VsAt c C' w' a n F:=by
 intro h0
 obtain⟨b,off,ha,hge,hlt,hc⟩:=h h0
 exact⟨b,off,ha,by omega,by omega,fun i hi j hj=>(World.cell?_of_block (w:=w) (hk b hge hlt)).trans (hc i hi j hj)⟩
theorem VsAt.mono {c C C':Nat}{w w':World}{a:Option Addr}{n:Nat}{F:Nat->Nat->Value}{B:Nat}(h:VsAt c C w a n F) (hC:C'<=C) (hb:Below B w w') (hB:w.heap.size<=B):VsAt c C' w' a n F:=
 h.keep hC hb.size fun b _ hlt=>hb.block b (by omega)
theorem VsAt.le {c C C':Nat}{w:World}{a:Option Addr}{n:Nat}{F:Nat->Nat->Value}(h:VsAt c C w a n F) (hC:C'<=C):VsAt c C' w a n F:=h.keep hC (Nat.le_refl _) fun _ _ _=>rfl
def vcells (c n:Nat) (F:Nat->Nat->Value):List Value:=(List.range n).flatMap fun i=>(List.range c).map (F i)
theorem vcells_succ (c n:Nat) (F:Nat->Nat->Value):vcells c (n+1) F=vcells c n F++(List.range c).map (F n):=by simp[vcells,List.range_succ]
theorem vcells_len (c n:Nat) (F:Nat->Nat->Value):(vcells c n F).length=n*c:=by
 induction n with
 |zero=>simp[vcells]
 |succ n ih=>rw[vcells_succ,List.length_append,ih,Nat.succ_mul];simp
theorem vcells_at {c n:Nat}{F:Nat->Nat->Value}{i j:Nat}(hi:i<n) (hj:j<c):(vcells c n F)[i*c+j]?=some (F i j):=by
 induction n with
 |zero=>omega
 |succ n ih=>
  rw[vcells_succ]
  by_cases h:i<n
  ·
   have :i*c+j<n*c:=by
    have h1:=Nat.mul_le_mul_right c (show i+1<=n by omega)
    rw[Nat.succ_mul] at h1
    omega
   rw[List.getElem?_append_left (by rw[vcells_len];exact this)]
   exact ih h
  ·
   obtain rfl:i=n:=by omega
   rw[List.getElem?_append_right (by rw[vcells_len];omega),vcells_len,show i*c+j-i*c=j by omega]
   simp[hj]
theorem vcells_spot {c n:Nat}{k:Nat}(hk:k<n*c):k / c<n/\k%c<c/\k / c*c+k%c=k:=by
 have hc:0<c:=Nat.pos_of_ne_zero fun e=>by subst e;simp at hk
 exact⟨(Nat.div_lt_iff_lt_mul hc).2 hk,Nat.mod_lt _ hc,by rw[Nat.mul_comm];exact Nat.div_add_mod k c⟩
theorem vcells_congr {c n:Nat}{F G:Nat->Nat->Value}(h:∀i,i<n->∀j,j<c->F i j=G i j):vcells c n F=vcells c n G:=by
 refine List.ext_getElem? fun k=>?_
 by_cases hk:k<n*c
 ·
  obtain⟨h1,h2,h3⟩:=vcells_spot hk
  rw[<-h3,vcells_at h1 h2,vcells_at h1 h2,h _ h1 _ h2]
 ·
  rw[List.getElem?_eq_none (by rw[vcells_len];omega),List.getElem?_eq_none (by rw[vcells_len];omega)]
def VOwn (B:Nat) (e:TypeId) (c:Nat) (w:World) (v:Value) (n:Nat) (F:Nat->Nat->Value):Prop:=
 (v=.slice none 0 0/\n=0)\/∃g cap cur,v=.slice (some ⟨g,0,none⟩) n cap/\B<=g/\Box w g e cur/\n<=cap/\cap<=maxLen/\cur.size=cap*c/\∀i,i<n->∀j,j<c->cur[i*c+j]?=some (F i j)
theorem VOwn.nil (B:Nat) (e:TypeId) (c:Nat) (w:World) (F:Nat->Nat->Value):VOwn B e c w (.slice none 0 0) 0 F:=.inl ⟨rfl,rfl⟩
theorem VOwn.congr {B:Nat}{e:TypeId}{c:Nat}{w:World}{v:Value}{n:Nat}{F G:Nat->Nat->Value}(h:VOwn B e c w v n F) (hf:∀i,i<n->∀j,j<c->F i j=G i j):VOwn B e c w v n G:=by
 rcases h with h|⟨g,cap,cur,h1,h2,h3,h4,h5,h6,h7⟩
 ·
  exact .inl h
 ·
  exact .inr ⟨g,cap,cur,h1,h2,h3,h4,h5,h6,fun i hi j hj=>by rw[h7 i hi j hj,hf i hi j hj]⟩
theorem VOwn.val {B:Nat}{e:TypeId}{c:Nat}{w:World}{v:Value}{n:Nat}{F:Nat->Nat->Value}(h:VOwn B e c w v n F):∃a cap,v=.slice a n cap:=by
 rcases h with⟨rfl,rfl⟩|⟨g,cap,cur,rfl,_⟩
 ·
  exact⟨none,0,rfl⟩
 ·
  exact⟨_,_,rfl⟩
theorem VOwn.vs {B:Nat}{e:TypeId}{c:Nat}{w:World}{a:Option Addr}{cap:Nat}{n:Nat}{F:Nat->Nat->Value}(h:VOwn B e c w (.slice a n cap) n F):VsAt c B w a n F:=by
 intro h0
 rcases h with⟨h1,rfl⟩|⟨g,cp,cur,h1,h2,h3,h4,h5,h6,h7⟩
 ·
  omega
 ·
  simp only[Value.slice.injEq] at h1
  exact⟨g,0,h1.1,h2,h3.lt,fun i hi j hj=>by rw[h3.cell,Nat.zero_add,h7 i hi j hj]⟩
theorem VOwn.lt {B:Nat}{e:TypeId}{c:Nat}{w:World}{v:Value}{n:Nat}{F:Nat->Nat->Value}(h:VOwn B e c w v n F) {g:Nat}(hg:v.ownBlock=some g):B<=g/\g<w.heap.size:=by
 rcases h with⟨rfl,rfl⟩|⟨g',cap,cur,rfl,h2,h3,_⟩
 ·
  simp[Value.ownBlock] at hg
 ·
  simp only[Value.ownBlock,Option.some.injEq] at hg
  subst hg
  exact⟨h2,h3.lt⟩
theorem VOwn.keep {B B':Nat}{e:TypeId}{c:Nat}{w w':World}{v:Value}{n:Nat}{F:Nat->Nat->Value}(h:VOwn B e c w v n F) (hB:B'<=B) (hk:∀g,v.ownBlock=some g->w'.heap[g]?=w.heap[g]?):VOwn B' e c w' v n F:=by
 rcases h with h|⟨g,cap,cur,rfl,h2,h3,h4⟩
 ·
  exact .inl h
 ·
  exact .inr ⟨g,cap,cur,rfl,by omega,h3.keep (hk g rfl),h4⟩
theorem VOwn.mono {B B':Nat}{e:TypeId}{c:Nat}{w w':World}{v:Value}{n:Nat}{F:Nat->Nat->Value}{M:Nat}(h:VOwn B e c w v n F) (hB:B'<=B) (hb:Below M w w') (hM:w.heap.size<=M):VOwn B' e c w' v n F:=
 h.keep hB fun g hg=>hb.block g (by have :=(h.lt hg).2;omega)
theorem VOwn.fr {B:Nat}{e:TypeId}{c:Nat}{w w':World}{v:Value}{n:Nat}{F:Nat->Nat->Value}{X:Nat->Prop}(h:VOwn B e c w v n F) (hf:Fr X w w') (hx:∀g,v.ownBlock=some g->¬X g):VOwn B e c w' v n F:=
 h.keep (Nat.le_refl _) fun g hg=>hf.block g (h.lt hg).2 (hx g hg)
theorem VOwn.alloc {B:Nat}{e:TypeId}{c:Nat}{w:World}{v:Value}{n:Nat}{F:Nat->Nat->Value}(h:VOwn B e c w v n F) (o:Obj):VOwn B e c (w.alloc o) v n F:=h.keep (Nat.le_refl _) fun g hg=>Below.heap_alloc w o g (h.lt hg).2
theorem VOwn.off {B:Nat}{e:TypeId}{c:Nat}{w:World}{v:Value}{n:Nat}{F:Nat->Nat->Value}(h:VOwn B e c w v n F) {q:Nat}{T:TypeId}{vs:Array Value}(hb:Box w q T vs) (hT:T≠e) {g:Nat}(hg:v.ownBlock=some g):g≠q:=by
 intro e'
 rcases h with⟨rfl,rfl⟩|⟨g',cap,cur,rfl,h2,h3,h4⟩
 ·
  simp[Value.ownBlock] at hg
 ·
  simp only[Value.ownBlock,Option.some.injEq] at hg
  subst hg
  subst e'
  have hb':w.heap[g']?=some (.cells vs T (0,0)):=hb
  have h3':w.heap[g']?=some (.cells cur e (0,0)):=h3
  rw[h3'] at hb'
  simp only[Option.some.injEq,Obj.cells.injEq] at hb'
  exact hT hb'.2.1.symm
theorem VOwn.set {B:Nat}{e:TypeId}{c:Nat}{w:World}{v:Value}{n:Nat}{F:Nat->Nat->Value}(h:VOwn B e c w v n F) {q:Nat}{T:TypeId}{vs:Array Value}(hb:Box w q T vs) (hT:T≠e) (j:Nat) (u:Value):VOwn B e c (w.setCell ⟨q,j,none⟩ u) v n F:=
 h.keep (Nat.le_refl _) fun g hg=>Below.heap_setCell w _ u g (h.off hb hT hg)
theorem VOwn.row {B:Nat}{e:TypeId}{c:Nat}{w:World}{v:Value}{n:Nat}{F:Nat->Nat->Value}(h:VOwn B e c w v n F):w.ownsRow B e c v n (vcells c n F):=by
 refine⟨vcells_len _ _ _,?_⟩
 rcases h with h|⟨g,cap,cur,h1,h2,h3,h4,h5,h6,h7⟩
 ·
  exact .inl h
 ·
  refine .inr ⟨g,cap,cur,h1,h2,h3,h4,h5,h6,List.ext_getElem? fun k=>?_⟩
  by_cases hk:k<n*c
  ·
   obtain⟨k1,k2,k3⟩:=vcells_spot hk
   rw[List.getElem?_take_of_lt hk,Array.getElem?_toList,<-k3,h7 _ k1 _ k2,vcells_at k1 k2]
  ·
   rw[List.getElem?_eq_none (by simp;omega),List.getElem?_eq_none (by rw[vcells_len];omega)]
theorem VOwn.of_row {B:Nat}{e:TypeId}{c:Nat}{w:World}{v:Value}{n:Nat}{F:Nat->Nat->Value}(h:w.ownsRow B e c v n (vcells c n F)):VOwn B e c w v n F:=by
 obtain⟨_,h|⟨g,cap,cur,h1,h2,h3,h4,h5,h6,h7⟩⟩:=h
 ·
  exact .inl h
 ·
  refine .inr ⟨g,cap,cur,h1,h2,h3,h4,h5,h6,fun i hi j hj=>?_⟩
  have hk:i*c+j<n*c:=by
   have h1:=Nat.mul_le_mul_right c (show i+1<=n by omega)
   rw[Nat.succ_mul] at h1
   omega
  have :=vcells_at (F:=F) hi hj
  rw[<-h7,List.getElem?_take_of_lt hk,Array.getElem?_toList] at this
  exact this
def upd (F:Nat->Nat->Value) (i j:Nat) (u:Value):Nat->Nat->Value:=fun i' j'=>if i'=i/\j'=j then u else F i' j'
theorem flat_ne {c i j i' j':Nat}(hj:j<c) (hj':j'<c) (h:¬(i'=i/\j'=j)):i*c+j≠i'*c+j':=by
 intro e
 rcases Nat.lt_trichotomy i i' with h1|h1|h1
 ·
  have h2:=Nat.mul_le_mul_right c (show i+1<=i' by omega)
  rw[Nat.succ_mul] at h2
  omega
 ·
  subst h1
  exact h ⟨rfl,by omega⟩
 ·
  have h2:=Nat.mul_le_mul_right c (show i'+1<=i by omega)
  rw[Nat.succ_mul] at h2
  omega
theorem VOwn.store {B:Nat}{e:TypeId}{c:Nat}{w:World}{g cap n:Nat}{F:Nat->Nat->Value}(h:VOwn B e c w (.slice (some ⟨g,0,none⟩) n cap) n F) {i j:Nat}(hi:i<n) (hj:j<c) (u:Value):
  VOwn B e c (w.setCell ⟨g,i*c+j,none⟩ u) (.slice (some ⟨g,0,none⟩) n cap) n (upd F i j u):=by
 rcases h with⟨h1,rfl⟩|⟨g',cp,cur,h1,h2,h3,h4,h5,h6,h7⟩
 ·
  omega
 ·
  simp only[Value.slice.injEq,Option.some.injEq,Addr.mk.injEq] at h1
  obtain⟨⟨rfl,_⟩,_,rfl⟩:=h1
  have hlt:i*c+j<cur.size:=by
   have q1:=Nat.mul_le_mul_right c (show i+1<=n by omega)
   have q2:=Nat.mul_le_mul_right c h4
   rw[Nat.succ_mul] at q1
   omega
  refine .inr ⟨g,cap,_,rfl,h2,h3.set _ u,h4,h5,by simpa using h6,fun i' hi' j' hj'=>?_⟩
  unfold upd
  by_cases hq:i'=i/\j'=j
  ·
   obtain⟨rfl,rfl⟩:=hq
   simp[hlt]
  ·
   have hne:=flat_ne hj hj' hq
   rw[if_neg hq,Array.getElem?_setIfInBounds,if_neg hne]
   exact h7 i' hi' j' hj'
theorem VOwn.cell {B:Nat}{e:TypeId}{c:Nat}{w:World}{g cap n:Nat}{F:Nat->Nat->Value}(h:VOwn B e c w (.slice (some ⟨g,0,none⟩) n cap) n F) {i j:Nat}(hi:i<n) (hj:j<c):w.cell? ⟨g,i*c+j,none⟩=some (F i j):=by
 obtain⟨b,off,h1,_,_,h2⟩:=h.vs (by omega)
 simp only[Option.some.injEq,Addr.mk.injEq] at h1
 obtain⟨rfl,rfl,_⟩:=h1
 have :=h2 i hi j hj
 rwa [Nat.zero_add] at this
theorem VOwn.free {B:Nat}{e:TypeId}{c:Nat}{w:World}{g cap n:Nat}{F:Nat->Nat->Value}(h:VOwn B e c w (.slice (some ⟨g,0,none⟩) n cap) n F) (o:Nat):w.frozen? ⟨g,o,none⟩=false:=by
 rcases h with⟨h1,rfl⟩|⟨g',cp,cur,h1,h2,h3,h4,h5,h6,h7⟩
 ·
  cases h1
 ·
  simp only[Value.slice.injEq,Option.some.injEq,Addr.mk.injEq] at h1
  obtain⟨⟨rfl,_⟩,_,rfl⟩:=h1
  exact h3.free o
theorem VOwn.addr {B:Nat}{e:TypeId}{c:Nat}{w:World}{a:Option Addr}{cap n:Nat}{F:Nat->Nat->Value}(h:VOwn B e c w (.slice a n cap) n F) (h0:0<n):∃g,a=some ⟨g,0,none⟩/\B<=g/\g<w.heap.size:=by
 rcases h with⟨_,rfl⟩|⟨g,cp,cur,h1,h2,h3,_⟩
 ·
  omega
 ·
  simp only[Value.slice.injEq] at h1
  exact⟨g,h1.1,h2,h3.lt⟩
def VTo (c:Nat) (e:TypeId) (w:World) (B n p:Nat) (F:Nat->Nat->Value):Prop:=
 ∃f,w.rowIs B e (n*c) f/\∀q,q<p->f q=F (q / c) (q%c)
theorem VTo.step {c:Nat}{e:TypeId}{w:World}{B n p:Nat}{F:Nat->Nat->Value}(h:VTo c e w B n p F) {x:Value}(hx:F (p / c) (p%c)=x):VTo c e (w.setCell ⟨B,p,none⟩ x) B n (p+1) F:=by
 obtain⟨f,hr,hf⟩:=h
 refine⟨_,hr.set _ _,fun q hq=>?_⟩
 by_cases e:q=p
 ·
  subst e
  simp[hx]
 ·
  simp only[e,if_false]
  exact hf q (by omega)
theorem VTo.below {c:Nat}{e:TypeId}{w w':World}{B n p:Nat}{F:Nat->Nat->Value}(h:VTo c e w B n p F) (hb:Below w.heap.size w w'):VTo c e w' B n p F:=by
 obtain⟨f,hr,hf⟩:=h
 exact⟨f,hr.of_block (hb.block B hr.lt),hf⟩
theorem VTo.own {c:Nat}{e:TypeId}{w:World}{b n:Nat}{F:Nat->Nat->Value}(h:VTo c e w b n (n*c) F) (hn:n<=maxLen):VOwn b e c w (.slice (some ⟨b,0,none⟩) n n) n F:=by
 obtain⟨f,⟨cur,h1,h2,h3⟩,hf⟩:=h
 refine .inr ⟨b,n,cur,rfl,Nat.le_refl _,h1,Nat.le_refl _,hn,h2,fun i hi j hj=>?_⟩
 have hk:i*c+j<n*c:=by
  have h1:=Nat.mul_le_mul_right c (show i+1<=n by omega)
  rw[Nat.succ_mul] at h1
  omega
 have hc:0<c:=by omega
 rw[h3 _ hk,hf _ hk,show(i*c+j) / c=i by rw[Nat.mul_comm,Nat.mul_add_div hc,Nat.div_eq_of_lt hj,Nat.add_zero],show(i*c+j)%c=j by rw[Nat.mul_comm,Nat.mul_add_mod,Nat.mod_eq_of_lt hj]]
theorem VTo.new (c:Nat) (e:TypeId) (w:World) (z:Value) (n:Nat) (F:Nat->Nat->Value):VTo c e (w.alloc (.cells (mk0 z (n*c)) e)) w.heap.size n 0 F:=by
 obtain⟨f,hf⟩:=row_mk0 w z (n*c) e
 exact⟨f,hf,fun q hq=>absurd hq (Nat.not_lt_zero _)⟩
theorem szL_pos {left:Int}{n:Nat}(h:¬szL left n<0):(n:Int)<=left/\szL left n=left-n:=by
 unfold szL at h⊢
 split at h<;>split<;>omega
end Go.Proofs.YtkeilejbelblcaaGreatDoor
