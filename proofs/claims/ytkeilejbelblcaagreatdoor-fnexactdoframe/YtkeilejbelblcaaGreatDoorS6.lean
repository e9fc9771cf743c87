import Derived.Test.YtkeilejbelblcaaGreatDoorJbf
import Derived.Ground.NamesProg
import Derived.Shelf.Sort.Plain
import Derived.Shelf.Slices.In.SortNone
import Derived.Shelf.Lay
import Derived.Sort.OwnSortedInts
namespace Go.Proofs
open Go.Shelf
shelf_lay Lays.n189 Nm 189 at Tryz as Tryz.lays189
end Go.Proofs
namespace Go.Proofs.YtkeilejbelblcaaGreatDoor
open Go.RowKit Go.Lib Go.Shelf Go.Sort
theorem vcells_ints (m:Nat) (D:Nat->Int):vcells 1 m (oneF D)=(toL m D).map (Value.int .i64):=by
 induction m with
 |zero=>rfl
 |succ n ih=>
  have e:toL (n+1) D=toL n D++ [D n]:=by simp[toL,List.range_succ]
  rw[vcells_succ,ih,e,List.map_append]
  rfl
theorem sortV (B:Nat) (a:Option Addr) (m c:Nat) (D E:Nat->Int) (w:World) (h:VOwn B 3 1 w (.slice a m c) m (oneF D)) (hm:m<=2097152) (hE:(toL m D).mergeSort (fun x y=>decide (x<=y))=toL m E):
  Calls Tryz.prog 150 #[.slice a m c] w fun e w'=>e=.returned (.tuple #[])/\VOwn B 3 1 w' (.slice a m c) m (oneF E)/\Fr (fun b=>(Value.slice a m c).ownBlock=some b) w w':=by
 rcases h.row.2 with⟨hv,h0⟩|⟨g,cap,cur,hv,hg,hb,h1,h2,h3,h4⟩
 ·
  cases hv
  refine(Any.slices_Sort_int_none Tryz.lays189 none 0 w).mono ?_
  rintro e w' ⟨rfl,hw⟩
  have hw:=hw.symm
  subst hw
  exact⟨rfl,VOwn.nil _ _ _ _ _,Fr.refl _ _⟩
 ·
  cases hv
  have hlen:(toL m D).length=m:=toL_length m D
  have ht:cur.toList.take (toL m D).length=(toL m D).map (Value.int .i64):=by
   rw[hlen,<-vcells_ints,<-h4,Nat.mul_one]
  have hH:=holds_of_blockI hb ht
  have hlt:g<w.heap.size:=(Array.getElem?_eq_some_iff.1 hb).1
  have hc:=Any.slices_Sort_int Tryz.lays189 g 0 c (toL m D) w hH hlt (by rw[hlen];omega)
  rw[hlen,hE] at hc
  refine hc.mono ?_
  rintro e w' ⟨rfl,n,os,rfl⟩
  refine⟨rfl,VOwn.of_row ?_,?_⟩
  ·
   rw[vcells_ints]
   have :=ownsRow_sortedI (w:=w) (base:=B) (g:=g) (cap:=c) (n:=n) (e:=3) (os:=os) (cur:=cur) (ss:=toL m D) (ts:=toL m E) (by rw[toL_length,toL_length]) hg hb (by rw[hlen];exact h1) h2 h3
   rw[hlen] at this
   exact this
  ·
   have hq:=grownBy_sortedI (w:=w) (g:=g) (n:=n) (os:=os) (toL m E).toArray
   exact⟨hq.os,hq.tape,hq.output,hq.size,fun k hk hne=>hq.block k hk fun e=>hne e.symm⟩
end Go.Proofs.YtkeilejbelblcaaGreatDoor
