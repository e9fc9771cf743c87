import Derived.Test.YtkeilejbelblcaaGreatDoorJbg
import Derived.Test.YtkeilejbelblcaaGreatDoorJaz
import Derived.Test.YtkeilejbelblcaaGreatDoorJba
import Derived.Test.YtkeilejbelblcaaGreatDoorK7
import Derived.Test.YtkeilejbelblcaaGreatDoorGSaH5
namespace Go.Proofs.YtkeilejbelblcaaGreatDoor
open Go.RowKit Go.Lib
def agB (p:Pl) (f:Fm) (x k:Nat):Bool:=decide (k≠x)&&(decide ((f.Y k).st≠0)&&(p.T x k||(meetF (p.Y x).S (p.Y x).ns (p.Y k).O (p.Y k).no||meetF (p.Y x).O (p.Y x).no (p.Y k).S (p.Y k).ns)))
theorem vs_one {W:World}{uq:Nat}{k:Int}(h:Box W uq 3 #[.int .i64 k]):VsAt 1 0 W (some (ad uq 0)) 1 (oneF fun _=>k):=fun _=>by
 refine⟨uq,0,rfl,Nat.zero_le _,h.lt,fun i hi j hj=>?_⟩
 have e1:i=0:=by omega
 have e2:j=0:=by omega
 subst e1 e2
 exact h.cell 0
theorem meet_one (s:Int) (S:Nat->Int) (n:Nat):meetF (fun _=>s) 1 S n=anyB (fun j=>decide (S j=s)) n:=by
 have h1:∀u:Bool,anyB (fun(_:Nat)=>u) 1=u:=fun u=>by cases u<;>rfl
 exact(h1 _).trans (anyB_congr fun j _=>by simp[eq_comm])
def cd2 (cd:Int):Nat->Int
 |0=>cd
 |_+1=>if cd=0 then 4 else cd
theorem cd2_zero {cd:Int}{m:Nat}(h:cd2 cd m=0):cd2 cd (m+1)=4:=by
 cases m with
 |zero=>have h:cd=0:=h;simp[cd2,h]
 |succ m=>
  simp only[cd2] at h⊢
  by_cases c:cd=0<;>simp[c] at h
theorem cd2_same {cd:Int}{m:Nat}(h:cd2 cd m≠0):cd2 cd (m+1)=cd2 cd m:=by
 cases m with
 |zero=>have h:cd≠0:=h;simp[cd2,h]
 |succ m=>rfl
def cd1:Nat->Int
 |0=>0
 |_+1=>3
def lieN (C:Nat->Nat->Int) (k:Nat):Nat->Int
 |0=>0
 |n+1=>if C n 0=(k:Int) then C n 1 else lieN C k n
theorem lieN_loyes {y:Wy}{k i:Nat}(hi:i<y.nl) (h:y.L i 0=(k:Int)):lieN (cat y.nl y.L y.F) k (0+i+1)=y.L i 1:=by
 rw[Nat.zero_add]
 simp[lieN,cat,hi,h]
theorem lieN_lono {y:Wy}{k i:Nat}(hi:i<y.nl) (h:y.L i 0≠(k:Int)):lieN (cat y.nl y.L y.F) k (0+i+1)=lieN (cat y.nl y.L y.F) k (0+i):=by
 rw[Nat.zero_add]
 simp[lieN,cat,hi,h]
theorem lieN_hiyes {y:Wy}{k i:Nat}(h:y.F i 0=(k:Int)):lieN (cat y.nl y.L y.F) k (y.nl+i+1)=y.F i 1:=by
 simp[lieN,cat,h,show¬(y.nl+i<y.nl) by omega]
theorem lieN_hino {y:Wy}{k i:Nat}(h:y.F i 0≠(k:Int)):lieN (cat y.nl y.L y.F) k (y.nl+i+1)=lieN (cat y.nl y.L y.F) k (y.nl+i):=by
 simp[lieN,cat,h,show¬(y.nl+i<y.nl) by omega]
def wnF (p:Pl) (f:Fm) (k:Nat):Bool:=decide (0<selN (fun i=>wantsB p f i k) p.ny)
def swB (p:Pl) (f:Fm) (x k:Nat):Bool:=decide (lieN (cat (p.Y x).nl (p.Y x).L (p.Y x).F) k ((p.Y x).nl+(p.Y x).nf)≠0)&&(decide (lieN (cat (p.Y x).nl (p.Y x).L (p.Y x).F) k ((p.Y x).nl+(p.Y x).nf)≠f.P k 0)&&(wnF p f k||f.O (p.W k).toNat))
def hdF (q wn:Nat->Bool):Nat->Int
 |0=>0
 |n+1=>if q n then(if wn n then 5 else if hdF q wn n=0 then 6 else hdF q wn n) else hdF q wn n
theorem hdF_no {q wn:Nat->Bool}{n:Nat}(h:q n=false):hdF q wn (n+1)=hdF q wn n:=by simp[hdF,h]
theorem hdF_yes {q wn:Nat->Bool}{n:Nat}(h:q n=true) (h2:wn n=true):hdF q wn (n+1)=5:=by simp[hdF,h,h2]
theorem hdF_six {q wn:Nat->Bool}{n:Nat}(h:q n=true) (h2:wn n=false) (h3:hdF q wn n=0):hdF q wn (n+1)=6:=by simp[hdF,h,h2,h3]
theorem hdF_same {q wn:Nat->Bool}{n:Nat}(h:q n=true) (h2:wn n=false) (h3:hdF q wn n≠0):hdF q wn (n+1)=hdF q wn n:=by simp[hdF,h,h2,h3]
def cdE (p:Pl) (f:Fm) (x:Nat):Int:=if cd2 (cd1 (selN (fun k=>agB p f x k) p.ny)) (selN (scQ p f.O x) f.no)=0 then hdF (swB p f x) (wnF p f) p.nw else cd2 (cd1 (selN (fun k=>agB p f x k) p.ny)) (selN (scQ p f.O x) f.no)
def SpR (w:World) (p:Pl) (f:Fm) (x:Nat) (e:Ending) (w':World):Prop:=
 ∃a1 c1 a2 c2 a3 c3,e=.returned (.tuple #[.agg #[.slice a1 (selN (fun k=>agB p f x k) p.ny) c1,.slice a2 (selN (scQ p f.O x) f.no) c2,.slice a3 (selN (swB p f x) p.nw) c3],.int .i64 (cdE p f x)])∧
  VOwn w.heap.size 3 1 w' (.slice a1 (selN (fun k=>agB p f x k) p.ny) c1) (selN (fun k=>agB p f x k) p.ny) (oneF (selD (fun k=>agB p f x k) p.ny))∧
  VOwn w.heap.size 3 1 w' (.slice a2 (selN (scQ p f.O x) f.no) c2) (selN (scQ p f.O x) f.no) (oneF (selD (scQ p f.O x) f.no))∧
  VOwn w.heap.size 3 1 w' (.slice a3 (selN (swB p f x) p.nw) c3) (selN (swB p f x) p.nw) (oneF (selD (swB p f x) p.nw))/\Below w.heap.size w w'
end Go.Proofs.YtkeilejbelblcaaGreatDoor
