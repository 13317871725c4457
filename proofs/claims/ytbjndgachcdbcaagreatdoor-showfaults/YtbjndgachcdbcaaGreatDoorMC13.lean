import Derived.Test.YtbjndgachcdbcaaGreatDoorMC12
import Derived.Deep.RegionWith
namespace Go.Proofs.YtbjndgachcdbcaaGreatDoor
open Go.RowKit Go.Shelf
def xZ (os:List Ob) (v:Vl):Bool:=decide (v.k=4)&&zb v os.length
theorem XS {os:List Ob} {v:Vl} (h:xZ os v=true):∃i:Nat,i<os.length∧v=⟨4,i,[]⟩:=by
 unfold xZ at h
 rw [Bool.and_eq_true,decide_eq_true_eq] at h;obtain ⟨b,c⟩:=h;obtain ⟨k,n,s⟩:=v;simp only at b;subst b
 simp [zb] at c
 obtain ⟨⟨m,o⟩,e⟩:=c;refine ⟨n.toNat,by omega,?_⟩
 rw [e]
 congr 1
 omega
theorem Vb {os:List Ob} {v:Vl} (h:xZ os v=false):v.k≠4∨zb v os.length=false:=by
 unfold xZ at h
 rw [Bool.and_eq_false_iff,decide_eq_false_iff_not] at h;exact h
abbrev V1 (w:World) (v:Vl):World:=(w.alloc (.cells #[.int .i64 v.k,.int .i64 v.n,.string (za v.s)] 56)).alloc (.cells #[.int .i64 0,.int .i64 0,.string ⟨#[]⟩] 56)
abbrev V2 (w:World) (v x:Vl):World:=(w.alloc (.cells #[.int .i64 v.k,.int .i64 v.n,.string (za v.s)] 56)).alloc (.cells #[.int .i64 x.k,.int .i64 x.n,.string (za x.s)] 56)
def ZF:List Ob→Nat→Nat→Vl→List Ob
 | [],_,_,_=>[]
 | o::os,0,i,x=>(o.1,o.2.set i x)::os
 | o::os,j+1,i,x=>o::ZF os j i x
theorem ZX:∀(os:List Ob) (j i:Nat) (x:Vl),(ZF os j i x).length=os.length
 | [],_,_,_=>rfl
 | o::os,0,i,x=>rfl
 | o::os,j+1,i,x=>by rw [ZF,List.length_cons,List.length_cons,ZX]
theorem y7:∀(os:List Ob) (a j i:Nat) (x:Vl),Zx a (ZF os j i x)=Zx a os
 | [],_,_,_,_=>rfl
 | o::os,a,0,i,x=>by simp [ZF,Zx]
 | o::os,a,j+1,i,x=>by rw [ZF,Zx,Zx,y7]
theorem Z7:∀(os:List Ob) (j i:Nat) (x:Vl) (hj:j<os.length),i<(os[j]).2.length→zX (ZF os j i x)=(zX os).set (fromO os j+i) x
 | [],_,_,_,h,_=>by cases h
 | o::os,0,i,x,_,hi=>by
  have e:fromO (o::os) 0=0:=rfl;simp only [List.getElem_cons_zero] at hi;rw [ZF,zG,zG,e,Nat.zero_add,List.set_append_left _ _ hi]
 | o::os,j+1,i,x,hj,hi=>by
  have e:fromO (o::os) (j+1)=o.2.length+fromO os j:=by unfold fromO;rw [List.take_succ_cons,zG,List.length_append]
  have b:=Z7 os j i x (by simpa using hj) (by simpa using hi)
  rw [ZF,zG,zG,e,b,List.set_append_right _ _ (by omega)]
  congr 2
  omega
theorem YL:∀(os:List Ob) (j i:Nat) (x:Vl) (o:Ob),o∈ZF os j i x→o∈os∨∃o'∈os,o=(o'.1,o'.2.set i x)
 | [],_,_,_,_,h=>by cases h
 | p::os,0,i,x,o,h=>by
  rw [ZF] at h;rcases List.mem_cons.1 h with h | h
  ·exact .inr ⟨p,List.mem_cons_self,h⟩
  ·exact .inl (List.mem_cons_of_mem _ h)
 | p::os,j+1,i,x,o,h=>by
  rw [ZF] at h;rcases List.mem_cons.1 h with h | h
  ·subst h;exact .inl List.mem_cons_self
  ·rcases YL os j i x o h with h | ⟨o',b,c⟩
   ·exact .inl (List.mem_cons_of_mem _ h)
   ·exact .inr ⟨o',List.mem_cons_of_mem _ b,c⟩
theorem XC:∀(l:List Vl) (i:Nat) (x:Vl),i<l.length→(((Zp l).set (i*3) (.int .i64 x.k)).set (i*3+1) (.int .i64 x.n)).set (i*3+2) (.string (za x.s))=Zp (l.set i x)
 | [],_,_,h=>by cases h
 | v::l,0,x,_=>by simp [Zp,YH]
 | v::l,i+1,x,h=>by
  have o:=XC l i x (by simpa using h)
  have e:Zp (v::l)=YH v++Zp l:=rfl;have u:Zp ((v::l).set (i+1) x)=YH v++Zp (l.set i x):=rfl
  have b:∀(c:List Value) (q:Nat) (a:Value),(YH v++c).set ((i+1)*3+q) a=YH v++c.set (i*3+q) a:=fun c q a=>by
   rw [List.set_append_right _ _ (by simp [YH];omega)]
   congr 2
   simp [YH]
   omega
  have m:=b (Zp l) 0 (.int .i64 x.k);simp only [Nat.add_zero] at m;rw [e,u,m,b,b,o]
theorem vw {w:World} {e n g cp:Nat} {l:List Vl} (h:w.ownsRow 0 e 3 (.slice (some ⟨g,0,none⟩) n cp) n (Zp l)) (i:Nat) (hi:i<l.length) (x:Vl) :
  (((w.setCell ⟨g,i*3,none⟩ (.int .i64 x.k)).setCell ⟨g,i*3+1,none⟩ (.int .i64 x.n)).setCell ⟨g,i*3+2,none⟩ (.string (za x.s))).ownsRow 0 e 3 (.slice (some ⟨g,0,none⟩) n cp) n (Zp (l.set i x)):=by
 refine ⟨by rw [XA,List.length_set,←XA];exact h.1,?_⟩
 rcases h.2 with ⟨b,_⟩ | ⟨B,u,c,b,q,o,A,z,m,y⟩
 ·cases b
 ·simp only [Value.slice.injEq,Option.some.injEq,Addr.mk.injEq] at b
  obtain ⟨⟨rfl,-,-⟩,-,rfl⟩:=b;refine .inr ⟨g,cp,_,rfl,q,zn _ (zn _ (zn _ o)),A,z,by simpa using m,?_⟩
  rw [←XC l i x hi,←y]
  simp [List.take_set]
theorem zA.set {S:Nat→Prop} {w:World} {most:Nat} {os:List Ob} {h g n cp:Nat} {vo:Value} (H:zA S w most os h vo (.slice (some ⟨g,0,none⟩) n cp)) (j i:Nat) (hj:j<os.length) (hi:i<(os[j]).2.length) (x:Vl) (hx:vt x os.length=true) (hs:zv x) :
  zA S (((w.setCell ⟨g,fromO os j*3+i*3,none⟩ (.int .i64 x.k)).setCell ⟨g,fromO os j*3+i*3+1,none⟩ (.int .i64 x.n)).setCell ⟨g,fromO os j*3+i*3+2,none⟩ (.string (za x.s))) most (ZF os j i x) h vo (.slice (some ⟨g,0,none⟩) n cp):=by
 have y:=H.apart;obtain ⟨F,-⟩:=ZU os j hj
 have E:n=(zX os).length:=by
  obtain ⟨b,c,m,-,-⟩:=yi H.cells;simp only [Value.slice.injEq] at m;exact m.2.1
 subst E
 have q:∀k,k≠g→(((w.setCell ⟨g,fromO os j*3+i*3,none⟩ (.int .i64 x.k)).setCell ⟨g,fromO os j*3+i*3+1,none⟩ (.int .i64 x.n)).setCell ⟨g,fromO os j*3+i*3+2,none⟩ (.string (za x.s))).heap[k]?=w.heap[k]?:=fun k hk=>by
  rw [Below.heap_setCell _ _ _ _ (by simpa using hk),Below.heap_setCell _ _ _ _ (by simpa using hk),Below.heap_setCell _ _ _ _ (by simpa using hk)]
 refine ⟨?_,?_,?_,H.sh,H.so,H.sc,?_,?_,H.may⟩
 ·rw [q h (fun e=>y.2.1 (by rw [e];rfl))];exact H.blk
 ·rw [ZX,y7]
  exact zm H.objs fun k hk _=>q k fun e=>y.2.2 k hk (by rw [e];rfl)
 ·rw [Z7 os j i x hj hi,List.length_set]
  have D:=vw H.cells (fromO os j+i) (by omega) x
  rw [Nat.add_mul] at D;exact D
 ·intro o B
  rw [ZX];rcases YL os j i x o B with B | ⟨o',A,rfl⟩
  ·exact H.ok o B
  ·have u:=H.ok o' A
   refine ⟨?_,u.2.1,fun v m=>?_⟩
   ·have z:=u.1
    unfold VP at z ⊢
    rw [Bool.and_eq_true,List.all_eq_true] at z ⊢;refine ⟨fun v m=>?_,z.2⟩
    rcases List.mem_or_eq_of_mem_set m with m | rfl
    ·exact z.1 v m
    ·exact hx
   ·rcases List.mem_or_eq_of_mem_set m with m | rfl
    ·exact u.2.2 v m
    ·exact hs
 ·rw [ZX,Z7 os j i x hj hi,List.length_set];exact H.use
end Go.Proofs.YtbjndgachcdbcaaGreatDoor
