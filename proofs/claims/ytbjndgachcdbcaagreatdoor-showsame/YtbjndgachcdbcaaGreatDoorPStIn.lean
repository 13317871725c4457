import Derived.Test.YtbjndgachcdbcaaGreatDoorXTabs2
import Derived.Test.YtbjndgachcdbcaaGreatDoorPModel
import Derived.Test.YtbjndgachcdbcaaGreatDoorLRow
import Derived.ChangeSame
import Derived.Deep.DeepHandedRow
import Derived.Deep.Slices
import Derived.JoinedOf
import Derived.JoinedCond
import Derived.SizedLaws
import Derived.MakeChecks
import Derived.Lay
import Derived.LaidOnce
namespace Go.Proofs.YtbjndgachcdbcaaGreatDoor
open Go.ChangeShapes Go.WideShapes Go.ChangeAt Go.RowKit
set_option maxRecDepth 100000
instance:Inhabited Vl:=⟨⟨0,0,[]⟩⟩
instance:Inhabited UJ:=⟨⟨0,0,0,[],[]⟩⟩
theorem Us {v:Value} {cs:List Value} {i:Nat} (h:(cs.drop i).take 1=[v]):cs[i]?=some v:=by
 have:=congrArg (fun l=>l[0]?) h
 simpa [List.getElem?_take,List.getElem?_drop] using this
theorem uJ (a:Addr):a.add 0=a:=by unfold Addr.add;simp
theorem uK {w:World} {a:Addr} {v:Value} (h:w.cell? a=some v):a.spot=none:=by
 unfold World.cell? at h
 split at h
 ·cases hs:a.spot with
  | none=>rfl
  | some x=>simp [hs] at h
 ·simp at h
theorem yu {H:Type} {d:DataW H}:∀{l:List (DataW H)},d∈l→Rows.uptoBulk d≤Rows.uptoBulkAll l
 | [],h=>by cases h
 | x::l,h=>by
  simp only [Rows.uptoBulkAll];rcases List.mem_cons.1 h with rfl | h
  ·omega
  ·have:=yu h;omega
theorem Xj {H:Type} {enc:TypeId × Value→H} {w:World} {fuel:Nat} {hd:Bool} {cs:List Value} {x:DataW H × List MemPlace} {t:TypeId} {fs:Array Field} {k:Nat} (hu:Tryz.prog.underlying t=some (.struct fs)) (hk:Tryz.prog.cellsOf t=k)
  (h:DataW.trod enc Tryz.prog w 0 (fun _=>true) hd fuel t cs=some x) :
  cs.length=k∧∃m,∀i f,fs[i]?=some f→Tryz.prog.cellsOf f.type=1→f.offset=i→i<k→∃u y,cs[i]?=some u∧DataW.trod enc Tryz.prog w 0 (fun _=>true) hd m f.type [u]=some y∧Rows.uptoBulk y.1≤Rows.uptoBulk x.1:=by
 obtain ⟨o,m,-,rfl,b,B,z⟩:=DataW.trod_struct hu h;rw [hk] at b;refine ⟨b,m,fun i f hf hc ho hi=>?_⟩
 have q:=z i f hf;rw [hc,ho] at q;have A:i<fs.size:=(Array.getElem?_eq_some_iff.1 hf).1;have e:i<o.length:=by omega
 rw [List.getElem?_eq_getElem e] at q
 obtain ⟨u,c⟩:∃u,(cs.drop i).take 1=[u]:=by
  match hd9:(cs.drop i).take 1,(show ((cs.drop i).take 1).length=1 by rw [List.length_take,List.length_drop];omega) with
  | [u],_=>exact ⟨u,rfl⟩
 rw [c] at q;refine ⟨u,o[i],Us c,q,?_⟩
 have:=yu (List.mem_map.2 ⟨o[i],List.getElem_mem e,rfl⟩:o[i].1∈o.map (·.1))
 simp only [Rows.uptoBulk];omega
def xP {α:Type} {H:Type} (enc:TypeId × Value→H) (w:World) (e:TypeId) (k:Nat) (E:World→Nat→Nat→α→Prop) (G:α→Prop):Prop :=
 ∀hd fuel cs x,DataW.trod enc Tryz.prog w 0 (fun _=>true) hd fuel e cs=some x→Rows.uptoBulk x.1≤1048576→cs.length=k∧∃a,G a∧∀b o,(∀q z,cs[q]?=some z→w.cell? ⟨b,o+q,none⟩=some z)→E w b o a
theorem Zu {α:Type} [Inhabited α] {H:Type} {enc:TypeId × Value→H} {w:World} {e t:TypeId} {k:Nat} {E:World→Nat→Nat→α→Prop} {G:α→Prop} {fuel:Nat} {v:Value} {x:DataW H × List MemPlace} {hd:Bool} (hu:Tryz.prog.underlying t=some (.slice e)) (hk:Tryz.prog.cellsOf e=k) (hk1:1≤k)
  (ho:xP enc w e k E G) (h:DataW.trod enc Tryz.prog w 0 (fun _=>true) hd fuel t [v]=some x) (hB:Rows.uptoBulk x.1≤1048576) :
  ∃l,rowIn (fun q=>q<w.heap.size) w v k E l∧(∀a∈l,G a)∧l.length≤1048576∧∃bb n cc,v=.slice bb n cc:=by
 rcases Deep.open_slice hu h with ⟨c,hx⟩ | ⟨a,len,V,m,n,D,Pl,c,-,hl,hm,X,hx,hr⟩
 ·simp at c
  subst c;exact ⟨[],⟨none,0,rfl,Nat.le_refl _,Nat.zero_le _,.inl rfl⟩,fun t h=>(by cases h),Nat.zero_le _,_,_,_,rfl⟩
 ·simp at c
  subst c;have ad:len≤m:=by split at X <;> omega
  have W:Rows.uptoBulkAll ((List.range len).map D)≤1048576:=by
   rw [hx] at hB;simp only [Rows.uptoBulk] at hB;omega
  have I:∀i,i<len→∃t:α,G t∧∃u:List Value,u.length=k∧(∀q z,u[q]?=some z→w.cell? (a.add (i*k+q))=some z)∧∀b o,(∀q z,u[q]?=some z→w.cell? ⟨b,o+q,none⟩=some z)→E w b o t:=fun i U=>by
   obtain ⟨u,M,h2⟩:=hr i (by omega)
   rw [hk] at M;obtain ⟨-,aa,F⟩:=World.cells?_some M;have ab:=yu (List.mem_map.2 ⟨i,List.mem_range.2 U,rfl⟩:D i∈(List.range len).map D);obtain ⟨J,t,hg,hE⟩:=ho _ _ _ _ h2 (by simp only;omega)
   refine ⟨t,hg,u,J,fun q z hz=>?_,hE⟩
   have hq:q<k:=by rw [←J];exact (List.getElem?_eq_some_iff.1 hz).1
   have:=F q (by omega)
   rw [Deep.add_add] at this;exact this.trans hz
  obtain ⟨f,hf⟩:=Deep.choose_lt I;have y:((List.range len).map f).length=len:=by simp
  refine ⟨(List.range len).map f,⟨some a,V,by rw [y],by rw [y];exact hl,hm,?_⟩,?_,?_,_,_,_,rfl⟩
  ·rcases Nat.eq_zero_or_pos len with O | O
   ·subst O;exact .inl rfl
   ·right
    obtain ⟨-,T,ag,R,-⟩:=hf 0 O;have A:=R 0 _ (List.getElem?_eq_getElem (show 0<T.length by omega))
    rw [Nat.zero_mul,Nat.add_zero,uJ] at A;have K:=uK A;have B:=World.block_lt_of_cell? w _ A;obtain ⟨b,o,sp⟩:=a;simp only at K B;subst K;refine ⟨b,o,rfl,B,B,fun j hj=>?_⟩
    rw [y] at hj;obtain ⟨-,af,ae,Z,Y⟩:=hf j hj;simp only [List.getElem_map,List.getElem_range];refine Y b (o+j*k) fun q z hz=>?_
    have:=Z q z hz
    rw [Zq] at this;rw [Nat.add_assoc];exact this
  ·intro t ht
   obtain ⟨i,U,rfl⟩:=List.mem_map.1 ht;exact (hf i (List.mem_range.1 U)).1
  ·rw [y]
   have M:=X6 ((List.range len).map D);rw [List.length_map,List.length_range] at M;omega
theorem Z8:Tryz.prog.cellsOf 9=1:=by kernel_rfl
theorem yK:Tryz.prog.cellsOf 3=1:=by kernel_rfl
theorem V2:Tryz.prog.cellsOf 26=1:=by kernel_rfl
theorem uL:Tryz.prog.cellsOf 23=1:=by kernel_rfl
theorem Ut:Tryz.prog.cellsOf 54=1:=by kernel_rfl
theorem Vr:Tryz.prog.cellsOf 47=1:=by kernel_rfl
theorem Xk:Tryz.prog.cellsOf 56=3:=by kernel_rfl
theorem vU:Tryz.prog.cellsOf 49=2:=by kernel_rfl
section
variable {H:Type} {enc:TypeId × Value→H} {w:World} {fuel:Nat} {hd:Bool} {u:Value} {y:DataW H × List MemPlace}
theorem zH {t:TypeId} (ht:Tryz.prog.underlying t=some (.int .i64)) (h:DataW.trod enc Tryz.prog w 0 (fun _=>true) hd fuel t [u]=some y):∃n,u=.int .i64 n∧V7 n:=by
 obtain ⟨n,a,-,c⟩:=DataW.trod_int ht h;simp only [List.cons.injEq,and_true] at a;exact ⟨n,a,UM c⟩
theorem zQ (h:DataW.trod enc Tryz.prog w 0 (fun _=>true) hd fuel 9 [u]=some y) (hB:Rows.uptoBulk y.1≤1048576):∃s:List UInt8,u=.string (za s)∧s.length≤1048576:=by
 obtain ⟨s,a,b,-⟩:=DataW.trod_string Tryz.underlying9 h;simp only [List.cons.injEq,and_true] at a;refine ⟨s.data.toList,by rw [a,Uq],?_⟩
 rw [b] at hB;simp only [Rows.uptoBulk] at hB;omega
end
section
variable {H:Type} {enc:TypeId × Value→H} {w:World}
theorem Yl:xP enc w 56 3 UK (fun v=>zr v∧V7 v.k):=fun hd fuel cs x h hB=>by
 obtain ⟨E,m,c⟩:=Xj Tryz.underlying56 Xk h;obtain ⟨u0,J,z,G,-⟩:=c 0 _ rfl Ut rfl (by omega)
 obtain ⟨u1,H,q,e,-⟩:=c 1 _ rfl yK rfl (by omega)
 obtain ⟨u2,K,B,A,I⟩:=c 2 _ rfl Z8 rfl (by omega)
 obtain ⟨u,rfl,F⟩:=zH Tryz.underlying54 G;obtain ⟨y,rfl,i1⟩:=zH Tryz.underlying3 e;obtain ⟨s,rfl,D⟩:=zQ A (by omega)
 exact ⟨E,⟨u,y,s⟩,⟨⟨i1,D⟩,F⟩,fun b o hc=>⟨hc 0 _ z,hc 1 _ q,hc 2 _ B⟩⟩
theorem V3:xP enc w 49 2 (uH (fun q=>q<w.heap.size)) YK:=fun hd fuel cs x h hB=>by
 obtain ⟨B,m,c⟩:=Xj Tryz.underlying49 vU h;obtain ⟨u0,H,z,D,F⟩:=c 0 _ rfl Z8 rfl (by omega)
 obtain ⟨u1,G,y,u,E⟩:=c 1 _ rfl Vr rfl (by omega)
 obtain ⟨s,rfl,A⟩:=zQ D (by omega)
 obtain ⟨l,r,g,e,-⟩:=Zu Tryz.underlying47 Xk (by omega) Yl u (by omega)
 exact ⟨B,(s,l),⟨A,g,e⟩,fun b o hc=>⟨hc 0 _ z,u1,hc 1 _ y,r⟩⟩
end
end Go.Proofs.YtbjndgachcdbcaaGreatDoor
