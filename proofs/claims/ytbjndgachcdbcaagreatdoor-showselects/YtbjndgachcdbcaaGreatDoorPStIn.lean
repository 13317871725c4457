import Derived.Test.YtbjndgachcdbcaaGreatDoorXTabs2
import Derived.Test.YtbjndgachcdbcaaGreatDoorPModel
import Derived.Test.YtbjndgachcdbcaaGreatDoorLRow
import Derived.ChangeSame
import Derived.Deep.DeepHandedRow
import Derived.Deep.Slices
import Derived.JoinedOf
import Derived.JoinedCond
import Derived.SizedLaws
import Derived.MakeChecks
import Derived.Lay
import Derived.LaidOnce
namespace Go.Proofs.YtbjndgachcdbcaaGreatDoor
open Go.ChangeShapes Go.WideShapes Go.ChangeAt Go.RowKit
set_option maxRecDepth 100000
instance:Inhabited Vl:=⟨⟨0,0,[]⟩⟩
instance:Inhabited Uf:=⟨⟨0,0,0,[],[]⟩⟩
theorem uO {v:Value} {cs:List Value} {i:Nat} (h:(cs.drop i).take 1=[v]):cs[i]?=some v:=by
 have:=congrArg (fun l=>l[0]?) h
 simpa [List.getElem?_take,List.getElem?_drop] using this
theorem V9 (a:Addr):a.add 0=a:=by unfold Addr.add;simp
theorem ub {w:World} {a:Addr} {v:Value} (h:w.cell? a=some v):a.spot=none:=by
 unfold World.cell? at h
 split at h
 ·cases hs:a.spot with
  | none=>rfl
  | some x=>simp [hs] at h
 ·simp at h
theorem yi {H:Type} {d:DataW H}:∀{l:List (DataW H)},d∈l→Rows.uptoBulk d≤Rows.uptoBulkAll l
 | [],h=>by cases h
 | x::l,h=>by
  simp only [Rows.uptoBulkAll];rcases List.mem_cons.1 h with rfl | h
  ·omega
  ·have:=yi h;omega
theorem XE {H:Type} {enc:TypeId × Value→H} {w:World} {fuel:Nat} {hd:Bool} {cs:List Value} {x:DataW H × List MemPlace} {t:TypeId} {fs:Array Field} {k:Nat} (hu:Tryz.prog.underlying t=some (.struct fs)) (hk:Tryz.prog.cellsOf t=k)
  (h:DataW.trod enc Tryz.prog w 0 (fun _=>true) hd fuel t cs=some x) :
  cs.length=k∧∃m,∀i f,fs[i]?=some f→Tryz.prog.cellsOf f.type=1→f.offset=i→i<k→∃u y,cs[i]?=some u∧DataW.trod enc Tryz.prog w 0 (fun _=>true) hd m f.type [u]=some y∧Rows.uptoBulk y.1≤Rows.uptoBulk x.1:=by
 obtain ⟨e,m,-,rfl,b,B,z⟩:=DataW.trod_struct hu h;rw [hk] at b;refine ⟨b,m,fun i f hf hc ho hi=>?_⟩
 have q:=z i f hf;rw [hc,ho] at q;have A:i<fs.size:=(Array.getElem?_eq_some_iff.1 hf).1;have c:i<e.length:=by omega
 rw [List.getElem?_eq_getElem c] at q
 obtain ⟨u,o⟩:∃u,(cs.drop i).take 1=[u]:=by
  match hd9:(cs.drop i).take 1,(show ((cs.drop i).take 1).length=1 by rw [List.length_take,List.length_drop];omega) with
  | [u],_=>exact ⟨u,rfl⟩
 rw [o] at q;refine ⟨u,e[i],uO o,q,?_⟩
 have:=yi (List.mem_map.2 ⟨e[i],List.getElem_mem c,rfl⟩:e[i].1∈e.map (·.1))
 simp only [Rows.uptoBulk];omega
def xw {α:Type} {H:Type} (enc:TypeId × Value→H) (w:World) (e:TypeId) (k:Nat) (E:World→Nat→Nat→α→Prop) (G:α→Prop):Prop :=
 ∀hd fuel cs x,DataW.trod enc Tryz.prog w 0 (fun _=>true) hd fuel e cs=some x→Rows.uptoBulk x.1≤1048576→cs.length=k∧∃a,G a∧∀b o,(∀q z,cs[q]?=some z→w.cell? ⟨b,o+q,none⟩=some z)→E w b o a
theorem ZT {α:Type} [Inhabited α] {H:Type} {enc:TypeId × Value→H} {w:World} {e t:TypeId} {k:Nat} {E:World→Nat→Nat→α→Prop} {G:α→Prop} {fuel:Nat} {v:Value} {x:DataW H × List MemPlace} {hd:Bool} (hu:Tryz.prog.underlying t=some (.slice e)) (hk:Tryz.prog.cellsOf e=k) (hk1:1≤k)
  (ho:xw enc w e k E G) (h:DataW.trod enc Tryz.prog w 0 (fun _=>true) hd fuel t [v]=some x) (hB:Rows.uptoBulk x.1≤1048576) :
  ∃l,rowIn (fun q=>q<w.heap.size) w v k E l∧(∀a∈l,G a)∧l.length≤1048576∧∃bb n cc,v=.slice bb n cc:=by
 rcases Deep.open_slice hu h with ⟨c,hx⟩ | ⟨a,len,V,m,n,D,Pl,c,-,hl,hm,O,hx,hr⟩
 ·simp at c
  subst c;exact ⟨[],⟨none,0,rfl,Nat.le_refl _,Nat.zero_le _,.inl rfl⟩,fun t h=>(by cases h),Nat.zero_le _,_,_,_,rfl⟩
 ·simp at c
  subst c;have ae:len≤m:=by split at O <;> omega
  have T:Rows.uptoBulkAll ((List.range len).map D)≤1048576:=by
   rw [hx] at hB;simp only [Rows.uptoBulk] at hB;omega
  have K:∀i,i<len→∃t:α,G t∧∃u:List Value,u.length=k∧(∀q z,u[q]?=some z→w.cell? (a.add (i*k+q))=some z)∧∀b o,(∀q z,u[q]?=some z→w.cell? ⟨b,o+q,none⟩=some z)→E w b o t:=fun i Y=>by
   obtain ⟨u,M,h2⟩:=hr i (by omega)
   rw [hk] at M;obtain ⟨-,ab,F⟩:=World.cells?_some M;have af:=yi (List.mem_map.2 ⟨i,List.mem_range.2 Y,rfl⟩:D i∈(List.range len).map D);obtain ⟨J,t,hg,hE⟩:=ho _ _ _ _ h2 (by simp only;omega)
   refine ⟨t,hg,u,J,fun q z hz=>?_,hE⟩
   have hq:q<k:=by rw [←J];exact (List.getElem?_eq_some_iff.1 hz).1
   have:=F q (by omega)
   rw [Deep.add_add] at this;exact this.trans hz
  obtain ⟨f,U⟩:=Deep.choose_lt K;have y:((List.range len).map f).length=len:=by simp
  refine ⟨(List.range len).map f,⟨some a,V,by rw [y],by rw [y];exact hl,hm,?_⟩,?_,?_,_,_,_,rfl⟩
  ·rcases Nat.eq_zero_or_pos len with W | W
   ·subst W;exact .inl rfl
   ·right
    obtain ⟨-,aa,ad,X,-⟩:=U 0 W;have B:=X 0 _ (List.getElem?_eq_getElem (show 0<aa.length by omega))
    rw [Nat.zero_mul,Nat.add_zero,V9] at B;have I:=ub B;have A:=World.block_lt_of_cell? w _ B;obtain ⟨b,o,sp⟩:=a;simp only at I A;subst I;refine ⟨b,o,rfl,A,A,fun j hj=>?_⟩
    rw [y] at hj;obtain ⟨-,ah,ag,R,Z⟩:=U j hj;simp only [List.getElem_map,List.getElem_range];refine Z b (o+j*k) fun q z hz=>?_
    have:=R q z hz
    rw [yb] at this;rw [Nat.add_assoc];exact this
  ·intro t ht
   obtain ⟨i,Y,rfl⟩:=List.mem_map.1 ht;exact (U i (List.mem_range.1 Y)).1
  ·rw [y]
   have M:=V8 ((List.range len).map D);rw [List.length_map,List.length_range] at M;omega
theorem Z7:Tryz.prog.cellsOf 9=1:=by kernel_rfl
theorem yE:Tryz.prog.cellsOf 3=1:=by kernel_rfl
theorem Vt:Tryz.prog.cellsOf 26=1:=by kernel_rfl
theorem uc:Tryz.prog.cellsOf 23=1:=by kernel_rfl
theorem uP:Tryz.prog.cellsOf 54=1:=by kernel_rfl
theorem uQ:Tryz.prog.cellsOf 47=1:=by kernel_rfl
theorem vg:Tryz.prog.cellsOf 56=3:=by kernel_rfl
theorem ud:Tryz.prog.cellsOf 49=2:=by kernel_rfl
section
variable {H:Type} {enc:TypeId × Value→H} {w:World} {fuel:Nat} {hd:Bool} {u:Value} {y:DataW H × List MemPlace}
theorem zD {t:TypeId} (ht:Tryz.prog.underlying t=some (.int .i64)) (h:DataW.trod enc Tryz.prog w 0 (fun _=>true) hd fuel t [u]=some y):∃n,u=.int .i64 n∧Vy n:=by
 obtain ⟨n,a,-,c⟩:=DataW.trod_int ht h;simp only [List.cons.injEq,and_true] at a;exact ⟨n,a,V6 c⟩
theorem zU (h:DataW.trod enc Tryz.prog w 0 (fun _=>true) hd fuel 9 [u]=some y) (hB:Rows.uptoBulk y.1≤1048576):∃s:List UInt8,u=.string (za s)∧s.length≤1048576:=by
 obtain ⟨s,a,b,-⟩:=DataW.trod_string Tryz.underlying9 h;simp only [List.cons.injEq,and_true] at a;refine ⟨s.data.toList,by rw [a,uM],?_⟩
 rw [b] at hB;simp only [Rows.uptoBulk] at hB;omega
end
section
variable {H:Type} {enc:TypeId × Value→H} {w:World}
theorem xx:xw enc w 56 3 Ug (fun v=>zq v∧Vy v.k):=fun hd fuel cs x h hB=>by
 obtain ⟨u,m,c⟩:=XE Tryz.underlying56 vg h;obtain ⟨u0,J,z,B,-⟩:=c 0 _ rfl uP rfl (by omega)
 obtain ⟨u1,M,H,e,-⟩:=c 1 _ rfl yE rfl (by omega)
 obtain ⟨u2,I,G,D,K⟩:=c 2 _ rfl Z7 rfl (by omega)
 obtain ⟨q,rfl,A⟩:=zD Tryz.underlying54 B;obtain ⟨E,rfl,y⟩:=zD Tryz.underlying3 e;obtain ⟨s,rfl,F⟩:=zU D (by omega)
 exact ⟨u,⟨q,E,s⟩,⟨⟨y,F⟩,A⟩,fun b o hc=>⟨hc 0 _ z,hc 1 _ H,hc 2 _ G⟩⟩
theorem Vu:xw enc w 49 2 (V5 (fun q=>q<w.heap.size)) vI:=fun hd fuel cs x h hB=>by
 obtain ⟨y,m,c⟩:=XE Tryz.underlying49 ud h;obtain ⟨u0,E,z,A,G⟩:=c 0 _ rfl Z7 rfl (by omega)
 obtain ⟨u1,H,D,u,F⟩:=c 1 _ rfl uQ rfl (by omega)
 obtain ⟨s,rfl,B⟩:=zU A (by omega)
 obtain ⟨l,r,g,e,-⟩:=ZT Tryz.underlying47 vg (by omega) xx u (by omega)
 exact ⟨y,(s,l),⟨B,g,e⟩,fun b o hc=>⟨hc 0 _ z,u1,hc 1 _ D,r⟩⟩
end
end Go.Proofs.YtbjndgachcdbcaaGreatDoor
