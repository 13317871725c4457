import Derived.Test.YtbjndgachcdbcaaGreatDoorXTabs2
import Derived.Test.YtbjndgachcdbcaaGreatDoorPModel
import Derived.Test.YtbjndgachcdbcaaGreatDoorLRow
import Derived.ChangeSame
import Derived.Deep.DeepHandedRow
import Derived.Deep.Slices
import Derived.JoinedOf
import Derived.JoinedCond
import Derived.SizedLaws
import Derived.MakeChecks
import Derived.Lay
import Derived.LaidOnce
namespace Go.Proofs.YtbjndgachcdbcaaGreatDoor
open Go.ChangeShapes Go.WideShapes Go.ChangeAt Go.RowKit
set_option maxRecDepth 100000
instance:Inhabited Vl:=⟨⟨0,0,[]⟩⟩
instance:Inhabited Ul:=⟨⟨0,0,0,[],[]⟩⟩
theorem uV {v:Value} {cs:List Value} {i:Nat} (h:(cs.drop i).take 1=[v]):cs[i]?=some v:=by
 have:=congrArg (fun l=>l[0]?) h
 simpa [List.getElem?_take,List.getElem?_drop] using this
theorem uh (a:Addr):a.add 0=a:=by unfold Addr.add;simp
theorem ui {w:World} {a:Addr} {v:Value} (h:w.cell? a=some v):a.spot=none:=by
 unfold World.cell? at h
 split at h
 ·cases hs:a.spot with
  | none=>rfl
  | some x=>simp [hs] at h
 ·simp at h
theorem yo {H:Type} {d:DataW H}:∀{l:List (DataW H)},d∈l→Rows.uptoBulk d≤Rows.uptoBulkAll l
 | [],h=>by cases h
 | x::l,h=>by
  simp only [Rows.uptoBulkAll];rcases List.mem_cons.1 h with rfl | h
  ·omega
  ·have:=yo h;omega
theorem XM {H:Type} {enc:TypeId × Value→H} {w:World} {fuel:Nat} {hd:Bool} {cs:List Value} {x:DataW H × List MemPlace} {t:TypeId} {fs:Array Field} {k:Nat} (hu:Tryz.prog.underlying t=some (.struct fs)) (hk:Tryz.prog.cellsOf t=k)
  (h:DataW.trod enc Tryz.prog w 0 (fun _=>true) hd fuel t cs=some x) :
  cs.length=k∧∃m,∀i f,fs[i]?=some f→Tryz.prog.cellsOf f.type=1→f.offset=i→i<k→∃u y,cs[i]?=some u∧DataW.trod enc Tryz.prog w 0 (fun _=>true) hd m f.type [u]=some y∧Rows.uptoBulk y.1≤Rows.uptoBulk x.1:=by
 obtain ⟨e,m,-,rfl,b,B,z⟩:=DataW.trod_struct hu h;rw [hk] at b;refine ⟨b,m,fun i f hf hc ho hi=>?_⟩
 have q:=z i f hf;rw [hc,ho] at q;have A:i<fs.size:=(Array.getElem?_eq_some_iff.1 hf).1;have o:i<e.length:=by omega
 rw [List.getElem?_eq_getElem o] at q
 obtain ⟨u,c⟩:∃u,(cs.drop i).take 1=[u]:=by
  match hd9:(cs.drop i).take 1,(show ((cs.drop i).take 1).length=1 by rw [List.length_take,List.length_drop];omega) with
  | [u],_=>exact ⟨u,rfl⟩
 rw [c] at q;refine ⟨u,e[i],uV c,q,?_⟩
 have:=yo (List.mem_map.2 ⟨e[i],List.getElem_mem o,rfl⟩:e[i].1∈e.map (·.1))
 simp only [Rows.uptoBulk];omega
def xB {α:Type} {H:Type} (enc:TypeId × Value→H) (w:World) (e:TypeId) (k:Nat) (E:World→Nat→Nat→α→Prop) (G:α→Prop):Prop :=
 ∀hd fuel cs x,DataW.trod enc Tryz.prog w 0 (fun _=>true) hd fuel e cs=some x→Rows.uptoBulk x.1≤1048576→cs.length=k∧∃a,G a∧∀b o,(∀q z,cs[q]?=some z→w.cell? ⟨b,o+q,none⟩=some z)→E w b o a
theorem ZQ {α:Type} [Inhabited α] {H:Type} {enc:TypeId × Value→H} {w:World} {e t:TypeId} {k:Nat} {E:World→Nat→Nat→α→Prop} {G:α→Prop} {fuel:Nat} {v:Value} {x:DataW H × List MemPlace} {hd:Bool} (hu:Tryz.prog.underlying t=some (.slice e)) (hk:Tryz.prog.cellsOf e=k) (hk1:1≤k)
  (ho:xB enc w e k E G) (h:DataW.trod enc Tryz.prog w 0 (fun _=>true) hd fuel t [v]=some x) (hB:Rows.uptoBulk x.1≤1048576) :
  ∃l,rowIn (fun q=>q<w.heap.size) w v k E l∧(∀a∈l,G a)∧l.length≤1048576∧∃bb n cc,v=.slice bb n cc:=by
 rcases Deep.open_slice hu h with ⟨u,hx⟩ | ⟨a,len,V,m,n,D,Pl,u,-,hl,hm,T,hx,hr⟩
 ·simp at u
  subst u;exact ⟨[],⟨none,0,rfl,Nat.le_refl _,Nat.zero_le _,.inl rfl⟩,fun t h=>(by cases h),Nat.zero_le _,_,_,_,rfl⟩
 ·simp at u
  subst u;have af:len≤m:=by split at T <;> omega
  have X:Rows.uptoBulkAll ((List.range len).map D)≤1048576:=by
   rw [hx] at hB;simp only [Rows.uptoBulk] at hB;omega
  have J:∀i,i<len→∃t:α,G t∧∃c:List Value,c.length=k∧(∀q z,c[q]?=some z→w.cell? (a.add (i*k+q))=some z)∧∀b o,(∀q z,c[q]?=some z→w.cell? ⟨b,o+q,none⟩=some z)→E w b o t:=fun i hi=>by
   obtain ⟨c,M,h2⟩:=hr i (by omega)
   rw [hk] at M;obtain ⟨-,aa,B⟩:=World.cells?_some M;have ab:=yo (List.mem_map.2 ⟨i,List.mem_range.2 hi,rfl⟩:D i∈(List.range len).map D);obtain ⟨K,t,hg,hE⟩:=ho _ _ _ _ h2 (by simp only;omega)
   refine ⟨t,hg,c,K,fun q z hz=>?_,hE⟩
   have hq:q<k:=by rw [←K];exact (List.getElem?_eq_some_iff.1 hz).1
   have:=B q (by omega)
   rw [Deep.add_add] at this;exact this.trans hz
  obtain ⟨f,O⟩:=Deep.choose_lt J;have y:((List.range len).map f).length=len:=by simp
  refine ⟨(List.range len).map f,⟨some a,V,by rw [y],by rw [y];exact hl,hm,?_⟩,?_,?_,_,_,_,rfl⟩
  ·rcases Nat.eq_zero_or_pos len with Y | Y
   ·subst Y;exact .inl rfl
   ·right
    obtain ⟨-,W,ad,R,-⟩:=O 0 Y;have F:=R 0 _ (List.getElem?_eq_getElem (show 0<W.length by omega))
    rw [Nat.zero_mul,Nat.add_zero,uh] at F;have I:=ui F;have A:=World.block_lt_of_cell? w _ F;obtain ⟨b,o,sp⟩:=a;simp only at I A;subst I;refine ⟨b,o,rfl,A,A,fun j hj=>?_⟩
    rw [y] at hj;obtain ⟨-,ae,ag,U,Z⟩:=O j hj;simp only [List.getElem_map,List.getElem_range];refine Z b (o+j*k) fun q z hz=>?_
    have:=U q z hz
    rw [yg] at this;rw [Nat.add_assoc];exact this
  ·intro t ht
   obtain ⟨i,hi,rfl⟩:=List.mem_map.1 ht;exact (O i (List.mem_range.1 hi)).1
  ·rw [y]
   have M:=ug ((List.range len).map D);rw [List.length_map,List.length_range] at M;omega
theorem yb:Tryz.prog.cellsOf 9=1:=by kernel_rfl
theorem yF:Tryz.prog.cellsOf 3=1:=by kernel_rfl
theorem VC:Tryz.prog.cellsOf 26=1:=by kernel_rfl
theorem uj:Tryz.prog.cellsOf 23=1:=by kernel_rfl
theorem uW:Tryz.prog.cellsOf 54=1:=by kernel_rfl
theorem uX:Tryz.prog.cellsOf 47=1:=by kernel_rfl
theorem vx:Tryz.prog.cellsOf 56=3:=by kernel_rfl
theorem uk:Tryz.prog.cellsOf 49=2:=by kernel_rfl
section
variable {H:Type} {enc:TypeId × Value→H} {w:World} {fuel:Nat} {hd:Bool} {u:Value} {y:DataW H × List MemPlace}
theorem zB {t:TypeId} (ht:Tryz.prog.underlying t=some (.int .i64)) (h:DataW.trod enc Tryz.prog w 0 (fun _=>true) hd fuel t [u]=some y):∃n,u=.int .i64 n∧VG n:=by
 obtain ⟨n,a,-,c⟩:=DataW.trod_int ht h;simp only [List.cons.injEq,and_true] at a;exact ⟨n,a,Uo c⟩
theorem zS (h:DataW.trod enc Tryz.prog w 0 (fun _=>true) hd fuel 9 [u]=some y) (hB:Rows.uptoBulk y.1≤1048576):∃s:List UInt8,u=.string (za s)∧s.length≤1048576:=by
 obtain ⟨s,a,b,-⟩:=DataW.trod_string Tryz.underlying9 h;simp only [List.cons.injEq,and_true] at a;refine ⟨s.data.toList,by rw [a,uT],?_⟩
 rw [b] at hB;simp only [Rows.uptoBulk] at hB;omega
end
section
variable {H:Type} {enc:TypeId × Value→H} {w:World}
theorem xC:xB enc w 56 3 Um (fun v=>zq v∧VG v.k):=fun hd fuel cs x h hB=>by
 obtain ⟨F,m,c⟩:=XM Tryz.underlying56 vx h;obtain ⟨u0,M,B,z,-⟩:=c 0 _ rfl uW rfl (by omega)
 obtain ⟨u1,K,D,e,-⟩:=c 1 _ rfl yF rfl (by omega)
 obtain ⟨u2,J,q,y,I⟩:=c 2 _ rfl yb rfl (by omega)
 obtain ⟨E,rfl,H⟩:=zB Tryz.underlying54 z;obtain ⟨A,rfl,G⟩:=zB Tryz.underlying3 e;obtain ⟨s,rfl,u⟩:=zS y (by omega)
 exact ⟨F,⟨E,A,s⟩,⟨⟨G,u⟩,H⟩,fun b o hc=>⟨hc 0 _ B,hc 1 _ D,hc 2 _ q⟩⟩
theorem VD:xB enc w 49 2 (ue (fun q=>q<w.heap.size)) vQ:=fun hd fuel cs x h hB=>by
 obtain ⟨D,m,c⟩:=XM Tryz.underlying49 uk h;obtain ⟨u0,H,A,z,F⟩:=c 0 _ rfl yb rfl (by omega)
 obtain ⟨u1,E,B,u,G⟩:=c 1 _ rfl uX rfl (by omega)
 obtain ⟨s,rfl,y⟩:=zS z (by omega)
 obtain ⟨l,r,g,e,-⟩:=ZQ Tryz.underlying47 vx (by omega) xC u (by omega)
 exact ⟨D,(s,l),⟨y,g,e⟩,fun b o hc=>⟨hc 0 _ A,u1,hc 1 _ B,r⟩⟩
end
end Go.Proofs.YtbjndgachcdbcaaGreatDoor
