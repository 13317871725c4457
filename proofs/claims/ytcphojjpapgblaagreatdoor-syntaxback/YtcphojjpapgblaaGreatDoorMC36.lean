import Derived.Test.YtcphojjpapgblaaGreatDoorRows
import Derived.Test.YtcphojjpapgblaaGreatDoorMC0
import Derived.ProofKit
import Derived.OpenShut
import Derived.ShutString
import Derived.ChangeOld
import Derived.Below
import Derived.Test.YtcphojjpapgblaaGreatDoorMC34
import Derived.Test.YtcphojjpapgblaaGreatDoorMC5
import Derived.ChangeSame
import Derived.Deep.DeepHandedRow
import Derived.Deep.Slices
import Derived.Test.YtcphojjpapgblaaGreatDoorMC12
namespace Go.Proofs.YtcphojjpapgblaaGreatDoor
open Go.ChangeShapes Go.WideShapes Go.ChangeAt Go.RowKit
set_option maxRecDepth 100000
theorem own:ownKnob Tryz.prog.godebug=none:=by kernel_rfl
theorem zdw:laidOutB Tryz.prog=true:=by kernel_rfl
theorem ziu {n:Int} (h:(Lit.int .i64 n).wf=true):-9223372036854775808≤n∧n≤9223372036854775807:=by
 simpa [Lit.wf,IntKind.min,IntKind.max,IntKind.signed,IntKind.bits] using h
instance:Inhabited Ez:=⟨.mk 0 [] 0 [] 0⟩
theorem VP {v:Value} {cs:List Value} {i:Nat} (h:(cs.drop i).take 1=[v]):cs[i]?=some v:=by
 have:=congrArg (fun l=>l[0]?) h
 simpa [List.getElem?_take,List.getElem?_drop] using this
theorem zbA {w:World} {a:Addr} {v:Value} (h:w.cell? a=some v):a.spot=none:=by
 unfold World.cell? at h
 split at h
 ·cases hs:a.spot with
  | none=>rfl
  | some x=>simp [hs] at h
 ·simp at h
theorem zbB (a:Addr):a.add 0=a:=by unfold Addr.add;simp
theorem Vr (b o q:Nat):(⟨b,o,none⟩:Addr).add q=⟨b,o+q,none⟩:=by
 by_cases h:q=0
 ·subst h;simp [Addr.add]
 ·simp [Addr.add,h]
theorem Xp {H:Type} {d:DataW H}:∀{l:List (DataW H)},d∈l→Rows.uptoBulk d≤Rows.uptoBulkAll l
 | [],h=>by cases h
 | x::l,h=>by
  simp only [Rows.uptoBulkAll];rcases List.mem_cons.1 h with rfl | h
  ·omega
  ·have:=Xp h;omega
theorem zdx {H:Type} (f:Nat→Ez) (D:Nat→DataW H):∀l:List Nat,(∀i∈l,lnE (f i)+4≤200*Rows.uptoBulk (D i))→lnL (l.map f)≤200*Rows.uptoBulkAll (l.map D)
 | [],_=>by simp [lnL,Rows.uptoBulkAll]
 | x::l,h=>by
  have y:=h x (by simp)
  have o:=zdx f D l fun i hi=>h i (by simp [hi])
  simp only [List.map_cons,lnL,Rows.uptoBulkAll];omega
theorem zhi {H:Type} (f:Nat→Ez) (D:Nat→DataW H) (l:List Nat) (h:∀i∈l,qw (f i)≤Rows.uptoBulk (D i)):dpL (l.map f)≤Rows.uptoBulkAll (l.map D):=by
 refine zdo.2 fun y hy=>?_
 obtain ⟨i,o,rfl⟩:=List.mem_map.1 hy;exact Nat.le_trans (h i o) (Xp (List.mem_map.2 ⟨i,o,rfl⟩))
theorem zhI {sz:Nat}:∀(us:List (List Value)),(∀c∈us,c.length=sz)→1≤sz→∀j u,us.flatten[j]?=some u→∃c,us[j / sz]?=some c∧c[j % sz]?=some u
 | [],_,_,j,u,h=>by simp at h
 | c::us,hw,hs,j,u,h=>by
  have y:c.length=sz:=hw c (by simp)
  rw [List.flatten_cons] at h
  by_cases hj:j<sz
  ·rw [List.getElem?_append_left (by omega)] at h
   refine ⟨c,?_,?_⟩
   ·rw [Nat.div_eq_of_lt hj];rfl
   ·rw [Nat.mod_eq_of_lt hj];exact h
  ·rw [List.getElem?_append_right (by omega),y] at h
   obtain ⟨d,z,o⟩:=zhI us (fun c h=>hw c (by simp [h])) hs (j-sz) u h
   refine ⟨d,?_,?_⟩
   ·rw [Nat.div_eq_sub_div (by omega) (by omega)];exact z
   ·rw [Nat.mod_eq_sub_mod (by omega)];exact o
theorem Qz:∃f0 f1 f2 f3 f4:Field,Tryz.prog.underlying 45=some (.struct #[f0,f1,f2,f3,f4])∧(f0.type=42∧f1.type=9∧f2.type=3∧f3.type=43∧f4.type=3)∧(f0.offset=0∧f1.offset=1∧f2.offset=2∧f3.offset=3∧f4.offset=4) :=
 ⟨_,_,_,_,_,Tryz.underlying45,⟨rfl,rfl,rfl,rfl,rfl⟩,⟨rfl,rfl,rfl,rfl,rfl⟩⟩
theorem zhj:Tryz.prog.cellsOf 42=1:=by kernel_rfl
theorem Vs:Tryz.prog.cellsOf 9=1:=by kernel_rfl
theorem U5:Tryz.prog.cellsOf 3=1:=by kernel_rfl
theorem zfN:Tryz.prog.cellsOf 43=1:=by kernel_rfl
theorem zam:Tryz.prog.cellsOf 45=5:=by kernel_rfl
theorem ut {H:Type} {enc:TypeId × Value→H} {w:World}:∀(B:Nat),B≤1048576→∀(hd:Bool) (fuel:Nat) (cs:List Value) (x:DataW H × List MemPlace),Rows.uptoBulk x.1≤B→DataW.trod enc Tryz.prog w 0 (fun _=>true) hd fuel 45 cs=some x →
  ∃z:Ez,Zl w.heap.size w z (.agg cs.toArray)∧cs.length=5∧qw z≤Rows.uptoBulk x.1∧lnE z+4≤200*Rows.uptoBulk x.1
 | 0,_,hd,fuel,cs,x,hx,h=>by
  obtain ⟨f0,f1,f2,f3,f4,hu,-,-⟩:=Qz;obtain ⟨xs,m,-,rfl,-,-,-⟩:=DataW.trod_struct hu h;simp only [Rows.uptoBulk] at hx;omega
 | B+1,hB,hd,fuel,cs,x,hx,h=>by
  obtain ⟨f0,f1,f2,f3,f4,hu,⟨t0,t1,t2,t3,t4⟩,⟨o0,o1,o2,o3,o4⟩⟩:=Qz;obtain ⟨xs,m,-,rfl,V,hl,G⟩:=DataW.trod_struct hu h;have h0:=G 0 f0 rfl;have h1:=G 1 f1 rfl;have h2:=G 2 f2 rfl;have h3:=G 3 f3 rfl;have h4:=G 4 f4 rfl;rw [t0,o0,zhj] at h0;rw [t1,o1,Vs] at h1;rw [t2,o2,U5] at h2;rw [t3,o3,zfN] at h3;rw [t4,o4,U5] at h4;rw [zam] at V
  match xs,hl with
  | [x0,x1,x2,x3,x4],_ =>
   obtain ⟨k,a0,b0,-⟩:=DataW.trod_int Tryz.underlying42 h0;obtain ⟨s,a1,b1,-⟩:=DataW.trod_string Tryz.underlying9 h1;obtain ⟨n,a2,b2,c2⟩:=DataW.trod_int Tryz.underlying3 h2;obtain ⟨line,a4,b4,-⟩:=DataW.trod_int Tryz.underlying3 h4;have T:=ziu c2
   have al:Rows.uptoBulk (DataW.agg ([x0,x1,x2,x3,x4].map (·.1)))=s.data.toList.length+5+Rows.uptoBulk x3.1:=by
    simp only [List.map_cons,List.map_nil,Rows.uptoBulk,Rows.uptoBulkAll,b0,b1,b2,b4];omega
   simp only at hx;rw [al] at hx ⊢;have q0:=VP a0;have q1:=VP a1;have q2:=VP a2;have q4:=VP a4
   match cs,V with
   | [v0,v1,v2,v3,v4],_ =>
    simp only [List.getElem?_cons_zero,List.getElem?_cons_succ,Option.some.injEq] at q0 q1 q2 q4;subst q0 q1 q2 q4;have af:DataW.trod enc Tryz.prog w 0 (fun _=>true) hd m 43 [v3]=some x3:=h3
    have J:s.data.toList.length≤100000000:=by omega
    have e1:(Value.string s)=.string (zb s.data.toList):=by rw [QX]
    rcases Deep.open_slice Tryz.underlying43 af with ⟨A,aa⟩ | ⟨a,len,Y,mm,nn,D,Pl,A,-,ag,hm,aj,aa,hr⟩
    ·simp only [List.cons.injEq,and_true] at A
     subst A;refine ⟨.mk k s.data.toList n [] line,?_,rfl,?_,?_⟩
     ·rw [e1]
      exact Zl.mk k s.data.toList n [] line none 0 0 0 [] J T.1 T.2 (fun h=>absurd rfl h) rfl (Nat.le_refl _) (Nat.zero_le _) (fun j u hj=>by simp at hj) (fun c hc=>by simp at hc) (fun j x c hx=>by simp at hx)
     ·rw [qw,dpL];omega
     ·rw [lnE,lnL];omega
    ·simp only [List.cons.injEq,and_true] at A
     subst A;have ar:len≤mm:=by split at aj <;> omega
     have ao:Rows.uptoBulkAll ((List.range len).map D)+1≤Rows.uptoBulk x3.1:=by
      rw [aa];simp only [Rows.uptoBulk];omega
     have W:∀i,i<len→∃p:Ez × List Value,Zl w.heap.size w p.1 (.agg p.2.toArray)∧p.2.length=5∧qw p.1≤Rows.uptoBulk (D i)∧lnE p.1+4≤200*Rows.uptoBulk (D i)∧∀q z,p.2[q]?=some z→w.cell? (a.add (i*5+q))=some z:=fun i y=>by
      obtain ⟨ab,g1,g2⟩:=hr i (by omega)
      rw [zam] at g1;obtain ⟨-,am,O⟩:=World.cells?_some g1;have an:=Xp (List.mem_map.2 ⟨i,List.mem_range.2 y,rfl⟩:D i∈(List.range len).map D);obtain ⟨z,hz,X,ae,ak⟩:=ut B (by omega) hd nn ab (D i,Pl i) (by simp only;omega) g2
      refine ⟨(z,ab),hz,X,ae,ak,fun q u hq=>?_⟩
      have au:q<5:=by rw [←X];exact (List.getElem?_eq_some_iff.1 hq).1
      have:=O q (by omega)
      rw [Deep.add_add] at this;exact this.trans hq
     obtain ⟨F,U⟩:=Deep.choose_lt W;have Z:((List.range len).map fun i=>(F i).1).length=len:=by simp
     have av:=zhi (fun i=>(F i).1) D (List.range len) fun i y=>(U i (List.mem_range.1 y)).2.2.1
     have aq:=zdx (fun i=>(F i).1) D (List.range len) fun i y=>(U i (List.mem_range.1 y)).2.2.2.1
     refine ⟨.mk k s.data.toList n ((List.range len).map fun i=>(F i).1) line,?_,rfl,?_,?_⟩
     ·rw [e1]
      rcases Nat.eq_zero_or_pos len with L | L
      ·subst L
       exact Zl.mk k s.data.toList n [] line (some a) Y 0 0 [] J T.1 T.2 (fun h=>absurd rfl h) rfl (Nat.zero_le _) hm (fun j u hj=>by simp at hj) (fun c hc=>by simp at hc) (fun j x c hx=>by simp at hx)
      ·obtain ⟨-,ap,-,-,ai⟩:=U 0 L
       have Q:=ai 0 _ (List.getElem?_eq_getElem (show 0<(F 0).2.length by omega))
       rw [Nat.zero_mul,Nat.add_zero,zbB] at Q;have ad:=zbA Q;have N:=World.block_lt_of_cell? w _ Q;obtain ⟨b,o,sp⟩:=a;simp only at ad N;subst ad
       have I:∀c∈(List.range len).map (fun i=>(F i).2),c.length=5:=fun c hc=>by
        obtain ⟨i,y,rfl⟩:=List.mem_map.1 hc;exact (U i (List.mem_range.1 y)).2.1
       have:=Zl.mk (B:=w.heap.size) (w:=w) k s.data.toList n ((List.range len).map fun i=>(F i).1) line (some ⟨b,o,none⟩) Y b o ((List.range len).map fun i=>(F i).2) J T.1 T.2 (fun _=>⟨rfl,N,N⟩) (by simp) (by rw [Z];exact ag) hm
        (fun j u hj=>by
         obtain ⟨c,R,e6⟩:=zhI _ I (by omega) j u hj
         rw [List.getElem?_map] at R;cases hrg:(List.range len)[j / 5]? with
         | none=>rw [hrg] at R;simp at R
         | some i =>
          rw [hrg] at R;simp only [Option.map_some,Option.some.injEq] at R;subst R;obtain ⟨ah,y⟩:=List.getElem?_eq_some_iff.1 hrg;simp only [List.getElem_range] at y;subst y
          have:=(U (j / 5) (by simpa using ah)).2.2.2.2 (j % 5) u e6
          rw [Vr] at this;rw [show o+(j / 5*5+j % 5)=o+j by omega] at this
          exact this)
        I (fun j x c hx hc=>by
         rw [List.getElem?_map] at hx hc;cases hrg:(List.range len)[j]? with
         | none=>rw [hrg] at hx;simp at hx
         | some i =>
          rw [hrg] at hx hc;simp only [Option.map_some,Option.some.injEq] at hx hc;subst hx hc
          have y:i<len:=by
           have:=List.mem_of_getElem? hrg
           simpa using this
          exact (U i y).1)
       rw [Z] at this;exact this
     ·rw [qw];omega
     ·rw [lnE];omega
theorem Ys {α:Type} [Inhabited α] {H:Type} {enc:TypeId × Value→H} {w:World} {e t:TypeId} {sz Bd:Nat} {P:α→List Value→Prop} {fuel:Nat} {v:Value} {x:DataW H × List MemPlace} {hd:Bool} (hu:Tryz.prog.underlying t=some (.slice e)) (hk:Tryz.prog.cellsOf e=sz) (hk1:1≤sz)
  (ho:∀hd fuel cs x,DataW.trod enc Tryz.prog w 0 (fun _=>true) hd fuel e cs=some x→Rows.uptoBulk x.1≤Bd→cs.length=sz∧∃a,P a cs) (h:DataW.trod enc Tryz.prog w 0 (fun _=>true) hd fuel t [v]=some x) (hB:Rows.uptoBulk x.1≤Bd+1) :
  ∃l base m cap,v=.slice base m cap∧Zj P sz w.heap.size w l base m cap:=by
 rcases Deep.open_slice hu h with ⟨G,hx⟩ | ⟨a,len,cap,m,n,D,Pl,G,-,hl,hm,X,hx,hr⟩
 ·simp at G
  subst G;exact ⟨[],none,0,0,rfl,rfl,Nat.le_refl _,Nat.zero_le _,fun i y N=>by simp at N⟩
 ·simp at G
  subst G;have af:len≤m:=by split at X <;> omega
  have U:Rows.uptoBulkAll ((List.range len).map D)≤Bd:=by
   rw [hx] at hB;simp only [Rows.uptoBulk] at hB;omega
  have Q:∀i,i<len→∃t:α,∃A:List Value,A.length=sz∧P t A∧(∀q z,A[q]?=some z→w.cell? (a.add (i*sz+q))=some z):=fun i N=>by
   obtain ⟨A,h1,h2⟩:=hr i (by omega)
   rw [hk] at h1;obtain ⟨-,ad,J⟩:=World.cells?_some h1;have ag:=Xp (List.mem_map.2 ⟨i,List.mem_range.2 N,rfl⟩:D i∈(List.range len).map D);obtain ⟨R,t,Z⟩:=ho _ _ _ _ h2 (by simp only;omega)
   refine ⟨t,A,R,Z,fun q z O=>?_⟩
   have hq:q<sz:=by rw [←R];exact (List.getElem?_eq_some_iff.1 O).1
   have:=J q (by omega)
   rw [Deep.add_add] at this;exact this.trans O
  obtain ⟨f,hf⟩:=Deep.choose_lt Q;have I:((List.range len).map f).length=len:=by simp
  refine ⟨(List.range len).map f,some a,len,cap,rfl,I.symm,by rw [I];exact hl,hm,fun i y hy=>?_⟩
  have N:i<len:=by rw [←I];exact (List.getElem?_eq_some_iff.1 hy).1
  obtain rfl:y=f i:=by simp [N] at hy;exact hy.symm
  obtain ⟨A,Y,Z,T⟩:=hf i N;have ab:=T 0 _ (List.getElem?_eq_getElem (show 0<A.length by omega))
  obtain ⟨b,o,sp⟩:=a
  have aa:sp=none:=by
   obtain ⟨V,ae,-,W⟩:=hf 0 (by omega)
   have O:=W 0 _ (List.getElem?_eq_getElem (show 0<V.length by omega))
   rw [Nat.zero_mul,Nat.add_zero,zbB] at O;exact zbA O
  subst aa;have L:=World.block_lt_of_cell? w _ ab;rw [Vr] at L;refine ⟨b,o,A,rfl,L,L,Y,Z,fun j u hj=>?_⟩
  have:=T j u hj
  rw [Vr] at this;rw [Nat.add_assoc];exact this
theorem zeq {H:Type} {enc:TypeId × Value→H} {w:World} {fuel:Nat} {hd:Bool} {cs:List Value} {x:DataW H × List MemPlace} {t:TypeId} {fs:Array Field} {k:Nat} (hu:Tryz.prog.underlying t=some (.struct fs)) (hk:Tryz.prog.cellsOf t=k)
  (h:DataW.trod enc Tryz.prog w 0 (fun _=>true) hd fuel t cs=some x) :
  cs.length=k∧1≤Rows.uptoBulk x.1∧∃m,∀i f,fs[i]?=some f→Tryz.prog.cellsOf f.type=1→f.offset=i→i<k→∃u y,cs[i]?=some u∧DataW.trod enc Tryz.prog w 0 (fun _=>true) hd m f.type [u]=some y∧Rows.uptoBulk y.1+1≤Rows.uptoBulk x.1:=by
 obtain ⟨A,m,-,rfl,o,L,I⟩:=DataW.trod_struct hu h;rw [hk] at o;refine ⟨o,by simp only [Rows.uptoBulk];omega,m,fun i f hf hc ho hi=>?_⟩
 have G:=I i f hf;rw [hc,ho] at G;have J:i<fs.size:=(Array.getElem?_eq_some_iff.1 hf).1;have z:i<A.length:=by omega
 rw [List.getElem?_eq_getElem z] at G
 obtain ⟨u,D⟩:∃u,(cs.drop i).take 1=[u]:=by
  match hd9:(cs.drop i).take 1,(show ((cs.drop i).take 1).length=1 by rw [List.length_take,List.length_drop];omega) with
  | [u],_=>exact ⟨u,rfl⟩
 rw [D] at G;refine ⟨u,A[i],VP D,G,?_⟩
 have:=Xp (List.mem_map.2 ⟨A[i],List.getElem_mem z,rfl⟩:A[i].1∈A.map (·.1))
 simp only [Rows.uptoBulk];omega
theorem zfO:Tryz.prog.cellsOf 105=1:=by kernel_rfl
theorem U6:Tryz.prog.cellsOf 69=1:=by kernel_rfl
theorem VQ:Tryz.prog.cellsOf 107=6:=by kernel_rfl
theorem U7:Tryz.prog.cellsOf 116=2:=by kernel_rfl
theorem QA:Tryz.prog.cellsOf 68=1:=by kernel_rfl
theorem QB:Tryz.prog.cellsOf 73=3:=by kernel_rfl
theorem zcH:Tryz.prog.cellsOf 22=1:=by kernel_rfl
theorem zdy:Tryz.prog.cellsOf 71=5:=by kernel_rfl
theorem zfP:Tryz.prog.cellsOf 23=1:=by kernel_rfl
theorem zhk:Tryz.prog.cellsOf 25=2:=by kernel_rfl
instance:Inhabited Sz:=⟨.mk 0 [] [] [] [] 0⟩
instance:Inhabited Rz:=⟨⟨[],[],0⟩⟩
instance:Inhabited Fz:=⟨⟨[],[],[],[],0⟩⟩
section
variable {H:Type} {enc:TypeId × Value→H} {w:World}
theorem vG {t:TypeId} {fuel:Nat} {hd:Bool} {u:Value} {y:DataW H × List MemPlace} (ht:Tryz.prog.underlying t=some (.int .i64)) (h:DataW.trod enc Tryz.prog w 0 (fun _=>true) hd fuel t [u]=some y):∃n,u=.int .i64 n:=by
 obtain ⟨n,a,-,c⟩:=DataW.trod_int ht h;simp only [List.cons.injEq,and_true] at a;exact ⟨n,a⟩
theorem xm {fuel:Nat} {hd:Bool} {u:Value} {y:DataW H × List MemPlace} (h:DataW.trod enc Tryz.prog w 0 (fun _=>true) hd fuel 9 [u]=some y) (hB:Rows.uptoBulk y.1≤1048576):∃s:List UInt8,u=.string (zb s)∧s.length≤100000000:=by
 obtain ⟨s,a,b,-⟩:=DataW.trod_string Tryz.underlying9 h;simp only [List.cons.injEq,and_true] at a;refine ⟨s.data.toList,by rw [a,QX],?_⟩
 rw [b] at hB;simp only [Rows.uptoBulk] at hB;omega
theorem zja {cs:List Value} {a0 a1 a2 a3 a4 a5:Value} (h:cs.length=6) (h0:cs[0]?=some a0) (h1:cs[1]?=some a1) (h2:cs[2]?=some a2) (h3:cs[3]?=some a3) (h4:cs[4]?=some a4) (h5:cs[5]?=some a5):cs=[a0,a1,a2,a3,a4,a5]:=by
 match cs,h with
 | [x0,x1,x2,x3,x4,x5],_ =>
  simp only [List.getElem?_cons_zero,List.getElem?_cons_succ,Option.some.injEq] at h0 h1 h2 h3 h4 h5;rw [h0,h1,h2,h3,h4,h5]
theorem zjb {cs:List Value} {a0 a1 a2 a3 a4:Value} (h:cs.length=5) (h0:cs[0]?=some a0) (h1:cs[1]?=some a1) (h2:cs[2]?=some a2) (h3:cs[3]?=some a3) (h4:cs[4]?=some a4):cs=[a0,a1,a2,a3,a4]:=by
 match cs,h with
 | [x0,x1,x2,x3,x4],_ =>
  simp only [List.getElem?_cons_zero,List.getElem?_cons_succ,Option.some.injEq] at h0 h1 h2 h3 h4;rw [h0,h1,h2,h3,h4]
theorem zjc {cs:List Value} {a0 a1 a2:Value} (h:cs.length=3) (h0:cs[0]?=some a0) (h1:cs[1]?=some a1) (h2:cs[2]?=some a2):cs=[a0,a1,a2]:=by
 match cs,h with
 | [x0,x1,x2],_ =>
  simp only [List.getElem?_cons_zero,List.getElem?_cons_succ,Option.some.injEq] at h0 h1 h2;rw [h0,h1,h2]
theorem zhJ {cs:List Value} {a0 a1:Value} (h:cs.length=2) (h0:cs[0]?=some a0) (h1:cs[1]?=some a1):cs=[a0,a1]:=by
 match cs,h with
 | [x0,x1],_ =>
  simp only [List.getElem?_cons_zero,List.getElem?_cons_succ,Option.some.injEq] at h0 h1;rw [h0,h1]
theorem uu:∀(B:Nat),B≤1048576→∀(hd:Bool) (fuel:Nat) (cs:List Value) (x:DataW H × List MemPlace),DataW.trod enc Tryz.prog w 0 (fun _=>true) hd fuel 107 cs=some x→Rows.uptoBulk x.1≤B →
  cs.length=6∧∃z:Sz,ZE w.heap.size w (B+1) z cs
 | 0,_,hd,fuel,cs,x,h,hx=>by
  obtain ⟨-,h1,-⟩:=zeq Tryz.underlying107 VQ h;omega
 | B+1,hB,hd,fuel,cs,x,h,hx=>by
  obtain ⟨A,-,m,o⟩:=zeq Tryz.underlying107 VQ h;obtain ⟨u0,y0,X,L,-⟩:=o 0 _ rfl zfO rfl (by omega)
  obtain ⟨u1,y1,c1,V,b1⟩:=o 1 _ rfl Vs rfl (by omega)
  obtain ⟨u2,y2,c2,t2,b2⟩:=o 2 _ rfl zfN rfl (by omega)
  obtain ⟨u3,y3,W,T,b3⟩:=o 3 _ rfl U6 rfl (by omega)
  obtain ⟨u4,y4,Y,t4,b4⟩:=o 4 _ rfl U6 rfl (by omega)
  obtain ⟨u5,y5,c5,N,-⟩:=o 5 _ rfl U5 rfl (by omega)
  obtain ⟨k,rfl⟩:=vG Tryz.underlying105 L;obtain ⟨s,rfl,hs⟩:=xm V (by omega)
  obtain ⟨line,rfl⟩:=vG Tryz.underlying3 N
  obtain ⟨es,be,me,U,rfl,I⟩:=Ys (Bd:=B) (P:=qN w.heap.size w) Tryz.underlying43 zam (by omega) (fun hd fuel cs x h hx=>by
   obtain ⟨z,Q,A,-⟩:=ut B (by omega) hd fuel cs x hx h
   exact ⟨A,z,Q⟩) t2 (by omega)
  obtain ⟨y,bb,mb,Z,rfl,J⟩:=Ys (Bd:=B) (P:=ZE w.heap.size w (B+1)) Tryz.underlying69 VQ (by omega) (fun hd fuel cs x h hx=>uu B (by omega) hd fuel cs x h hx) T (by omega)
  obtain ⟨D,bl,O,R,rfl,G⟩:=Ys (Bd:=B) (P:=ZE w.heap.size w (B+1)) Tryz.underlying69 VQ (by omega) (fun hd fuel cs x h hx=>uu B (by omega) hd fuel cs x h hx) t4 (by omega)
  refine ⟨A,.mk k s es y D line,?_⟩;rw [zja A X c1 c2 W Y c5];exact ⟨be,me,U,bb,mb,Z,bl,O,R,rfl,hs,I,J,G⟩
theorem U8 (hd:Bool) (fuel:Nat) (cs:List Value) (x:DataW H × List MemPlace) (h:DataW.trod enc Tryz.prog w 0 (fun _=>true) hd fuel 116 cs=some x) (hx:Rows.uptoBulk x.1≤1048576) :
  cs.length=2∧∃z:List UInt8 × List UInt8,PmZ z cs:=by
 obtain ⟨o,-,m,y⟩:=zeq Tryz.underlying116 U7 h;obtain ⟨u0,O,I,A,N⟩:=y 0 _ rfl Vs rfl (by omega)
 obtain ⟨u1,L,c1,G,Q⟩:=y 1 _ rfl Vs rfl (by omega)
 obtain ⟨s,rfl,D⟩:=xm A (by omega)
 obtain ⟨t,rfl,J⟩:=xm G (by omega)
 exact ⟨o,(s,t),zhJ o I c1,D,J⟩
theorem zfQ (hd:Bool) (fuel:Nat) (cs:List Value) (x:DataW H × List MemPlace) (h:DataW.trod enc Tryz.prog w 0 (fun _=>true) hd fuel 73 cs=some x) (hx:Rows.uptoBulk x.1≤1048576) :
  cs.length=3∧∃z:Rz,xD w.heap.size w z cs:=by
 obtain ⟨A,-,m,y⟩:=zeq Tryz.underlying73 QB h;obtain ⟨u0,V,L,D,U⟩:=y 0 _ rfl Vs rfl (by omega)
 obtain ⟨u1,Q,c1,J,W⟩:=y 1 _ rfl QA rfl (by omega)
 obtain ⟨u2,T,c2,N,R⟩:=y 2 _ rfl U5 rfl (by omega)
 obtain ⟨s,rfl,G⟩:=xm D (by omega)
 obtain ⟨l,base,O,o,rfl,I⟩:=Ys (Bd:=1048576) (P:=PmZ) Tryz.underlying68 U7 (by omega) (fun hd fuel cs x h hx=>U8 hd fuel cs x h hx) J (by omega)
 obtain ⟨line,rfl⟩:=vG Tryz.underlying3 N;exact ⟨A,⟨s,l,line⟩,base,O,o,zjc A L c1 c2,G,I⟩
theorem zfR (hd:Bool) (fuel:Nat) (cs:List Value) (x:DataW H × List MemPlace) (h:DataW.trod enc Tryz.prog w 0 (fun _=>true) hd fuel 71 cs=some x) (hx:Rows.uptoBulk x.1≤1048576) :
  cs.length=5∧∃z:Fz,xE w.heap.size w 1048577 z cs:=by
 obtain ⟨G,-,m,y⟩:=zeq Tryz.underlying71 zdy h;obtain ⟨u0,y0,O,I,b0⟩:=y 0 _ rfl Vs rfl (by omega)
 obtain ⟨u1,y1,c1,L,b1⟩:=y 1 _ rfl QA rfl (by omega)
 obtain ⟨u2,y2,c2,Z,b2⟩:=y 2 _ rfl Vs rfl (by omega)
 obtain ⟨u3,y3,N,J,b3⟩:=y 3 _ rfl U6 rfl (by omega)
 obtain ⟨u4,y4,R,W,b4⟩:=y 4 _ rfl U5 rfl (by omega)
 obtain ⟨s,rfl,V⟩:=xm I (by omega)
 obtain ⟨l,base,Q,A,rfl,X⟩:=Ys (Bd:=1048576) (P:=PmZ) Tryz.underlying68 U7 (by omega) (fun hd fuel cs x h hx=>U8 hd fuel cs x h hx) L (by omega)
 obtain ⟨t,rfl,ht⟩:=xm Z (by omega)
 obtain ⟨o,U,Y,T,rfl,D⟩:=Ys (Bd:=1048576) (P:=ZE w.heap.size w 1048577) Tryz.underlying69 VQ (by omega) (fun hd fuel cs x h hx=>uu 1048576 (by omega) hd fuel cs x h hx) J (by omega)
 obtain ⟨line,rfl⟩:=vG Tryz.underlying3 W;exact ⟨G,⟨s,l,t,o,line⟩,base,Q,A,U,Y,T,zjb G O c1 c2 N R,V,ht,X,D⟩
theorem zfS {v:Value} {d:DataW H} {p:List MemPlace} {hd:Bool} (hv:∃o:Array Value,v=.agg o) (h:∃fuel,DataW.trod enc Tryz.prog w 0 (fun _=>true) hd fuel 25 v.cells.toList=some (d,p)) (hB:Rows.uptoBulk d≤1048576) :
  ∃z:Pz,Xn w.heap.size w 1048577 z v:=by
 obtain ⟨o,rfl⟩:=hv;obtain ⟨fuel,A⟩:=h;have D:DataW.trod enc Tryz.prog w 0 (fun _=>true) hd fuel 25 o.toList=some (d,p):=by simpa [Value.cells] using A
 obtain ⟨T,-,m,J⟩:=zeq Tryz.underlying25 zhk D;obtain ⟨u0,y0,W,L,V⟩:=J 0 _ rfl zcH rfl (by omega)
 obtain ⟨u1,y1,c1,U,Y⟩:=J 1 _ rfl zfP rfl (by omega)
 simp only at V Y;obtain ⟨Z,b,X,G,rfl,R⟩:=Ys (Bd:=1048576) (P:=xD w.heap.size w) Tryz.underlying22 QB (by omega) (fun hd fuel o x h hx=>zfQ hd fuel o x h hx) L (by omega)
 obtain ⟨Q,O,N,y,rfl,I⟩:=Ys (Bd:=1048576) (P:=xE w.heap.size w 1048577) Tryz.underlying23 zdy (by omega) (fun hd fuel o x h hx=>zfR hd fuel o x h hx) U (by omega)
 have e:=zhJ T W c1;refine ⟨⟨Z,Q⟩,b,X,G,O,N,y,?_,R,I⟩;obtain ⟨l⟩:=o;simp only at e;rw [e]
end
end Go.Proofs.YtcphojjpapgblaaGreatDoor
