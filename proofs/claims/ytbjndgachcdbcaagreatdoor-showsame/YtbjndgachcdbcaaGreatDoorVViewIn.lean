import Derived.Test.YtbjndgachcdbcaaGreatDoorPStIn
import Derived.Test.YtbjndgachcdbcaaGreatDoorMC31
namespace Go.Proofs.YtbjndgachcdbcaaGreatDoor
open Go.ChangeShapes Go.WideShapes Go.ChangeAt Go.RowKit
set_option maxRecDepth 100000
instance:Inhabited Bn:=⟨⟨[],⟨0,0,[]⟩⟩⟩
instance:Inhabited Fr:=⟨⟨[],0,[]⟩⟩
instance:Inhabited Sp:=⟨⟨0,0,[],[],false⟩⟩
theorem Uy {H:Type} {enc:TypeId × Value→H} {w:World} {fuel:Nat} {hd:Bool} {cs:List Value} {x:DataW H × List MemPlace} {t:TypeId} {fs:Array Field} {k:Nat} (hu:Tryz.prog.underlying t=some (.struct fs)) (hk:Tryz.prog.cellsOf t=k)
  (h:DataW.trod enc Tryz.prog w 0 (fun _=>true) hd fuel t cs=some x) :
  cs.length=k∧∃m,∀(i:Nat) (f:Field),fs[i]?=some f→∃y,DataW.trod enc Tryz.prog w 0 (fun _=>true) hd m f.type ((cs.drop f.offset).take (Tryz.prog.cellsOf f.type))=some y∧Rows.uptoBulk y.1≤Rows.uptoBulk x.1:=by
 obtain ⟨e,m,-,rfl,b,z,o⟩:=DataW.trod_struct hu h;rw [hk] at b;refine ⟨b,m,fun i f hf=>?_⟩
 have q:=o i f hf;have u:i<fs.size:=(Array.getElem?_eq_some_iff.1 hf).1;have c:i<e.length:=by omega
 rw [List.getElem?_eq_getElem c] at q;refine ⟨e[i],q,?_⟩
 have:=yu (List.mem_map.2 ⟨e[i],List.getElem_mem c,rfl⟩:e[i].1∈e.map (·.1))
 simp only [Rows.uptoBulk];omega
theorem Uu:Tryz.prog.cellsOf 4=1:=by kernel_rfl
theorem uM:Tryz.prog.cellsOf 31=1:=by kernel_rfl
theorem uN:Tryz.prog.cellsOf 50=1:=by kernel_rfl
theorem V4:Tryz.prog.cellsOf 27=1:=by kernel_rfl
theorem uO:Tryz.prog.cellsOf 30=1:=by kernel_rfl
theorem Xl:Tryz.prog.cellsOf 58=4:=by kernel_rfl
theorem X7:Tryz.prog.cellsOf 52=3:=by kernel_rfl
theorem Vs:Tryz.prog.cellsOf 82=5:=by kernel_rfl
theorem Vt:Tryz.prog.cellsOf 29=5:=by kernel_rfl
theorem X8:Tryz.prog.cellsOf 33=3:=by kernel_rfl
theorem Vu:Tryz.prog.cellsOf 35=10:=by kernel_rfl
section
variable {H:Type} {enc:TypeId × Value→H} {w:World}
theorem vV {fuel:Nat} {hd:Bool} {u:Value} {y:DataW H × List MemPlace} (h:DataW.trod enc Tryz.prog w 0 (fun _=>true) hd fuel 4 [u]=some y):∃b,u=.bool b:=by
 obtain ⟨b,a,-⟩:=DataW.trod_bool Tryz.underlying4 h;simp only [List.cons.injEq,and_true] at a;exact ⟨b,a⟩
theorem V5 {cs:List Value} {o q:Nat} {z:Value} (h:((cs.drop o).take 3)[q]?=some z):cs[o+q]?=some z:=by
 rw [List.getElem?_take] at h
 split at h
 ·rwa [List.getElem?_drop] at h
 ·cases h
theorem vW:xP enc w 58 4 UE (fun b=>b.name.length≤1048576∧zr b.val):=fun hd fuel cs x h hB=>by
 obtain ⟨J,m,I⟩:=Xj Tryz.underlying58 Xl h;obtain ⟨-,u,y⟩:=Uy Tryz.underlying58 Xl h;obtain ⟨u0,R,G,K,O⟩:=I 0 _ rfl Z8 rfl (by omega)
 obtain ⟨D,c,M⟩:=y 1 _ rfl;obtain ⟨s,rfl,H⟩:=zQ K (by omega)
 rw [show Tryz.prog.cellsOf (Field.type _)=3 from Xk] at c
 obtain ⟨-,v,⟨e,-⟩,E⟩:=Yl hd u _ D c (by omega)
 refine ⟨J,⟨s,v⟩,⟨H,e⟩,fun b o hc=>?_⟩
 obtain ⟨A,B,F⟩:=E b (o+1) fun q z hz=>by
  rw [Nat.add_assoc];exact hc _ _ (V5 hz)
 exact ⟨hc 0 _ G,A,B,F⟩
theorem X9:xP enc w 52 3 (UF (fun q=>q<w.heap.size)) yf:=fun hd fuel cs x h hB=>by
 obtain ⟨F,m,c⟩:=Xj Tryz.underlying52 X7 h;obtain ⟨u0,M,A,G,I⟩:=c 0 _ rfl Z8 rfl (by omega)
 obtain ⟨u1,J,y,u,H⟩:=c 1 _ rfl yK rfl (by omega)
 obtain ⟨u2,O,D,B,K⟩:=c 2 _ rfl uN rfl (by omega)
 obtain ⟨s,rfl,E⟩:=zQ G (by omega)
 obtain ⟨z,rfl,i1⟩:=zH Tryz.underlying3 u;obtain ⟨l,r,g,e,-⟩:=Zu Tryz.underlying50 Xl (by omega) vW B (by omega)
 exact ⟨F,⟨s,z,l⟩,⟨E,i1,e,g⟩,fun b o hc=>⟨hc 0 _ A,hc 1 _ y,u2,hc 2 _ D,r⟩⟩
theorem vX:xP enc w 82 5 UU YJ:=fun hd fuel cs x h hB=>by
 obtain ⟨F,m,c⟩:=Xj Tryz.underlying82 Vs h;obtain ⟨u0,X,A,G,b0⟩:=c 0 _ rfl yK rfl (by omega)
 obtain ⟨u1,V,e,H,Z⟩:=c 1 _ rfl yK rfl (by omega)
 obtain ⟨u2,Y,E,B,W⟩:=c 2 _ rfl Z8 rfl (by omega)
 obtain ⟨u3,T,y,M,b3⟩:=c 3 _ rfl Z8 rfl (by omega)
 obtain ⟨u4,y4,I,z,U⟩:=c 4 _ rfl Uu rfl (by omega)
 obtain ⟨J,rfl,R⟩:=zH Tryz.underlying3 G;obtain ⟨K,rfl,i1⟩:=zH Tryz.underlying3 H;obtain ⟨u,rfl,D⟩:=zQ B (by omega)
 obtain ⟨O,rfl,q⟩:=zQ M (by omega)
 obtain ⟨b,rfl⟩:=vV z;exact ⟨F,⟨J,K,u,O,b⟩,⟨R,i1,D,q⟩,fun b o hc=>⟨hc 0 _ A,hc 1 _ e,hc 2 _ E,hc 3 _ y,hc 4 _ I⟩⟩
theorem uP {v:Value} {d:DataW H} {p:List MemPlace} {hd:Bool} (hv:∃E:Array Value,v=.agg E) (h:∃fuel,DataW.trod enc Tryz.prog w 0 (fun _=>true) hd fuel 35 v.cells.toList=some (d,p)) (hB:Rows.uptoBulk d≤1048576) :
  ∃(s:Vw) (b1 b2:Option Addr) (A o B u:Nat),v=uu (.slice b1 A o) (.slice b2 B u) s∧zR (fun q=>q<w.heap.size) w s (.slice b1 A o) (.slice b2 B u)∧yg s:=by
 obtain ⟨E,rfl⟩:=hv;obtain ⟨fuel,G⟩:=h;have y:DataW.trod enc Tryz.prog w 0 (fun _=>true) hd fuel 35 E.toList=some (d,p):=by simpa [Value.cells] using G
 obtain ⟨hl,m,hf⟩:=Xj Tryz.underlying35 Vu y;obtain ⟨-,D,z⟩:=Uy Tryz.underlying35 Vu y;simp only at hf z;obtain ⟨yl,tl,bl⟩:=z 0 _ rfl;obtain ⟨yr,tr,br⟩:=z 3 _ rfl;obtain ⟨ys,ts,bs⟩:=z 1 _ rfl;obtain ⟨yt,Y,bt⟩:=z 2 _ rfl
 match E,hl with
 | ⟨[a0,a1,a2,a3,a4,a5,a6,a7,a8,a9]⟩,_ =>
  have F:DataW.trod enc Tryz.prog w 0 (fun _=>true) hd D 29 [a0,a1,a2,a3,a4]=some yl:=by
   have e:=tl;rw [show Tryz.prog.cellsOf (Field.type _)=5 from Vt] at e
   exact e
  have K:DataW.trod enc Tryz.prog w 0 (fun _=>true) hd D 33 [a7,a8,a9]=some yr:=by
   have e:=tr;rw [show Tryz.prog.cellsOf (Field.type _)=3 from X8] at e
   exact e
  have J:DataW.trod enc Tryz.prog w 0 (fun _=>true) hd D 3 [a5]=some ys:=by
   have e:=ts;rw [show Tryz.prog.cellsOf (Field.type _)=1 from yK] at e
   exact e
  have I:DataW.trod enc Tryz.prog w 0 (fun _=>true) hd D 30 [a6]=some yt:=by
   have e:=Y;rw [show Tryz.prog.cellsOf (Field.type _)=1 from uO] at e
   exact e
  obtain ⟨-,ml,b⟩:=Xj Tryz.underlying29 Vt F;obtain ⟨-,mr,c⟩:=Xj Tryz.underlying33 X8 K;obtain ⟨u0,y0,O,t0,-⟩:=b 0 _ rfl yK rfl (by omega)
  obtain ⟨u1,y1,o,t1,-⟩:=b 1 _ rfl V2 rfl (by omega)
  obtain ⟨u2,y2,u,t2,-⟩:=b 2 _ rfl uL rfl (by omega)
  obtain ⟨u3,y3,U,t3,b3⟩:=b 3 _ rfl V4 rfl (by omega)
  obtain ⟨u4,y4,T,t4,b4⟩:=b 4 _ rfl Z8 rfl (by omega)
  obtain ⟨u7,y7,M,t7,-⟩:=c 0 _ rfl uM rfl (by omega)
  obtain ⟨u8,y8,R,t8,-⟩:=c 1 _ rfl yK rfl (by omega)
  obtain ⟨u9,y9,V,Z,b9⟩:=c 2 _ rfl Z8 rfl (by omega)
  simp only [List.getElem?_cons_zero,List.getElem?_cons_succ,Option.some.injEq] at O o u U T M R V;subst O o u U T M R V;obtain ⟨n0,rfl,i0⟩:=zH Tryz.underlying3 t0;obtain ⟨A,rfl,i1⟩:=zH Tryz.underlying26 t1;obtain ⟨B,rfl,i2⟩:=zH Tryz.underlying23 t2;obtain ⟨l3,r3,g3,e3,p3,q3,z3,rfl⟩:=Zu Tryz.underlying27 X7 (by omega) X9 t3 (by omega)
  obtain ⟨s4,rfl,X⟩:=zQ t4 (by omega)
  obtain ⟨n5,rfl,i5⟩:=zH Tryz.underlying3 J;obtain ⟨l6,r6,g6,e6,W,q6,z6,rfl⟩:=Zu Tryz.underlying30 Vs (by omega) vX I (by omega)
  obtain ⟨n7,rfl,i7⟩:=zH Tryz.underlying31 t7;obtain ⟨n8,rfl,i8⟩:=zH Tryz.underlying3 t8;obtain ⟨s9,rfl,i9⟩:=zQ Z (by omega)
  exact ⟨⟨⟨n0,A,B,l3,s4⟩,n5,l6,⟨n7,n8,s9⟩⟩,p3,W,q3,z3,q6,z6,rfl,⟨r3,r6⟩,⟨i0,i1,i2,e3,g3,X,i5,e6,g6,i7,i8,i9⟩⟩
end
end Go.Proofs.YtbjndgachcdbcaaGreatDoor
