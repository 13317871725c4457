import Derived.Test.YtbjndgachcdbcaaGreatDoorPStIn
import Derived.Test.YtbjndgachcdbcaaGreatDoorVLives
namespace Go.Proofs.YtbjndgachcdbcaaGreatDoor
open Go.ChangeShapes Go.WideShapes Go.ChangeAt Go.RowKit
set_option maxRecDepth 100000
instance:Inhabited Bn:=⟨⟨[],⟨0,0,[]⟩⟩⟩
instance:Inhabited Fr:=⟨⟨[],0,[]⟩⟩
instance:Inhabited Sp:=⟨⟨0,0,[],[],false⟩⟩
theorem uU {H:Type} {enc:TypeId × Value→H} {w:World} {fuel:Nat} {hd:Bool} {cs:List Value} {x:DataW H × List MemPlace} {t:TypeId} {fs:Array Field} {k:Nat} (hu:Tryz.prog.underlying t=some (.struct fs)) (hk:Tryz.prog.cellsOf t=k)
  (h:DataW.trod enc Tryz.prog w 0 (fun _=>true) hd fuel t cs=some x) :
  cs.length=k∧∃m,∀(i:Nat) (f:Field),fs[i]?=some f→∃y,DataW.trod enc Tryz.prog w 0 (fun _=>true) hd m f.type ((cs.drop f.offset).take (Tryz.prog.cellsOf f.type))=some y∧Rows.uptoBulk y.1≤Rows.uptoBulk x.1:=by
 obtain ⟨e,m,-,rfl,b,z,o⟩:=DataW.trod_struct hu h;rw [hk] at b;refine ⟨b,m,fun i f hf=>?_⟩
 have q:=o i f hf;have u:i<fs.size:=(Array.getElem?_eq_some_iff.1 hf).1;have c:i<e.length:=by omega
 rw [List.getElem?_eq_getElem c] at q;refine ⟨e[i],q,?_⟩
 have:=yi (List.mem_map.2 ⟨e[i],List.getElem_mem c,rfl⟩:e[i].1∈e.map (·.1))
 simp only [Rows.uptoBulk];omega
theorem uR:Tryz.prog.cellsOf 4=1:=by kernel_rfl
theorem ue:Tryz.prog.cellsOf 31=1:=by kernel_rfl
theorem uf:Tryz.prog.cellsOf 50=1:=by kernel_rfl
theorem Vv:Tryz.prog.cellsOf 27=1:=by kernel_rfl
theorem ug:Tryz.prog.cellsOf 30=1:=by kernel_rfl
theorem xR:Tryz.prog.cellsOf 58=4:=by kernel_rfl
theorem XF:Tryz.prog.cellsOf 52=3:=by kernel_rfl
theorem vK:Tryz.prog.cellsOf 82=5:=by kernel_rfl
theorem vL:Tryz.prog.cellsOf 29=5:=by kernel_rfl
theorem XG:Tryz.prog.cellsOf 33=3:=by kernel_rfl
theorem vM:Tryz.prog.cellsOf 35=10:=by kernel_rfl
section
variable {H:Type} {enc:TypeId × Value→H} {w:World}
theorem vk {fuel:Nat} {hd:Bool} {u:Value} {y:DataW H × List MemPlace} (h:DataW.trod enc Tryz.prog w 0 (fun _=>true) hd fuel 4 [u]=some y):∃b,u=.bool b:=by
 obtain ⟨b,a,-⟩:=DataW.trod_bool Tryz.underlying4 h;simp only [List.cons.injEq,and_true] at a;exact ⟨b,a⟩
theorem Vx {cs:List Value} {o q:Nat} {z:Value} (h:((cs.drop o).take 3)[q]?=some z):cs[o+q]?=some z:=by
 rw [List.getElem?_take] at h
 split at h
 ·rwa [List.getElem?_drop] at h
 ·cases h
theorem vp:xw enc w 58 4 Uj (fun b=>b.name.length≤1048576∧zq b.val):=fun hd fuel cs x h hB=>by
 obtain ⟨e,m,K⟩:=XE Tryz.underlying58 xR h;obtain ⟨-,A,I⟩:=uU Tryz.underlying58 xR h;obtain ⟨u0,M,u,F,R⟩:=K 0 _ rfl Z7 rfl (by omega)
 obtain ⟨H,c,O⟩:=I 1 _ rfl;obtain ⟨s,rfl,J⟩:=zU F (by omega)
 rw [show Tryz.prog.cellsOf (Field.type _)=3 from vg] at c
 obtain ⟨-,v,⟨G,-⟩,B⟩:=xx hd A _ H c (by omega)
 refine ⟨e,⟨s,v⟩,⟨J,G⟩,fun b o hc=>?_⟩
 obtain ⟨y,D,E⟩:=B b (o+1) fun q z hz=>by
  rw [Nat.add_assoc];exact hc _ _ (Vx hz)
 exact ⟨hc 0 _ u,y,D,E⟩
theorem XH:xw enc w 52 3 (Uk (fun q=>q<w.heap.size)) Z6:=fun hd fuel cs x h hB=>by
 obtain ⟨y,m,c⟩:=XE Tryz.underlying52 XF h;obtain ⟨u0,J,B,D,R⟩:=c 0 _ rfl Z7 rfl (by omega)
 obtain ⟨u1,O,H,u,K⟩:=c 1 _ rfl yE rfl (by omega)
 obtain ⟨u2,I,G,E,M⟩:=c 2 _ rfl uf rfl (by omega)
 obtain ⟨s,rfl,z⟩:=zU D (by omega)
 obtain ⟨F,rfl,A⟩:=zD Tryz.underlying3 u;obtain ⟨l,r,g,e,-⟩:=ZT Tryz.underlying50 xR (by omega) vp E (by omega)
 exact ⟨y,⟨s,F,l⟩,⟨z,A,e,g⟩,fun b o hc=>⟨hc 0 _ B,hc 1 _ H,u2,hc 2 _ G,r⟩⟩
theorem vq:xw enc w 82 5 Ur YA:=fun hd fuel cs x h hB=>by
 obtain ⟨K,m,c⟩:=XE Tryz.underlying82 vK h;obtain ⟨u0,Y,q,D,X⟩:=c 0 _ rfl yE rfl (by omega)
 obtain ⟨u1,y1,H,I,Z⟩:=c 1 _ rfl yE rfl (by omega)
 obtain ⟨u2,U,T,M,W⟩:=c 2 _ rfl Z7 rfl (by omega)
 obtain ⟨u3,y3,E,F,b3⟩:=c 3 _ rfl Z7 rfl (by omega)
 obtain ⟨u4,y4,O,B,V⟩:=c 4 _ rfl uR rfl (by omega)
 obtain ⟨J,rfl,z⟩:=zD Tryz.underlying3 D;obtain ⟨R,rfl,e⟩:=zD Tryz.underlying3 I;obtain ⟨A,rfl,y⟩:=zU M (by omega)
 obtain ⟨G,rfl,u⟩:=zU F (by omega)
 obtain ⟨b,rfl⟩:=vk B;exact ⟨K,⟨J,R,A,G,b⟩,⟨z,e,y,u⟩,fun b o hc=>⟨hc 0 _ q,hc 1 _ H,hc 2 _ T,hc 3 _ E,hc 4 _ O⟩⟩
theorem uh {v:Value} {d:DataW H} {p:List MemPlace} {hd:Bool} (hv:∃B:Array Value,v=.agg B) (h:∃fuel,DataW.trod enc Tryz.prog w 0 (fun _=>true) hd fuel 35 v.cells.toList=some (d,p)) (hB:Rows.uptoBulk d≤1048576) :
  ∃(s:Vw) (b1 b2:Option Addr) (E o A y:Nat),v=uS (.slice b1 E o) (.slice b2 A y) s∧zR (fun q=>q<w.heap.size) w s (.slice b1 E o) (.slice b2 A y)∧yz s:=by
 obtain ⟨B,rfl⟩:=hv;obtain ⟨fuel,I⟩:=h;have u:DataW.trod enc Tryz.prog w 0 (fun _=>true) hd fuel 35 B.toList=some (d,p):=by simpa [Value.cells] using I
 obtain ⟨hl,m,hf⟩:=XE Tryz.underlying35 vM u;obtain ⟨-,D,z⟩:=uU Tryz.underlying35 vM u;simp only at hf z;obtain ⟨yl,tl,bl⟩:=z 0 _ rfl;obtain ⟨yr,tr,br⟩:=z 3 _ rfl;obtain ⟨ys,ts,bs⟩:=z 1 _ rfl;obtain ⟨yt,tt,bt⟩:=z 2 _ rfl
 match B,hl with
 | ⟨[a0,a1,a2,a3,a4,a5,a6,a7,a8,a9]⟩,_ =>
  have F:DataW.trod enc Tryz.prog w 0 (fun _=>true) hd D 29 [a0,a1,a2,a3,a4]=some yl:=by
   have e:=tl;rw [show Tryz.prog.cellsOf (Field.type _)=5 from vL] at e
   exact e
  have K:DataW.trod enc Tryz.prog w 0 (fun _=>true) hd D 33 [a7,a8,a9]=some yr:=by
   have e:=tr;rw [show Tryz.prog.cellsOf (Field.type _)=3 from XG] at e
   exact e
  have G:DataW.trod enc Tryz.prog w 0 (fun _=>true) hd D 3 [a5]=some ys:=by
   have e:=ts;rw [show Tryz.prog.cellsOf (Field.type _)=1 from yE] at e
   exact e
  have J:DataW.trod enc Tryz.prog w 0 (fun _=>true) hd D 30 [a6]=some yt:=by
   have e:=tt;rw [show Tryz.prog.cellsOf (Field.type _)=1 from ug] at e
   exact e
  obtain ⟨-,ml,b⟩:=XE Tryz.underlying29 vL F;obtain ⟨-,mr,c⟩:=XE Tryz.underlying33 XG K;obtain ⟨u0,y0,U,t0,-⟩:=b 0 _ rfl yE rfl (by omega)
  obtain ⟨u1,y1,o,t1,-⟩:=b 1 _ rfl Vt rfl (by omega)
  obtain ⟨u2,y2,y,t2,-⟩:=b 2 _ rfl uc rfl (by omega)
  obtain ⟨u3,y3,O,t3,b3⟩:=b 3 _ rfl Vv rfl (by omega)
  obtain ⟨u4,y4,V,t4,b4⟩:=b 4 _ rfl Z7 rfl (by omega)
  obtain ⟨u7,y7,M,t7,-⟩:=c 0 _ rfl ue rfl (by omega)
  obtain ⟨u8,y8,T,t8,-⟩:=c 1 _ rfl yE rfl (by omega)
  obtain ⟨u9,y9,R,t9,b9⟩:=c 2 _ rfl Z7 rfl (by omega)
  simp only [List.getElem?_cons_zero,List.getElem?_cons_succ,Option.some.injEq] at U o y O V M T R;subst U o y O V M T R;obtain ⟨n0,rfl,i0⟩:=zD Tryz.underlying3 t0;obtain ⟨E,rfl,X⟩:=zD Tryz.underlying26 t1;obtain ⟨A,rfl,i2⟩:=zD Tryz.underlying23 t2;obtain ⟨l3,r3,g3,e3,p3,q3,z3,rfl⟩:=ZT Tryz.underlying27 XF (by omega) XH t3 (by omega)
  obtain ⟨W,rfl,i4⟩:=zU t4 (by omega)
  obtain ⟨n5,rfl,i5⟩:=zD Tryz.underlying3 G;obtain ⟨l6,r6,g6,e6,p6,q6,Z,rfl⟩:=ZT Tryz.underlying30 vK (by omega) vq J (by omega)
  obtain ⟨n7,rfl,i7⟩:=zD Tryz.underlying31 t7;obtain ⟨n8,rfl,i8⟩:=zD Tryz.underlying3 t8;obtain ⟨Y,rfl,i9⟩:=zU t9 (by omega)
  exact ⟨⟨⟨n0,E,A,l3,W⟩,n5,l6,⟨n7,n8,Y⟩⟩,p3,p6,q3,z3,q6,Z,rfl,⟨r3,r6⟩,⟨i0,X,i2,e3,g3,i4,i5,e6,g6,i7,i8,i9⟩⟩
end
end Go.Proofs.YtbjndgachcdbcaaGreatDoor
