import Derived.Test.YtbjndgachcdbcaaGreatDoorPStIn
import Derived.Test.YtbjndgachcdbcaaGreatDoorVLives
namespace Go.Proofs.YtbjndgachcdbcaaGreatDoor
open Go.ChangeShapes Go.WideShapes Go.ChangeAt Go.RowKit
set_option maxRecDepth 100000
instance:Inhabited Bn:=⟨⟨[],⟨0,0,[]⟩⟩⟩
instance:Inhabited Fr:=⟨⟨[],0,[]⟩⟩
instance:Inhabited Sp:=⟨⟨0,0,[],[],false⟩⟩
theorem Ua {H:Type} {enc:TypeId × Value→H} {w:World} {fuel:Nat} {hd:Bool} {cs:List Value} {x:DataW H × List MemPlace} {t:TypeId} {fs:Array Field} {k:Nat} (hu:Tryz.prog.underlying t=some (.struct fs)) (hk:Tryz.prog.cellsOf t=k)
  (h:DataW.trod enc Tryz.prog w 0 (fun _=>true) hd fuel t cs=some x) :
  cs.length=k∧∃m,∀(i:Nat) (f:Field),fs[i]?=some f→∃y,DataW.trod enc Tryz.prog w 0 (fun _=>true) hd m f.type ((cs.drop f.offset).take (Tryz.prog.cellsOf f.type))=some y∧Rows.uptoBulk y.1≤Rows.uptoBulk x.1:=by
 obtain ⟨c,m,-,rfl,b,z,o⟩:=DataW.trod_struct hu h;rw [hk] at b;refine ⟨b,m,fun i f hf=>?_⟩
 have q:=o i f hf;have u:i<fs.size:=(Array.getElem?_eq_some_iff.1 hf).1;have e:i<c.length:=by omega
 rw [List.getElem?_eq_getElem e] at q;refine ⟨c[i],q,?_⟩
 have:=yo (List.mem_map.2 ⟨c[i],List.getElem_mem e,rfl⟩:c[i].1∈c.map (·.1))
 simp only [Rows.uptoBulk];omega
theorem uY:Tryz.prog.cellsOf 4=1:=by kernel_rfl
theorem ul:Tryz.prog.cellsOf 31=1:=by kernel_rfl
theorem um:Tryz.prog.cellsOf 50=1:=by kernel_rfl
theorem VE:Tryz.prog.cellsOf 27=1:=by kernel_rfl
theorem un:Tryz.prog.cellsOf 30=1:=by kernel_rfl
theorem xW:Tryz.prog.cellsOf 58=4:=by kernel_rfl
theorem XN:Tryz.prog.cellsOf 52=3:=by kernel_rfl
theorem vS:Tryz.prog.cellsOf 82=5:=by kernel_rfl
theorem vT:Tryz.prog.cellsOf 29=5:=by kernel_rfl
theorem XO:Tryz.prog.cellsOf 33=3:=by kernel_rfl
theorem vU:Tryz.prog.cellsOf 35=10:=by kernel_rfl
section
variable {H:Type} {enc:TypeId × Value→H} {w:World}
theorem vy {fuel:Nat} {hd:Bool} {u:Value} {y:DataW H × List MemPlace} (h:DataW.trod enc Tryz.prog w 0 (fun _=>true) hd fuel 4 [u]=some y):∃b,u=.bool b:=by
 obtain ⟨b,a,-⟩:=DataW.trod_bool Tryz.underlying4 h;simp only [List.cons.injEq,and_true] at a;exact ⟨b,a⟩
theorem VF {cs:List Value} {o q:Nat} {z:Value} (h:((cs.drop o).take 3)[q]?=some z):cs[o+q]?=some z:=by
 rw [List.getElem?_take] at h
 split at h
 ·rwa [List.getElem?_drop] at h
 ·cases h
theorem vz:xB enc w 58 4 Uq (fun b=>b.name.length≤1048576∧zq b.val):=fun hd fuel cs x h hB=>by
 obtain ⟨K,m,e⟩:=XM Tryz.underlying58 xW h;obtain ⟨-,B,J⟩:=Ua Tryz.underlying58 xW h;obtain ⟨u0,R,G,D,M⟩:=e 0 _ rfl yb rfl (by omega)
 obtain ⟨E,c,O⟩:=J 1 _ rfl;obtain ⟨s,rfl,u⟩:=zS D (by omega)
 rw [show Tryz.prog.cellsOf (Field.type _)=3 from vx] at c
 obtain ⟨-,v,⟨A,-⟩,I⟩:=xC hd B _ E c (by omega)
 refine ⟨K,⟨s,v⟩,⟨u,A⟩,fun b o hc=>?_⟩
 obtain ⟨y,F,H⟩:=I b (o+1) fun q z hz=>by
  rw [Nat.add_assoc];exact hc _ _ (VF hz)
 exact ⟨hc 0 _ G,y,F,H⟩
theorem XP:xB enc w 52 3 (Ur (fun q=>q<w.heap.size)) Z8:=fun hd fuel cs x h hB=>by
 obtain ⟨H,m,c⟩:=XM Tryz.underlying52 XN h;obtain ⟨u0,R,E,B,M⟩:=c 0 _ rfl yb rfl (by omega)
 obtain ⟨u1,K,F,u,O⟩:=c 1 _ rfl yF rfl (by omega)
 obtain ⟨u2,J,y,A,I⟩:=c 2 _ rfl um rfl (by omega)
 obtain ⟨s,rfl,z⟩:=zS B (by omega)
 obtain ⟨D,rfl,G⟩:=zB Tryz.underlying3 u;obtain ⟨l,r,g,e,-⟩:=ZQ Tryz.underlying50 xW (by omega) vz A (by omega)
 exact ⟨H,⟨s,D,l⟩,⟨z,G,e,g⟩,fun b o hc=>⟨hc 0 _ E,hc 1 _ F,u2,hc 2 _ y,r⟩⟩
theorem vA:xB enc w 82 5 Uy YA:=fun hd fuel cs x h hB=>by
 obtain ⟨R,m,c⟩:=XM Tryz.underlying82 vS h;obtain ⟨u0,y0,y,K,b0⟩:=c 0 _ rfl yF rfl (by omega)
 obtain ⟨u1,Z,A,e,V⟩:=c 1 _ rfl yF rfl (by omega)
 obtain ⟨u2,Y,q,J,U⟩:=c 2 _ rfl yb rfl (by omega)
 obtain ⟨u3,X,M,H,b3⟩:=c 3 _ rfl yb rfl (by omega)
 obtain ⟨u4,y4,I,E,W⟩:=c 4 _ rfl uY rfl (by omega)
 obtain ⟨B,rfl,F⟩:=zB Tryz.underlying3 K;obtain ⟨u,rfl,D⟩:=zB Tryz.underlying3 e;obtain ⟨T,rfl,z⟩:=zS J (by omega)
 obtain ⟨G,rfl,O⟩:=zS H (by omega)
 obtain ⟨b,rfl⟩:=vy E;exact ⟨R,⟨B,u,T,G,b⟩,⟨F,D,z,O⟩,fun b o hc=>⟨hc 0 _ y,hc 1 _ A,hc 2 _ q,hc 3 _ M,hc 4 _ I⟩⟩
theorem uo {v:Value} {d:DataW H} {p:List MemPlace} {hd:Bool} (hv:∃E:Array Value,v=.agg E) (h:∃fuel,DataW.trod enc Tryz.prog w 0 (fun _=>true) hd fuel 35 v.cells.toList=some (d,p)) (hB:Rows.uptoBulk d≤1048576) :
  ∃(s:Vw) (b1 b2:Option Addr) (A y D o:Nat),v=ut (.slice b1 A y) (.slice b2 D o) s∧zL (fun q=>q<w.heap.size) w s (.slice b1 A y) (.slice b2 D o)∧Z9 s:=by
 obtain ⟨E,rfl⟩:=hv;obtain ⟨fuel,J⟩:=h;have u:DataW.trod enc Tryz.prog w 0 (fun _=>true) hd fuel 35 E.toList=some (d,p):=by simpa [Value.cells] using J
 obtain ⟨hl,m,hf⟩:=XM Tryz.underlying35 vU u;obtain ⟨-,B,z⟩:=Ua Tryz.underlying35 vU u;simp only at hf z;obtain ⟨yl,tl,bl⟩:=z 0 _ rfl;obtain ⟨yr,tr,br⟩:=z 3 _ rfl;obtain ⟨ys,ts,bs⟩:=z 1 _ rfl;obtain ⟨yt,tt,bt⟩:=z 2 _ rfl
 match E,hl with
 | ⟨[a0,a1,a2,a3,a4,a5,a6,a7,a8,a9]⟩,_ =>
  have I:DataW.trod enc Tryz.prog w 0 (fun _=>true) hd B 29 [a0,a1,a2,a3,a4]=some yl:=by
   have e:=tl;rw [show Tryz.prog.cellsOf (Field.type _)=5 from vT] at e
   exact e
  have G:DataW.trod enc Tryz.prog w 0 (fun _=>true) hd B 33 [a7,a8,a9]=some yr:=by
   have e:=tr;rw [show Tryz.prog.cellsOf (Field.type _)=3 from XO] at e
   exact e
  have K:DataW.trod enc Tryz.prog w 0 (fun _=>true) hd B 3 [a5]=some ys:=by
   have e:=ts;rw [show Tryz.prog.cellsOf (Field.type _)=1 from yF] at e
   exact e
  have F:DataW.trod enc Tryz.prog w 0 (fun _=>true) hd B 30 [a6]=some yt:=by
   have e:=tt;rw [show Tryz.prog.cellsOf (Field.type _)=1 from un] at e
   exact e
  obtain ⟨-,ml,b⟩:=XM Tryz.underlying29 vT I;obtain ⟨-,mr,c⟩:=XM Tryz.underlying33 XO G;obtain ⟨u0,y0,O,t0,-⟩:=b 0 _ rfl yF rfl (by omega)
  obtain ⟨u1,y1,y,W,-⟩:=b 1 _ rfl VC rfl (by omega)
  obtain ⟨u2,y2,o,t2,-⟩:=b 2 _ rfl uj rfl (by omega)
  obtain ⟨u3,y3,T,t3,b3⟩:=b 3 _ rfl VE rfl (by omega)
  obtain ⟨u4,y4,U,t4,b4⟩:=b 4 _ rfl yb rfl (by omega)
  obtain ⟨u7,y7,V,t7,-⟩:=c 0 _ rfl ul rfl (by omega)
  obtain ⟨u8,y8,M,t8,-⟩:=c 1 _ rfl yF rfl (by omega)
  obtain ⟨u9,y9,R,t9,b9⟩:=c 2 _ rfl yb rfl (by omega)
  simp only [List.getElem?_cons_zero,List.getElem?_cons_succ,Option.some.injEq] at O y o T U V M R;subst O y o T U V M R;obtain ⟨n0,rfl,i0⟩:=zB Tryz.underlying3 t0;obtain ⟨A,rfl,i1⟩:=zB Tryz.underlying26 W;obtain ⟨D,rfl,i2⟩:=zB Tryz.underlying23 t2;obtain ⟨l3,r3,g3,Z,p3,q3,z3,rfl⟩:=ZQ Tryz.underlying27 XN (by omega) XP t3 (by omega)
  obtain ⟨s4,rfl,i4⟩:=zS t4 (by omega)
  obtain ⟨n5,rfl,i5⟩:=zB Tryz.underlying3 K;obtain ⟨l6,r6,g6,e6,Y,X,z6,rfl⟩:=ZQ Tryz.underlying30 vS (by omega) vA F (by omega)
  obtain ⟨n7,rfl,i7⟩:=zB Tryz.underlying31 t7;obtain ⟨n8,rfl,i8⟩:=zB Tryz.underlying3 t8;obtain ⟨s9,rfl,i9⟩:=zS t9 (by omega)
  exact ⟨⟨⟨n0,A,D,l3,s4⟩,n5,l6,⟨n7,n8,s9⟩⟩,p3,Y,q3,z3,X,z6,rfl,⟨r3,r6⟩,⟨i0,i1,i2,Z,g3,i4,i5,e6,g6,i7,i8,i9⟩⟩
end
end Go.Proofs.YtbjndgachcdbcaaGreatDoor
