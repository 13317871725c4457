import Derived.Test.YtbjndgachcdbcaaGreatDoorVIter
import Derived.Test.YtbjndgachcdbcaaGreatDoorVMixL
import Derived.Test.YtbjndgachcdbcaaGreatDoorVFrame
import Derived.Test.YtbjndgachcdbcaaGreatDoorVStop
import Derived.Test.YtbjndgachcdbcaaGreatDoorVReply
import Derived.Test.YtbjndgachcdbcaaGreatDoorVOut
import Derived.Test.YtbjndgachcdbcaaGreatDoorVMay
import Derived.Deep.DeepCutAuto
namespace Go.Proofs.YtbjndgachcdbcaaGreatDoor
open Go.RowKit Go.Shelf
set_option maxHeartbeats 16000000
set_option maxRecDepth 100000
attribute [local go_sem] Oper.semAt_some
structure ZQ (w W:World) (X:Nat) (xs:Array Value) (hp r:Value) (l:List (List UInt8)):Prop where
 view:W.heap[w.heap.size]?=some (.cells xs 35 (0,0))
 ptr:W.heap[w.heap.size+1]?=some (.cells #[hp] 37 (0,0))
 box:W.heap[X]?=some (.cells #[r] 41 (0,0))
 low:w.heap.size≤X
 strs:zj w.heap.size w W r l
theorem ZQ.new {w W W':World} {X:Nat} {xs:Array Value} {hp r:Value} {l:List (List UInt8)} (h:ZQ w W X xs hp r l) (hb:Below W.heap.size W W'):ZQ w W' X xs hp r l :=
 ⟨(hb.block _ (zc h.view)).trans h.view,(hb.block _ (zc h.ptr)).trans h.ptr,(hb.block _ (zc h.box)).trans h.box,h.low,h.strs.new hb⟩
theorem zt {w:World} {N:Nat} {x0:Value} {ty:TypeId} (h:w.heap[N]?=some (.cells #[x0] ty (0,0))):w.cell? ⟨N,0,none⟩=some x0:=by
 simp only [World.cell?,h];rfl
theorem ZQ.put {w W W3:World} {X:Nat} {xs:Array Value} {hp r v:Value} {l m:List (List UInt8)} {o:Obj} (h:ZQ w W X xs hp r l) (hj:zj w.heap.size w W3 v m) (hg:(W.alloc o).grownBy W3 r.ownBlock):ZQ w (W3.setCell ⟨X,0,none⟩ v) X xs hp v m:=by
 have q:=zk (h.strs.row.alloc _) hg ((Below.heap_alloc _ _ _ (zc h.view)).trans h.view) (by decide)
 have c:=zk (h.strs.row.alloc _) hg ((Below.heap_alloc _ _ _ (zc h.ptr)).trans h.ptr) (by decide)
 have b:=zk (h.strs.row.alloc _) hg ((Below.heap_alloc _ _ _ (zc h.box)).trans h.box) (by decide)
 have z:w.heap.size≠X:=fun e=>by rw [e,b] at q;simp at q
 have y:w.heap.size+1≠X:=fun e=>by rw [e,b] at c;simp at c
 refine ⟨(Below.heap_setCell _ _ _ _ (by simpa using z)).trans q,(Below.heap_setCell _ _ _ _ (by simpa using y)).trans c,?_,h.low,⟨?_,hj.below.setCell (p:=⟨X,0,none⟩) h.low _,by simpa using hj.low⟩⟩
 ·have:=heap_setCell_same W3 X 0 #[r] 41 v b
  simpa using this
 ·refine ownsRow_setCell_other hj.row (a:=⟨X,0,none⟩) (fun e=>?_) _
  obtain ⟨x,u⟩:=Zg hj.row e;rw [b] at u
  simp at u
theorem zE {w:World} {N:Nat} {x0 x1 x2 x3 x4 x5 x6 x7 x8 x9:Value} {ty:TypeId} (h:w.heap[N]?=some (.cells #[x0,x1,x2,x3,x4,x5,x6,x7,x8,x9] ty (0,0))):w.cell? ⟨N,0,none⟩=some x0∧w.cell? ⟨N,1,none⟩=some x1∧w.cell? ⟨N,2,none⟩=some x2∧w.cell? ⟨N,3,none⟩=some x3∧w.cell? ⟨N,4,none⟩=some x4∧w.cell? ⟨N,5,none⟩=some x5∧w.cell? ⟨N,6,none⟩=some x6∧w.cell? ⟨N,7,none⟩=some x7∧w.cell? ⟨N,8,none⟩=some x8∧w.cell? ⟨N,9,none⟩=some x9:=by
 refine ⟨?_,?_,?_,?_,?_,?_,?_,?_,?_,?_⟩ <;> (simp only [World.cell?,h];rfl)
theorem zF {w:World} {N:Nat} {o:Obj} (h:w.heap[N]?=some o):N<w.heap.size:=(Array.getElem?_eq_some_iff.1 h).1
theorem yM (os:List Ob) (sel:Int):∀(k:Nat) (l:List Fr) (f:Fr),zl os sel k (l++[f])=zl os sel k l++[Zy os f (decide (((k+l.length:Nat):Int)=sel))]
 | k,[],f=>by simp [zl]
 | k,x::t,f=>by
  rw [List.cons_append,zl,yM os sel (k+1) t f,zl,List.cons_append,List.length_cons,show k+1+t.length=k+(t.length+1) by omega]
theorem ZV (os:List Ob) (sel:Int):∀(k:Nat) (l:List Fr),(zl os sel k l).length=l.length
 | _,[]=>rfl
 | k,_::t=>by rw [zl,List.length_cons,ZV os sel (k+1) t,List.length_cons]
theorem xf (os:List Ob) (sel:Int) (frames:List Fr) {i k:Nat} (hk:k<frames.length) (h:frames.length=k+1+i):zl os sel 0 (frames.reverse.take (i+1))=zl os sel 0 (frames.reverse.take i)++[Zy os frames[k] (decide ((i:Int)=sel))]:=by
 have m:i<frames.reverse.length:=by rw [List.length_reverse];omega
 have e:frames.reverse.take i++[frames.reverse[i]]=frames.reverse.take (i+1):=List.take_append_getElem m
 have c:frames.reverse[i]=frames[k]:=by
  rw [List.getElem_reverse]
  congr 1
  omega
 have b:(frames.reverse.take i).length=i:=by rw [List.length_take];omega
 rw [←e,yM,c,b,Nat.zero_add]
abbrev Yn (pos status fault:Int) (vf:Value) (out:List UInt8) (sel:Int) (vs:Value) (err n:Int) (says:List UInt8):Array Value:=#[.int .i64 pos,.int .i64 status,.int .i64 fault,vf,.string (za out),.int .i64 sel,vs,.int .i64 err,.int .i64 n,.string (za says)]
theorem ZQ.turn {w W W':World} {X:Nat} {xs:Array Value} {hp r:Value} {l:List (List UInt8)} (h:ZQ w W X xs hp r l) (hB:Below w.heap.size W W') (hk:∀(b:Nat) (c:Array Value) (ty:TypeId) (z:Nat × Nat),W.heap[b]?=some (.cells c ty z)→W'.heap[b]?=W.heap[b]?):ZQ w W' X xs hp r l :=
 ⟨(hk _ _ _ _ h.view).trans h.view,(hk _ _ _ _ h.ptr).trans h.ptr,(hk _ _ _ _ h.box).trans h.box,h.low,
  ⟨zm h.strs.row fun k e _=>by obtain ⟨c,m⟩:=Zg h.strs.row e;exact hk _ _ _ _ m,h.strs.below.trans hB,Nat.le_trans h.strs.low hB.size⟩⟩
structure Vn (w:World) (X D Bn:Nat) (xs:Array Value) (hp sl:Value) (os:List Ob) (sel:Int) (frames:List Fr) (pl:List UInt8) (ob:Obj) (i:Nat) (W:World):Prop where
 lin:∃r,ZQ w W X xs hp r ([pl]++zl os sel 0 (frames.reverse.take i))
 dfr:W.heap[D]?=some (.deferred (some []))
 loop:W.heap[D+1]?=some ob
 itr:W.heap[Bn]?=some (.cells #[sl] 27 (0,0))
 wD:w.heap.size≤D
theorem Vn.turn {w:World} {X D Bn:Nat} {xs:Array Value} {hp sl:Value} {os:List Ob} {sel:Int} {frames:List Fr} {pl:List UInt8} {ob ob':Obj} {i:Nat} {W W':World} (h:Vn w X D Bn xs hp sl os sel frames pl ob i W) (hob:ob.isCells=false)
  (hB:Below w.heap.size W W') (hk:∀b,b<W.heap.size→b≠D+1→W'.heap[b]?=W.heap[b]?) (h4:W'.heap[D+1]?=some ob'):Vn w X D Bn xs hp sl os sel frames pl ob' i W':=by
 have c:∀(k:Nat) (cur:Array Value) (e:TypeId) (z:Nat × Nat),W.heap[k]?=some (Obj.cells cur e z)→W'.heap[k]?=W.heap[k]?:=fun k cur e z hh=>by
  refine hk k (Array.getElem?_eq_some_iff.1 hh).1 (fun e'=>?_)
  have m:=h.loop;subst e';rw [hh] at m;cases m
  cases hob
 obtain ⟨r,o⟩:=h.lin;exact ⟨⟨r,o.turn hB c⟩,(hk _ (Array.getElem?_eq_some_iff.1 h.dfr).1 (by omega)).trans h.dfr,h4,(c _ _ _ _ h.itr).trans h.itr,h.wD⟩
theorem Vn.step {w:World} {X D Bn:Nat} {xs:Array Value} {hp sl r v:Value} {os:List Ob} {sel:Int} {frames:List Fr} {pl:List UInt8} {ob o:Obj} {i:Nat} {Wb z1 z3:World} {l:List (List UInt8)} (h:Vn w X D Bn xs hp sl os sel frames pl ob i Wb) (hob:ob.isCells=false)
  (hb:Below Wb.heap.size Wb z1) (hL:ZQ w z1 X xs hp r l) (hg:(z1.alloc o).grownBy z3 r.ownBlock) (hN:ZQ w (z3.setCell ⟨X,0,none⟩ v) X xs hp v ([pl]++zl os sel 0 (frames.reverse.take (i+1)))):Vn w X D Bn xs hp sl os sel frames pl ob (i+1) (z3.setCell ⟨X,0,none⟩ v):=by
 have x:=zk (hL.strs.row.alloc _) hg ((Below.heap_alloc _ _ _ (zc hL.box)).trans hL.box) (by decide)
 have c:∀(q:Nat) (o':Obj),Wb.heap[q]?=some o'→(∀b z,o'≠.cells b 9 z)→(∀b z,o'≠.cells b 41 z)→(z3.setCell ⟨X,0,none⟩ v).heap[q]?=some o':=by
  intro q o' y G F;have A:z1.heap[q]?=some o':=(hb.block _ (zF y)).trans y;have m:(z1.alloc o).heap[q]?=some o':=(Below.heap_alloc _ _ _ (zF A)).trans A
  have B:z3.heap[q]?=some o':=(hg.block q (zF m) (fun e=>by
   obtain ⟨b,u⟩:=Zg (hL.strs.row.alloc o) e.symm;rw [m] at u
   exact G _ _ (Option.some.inj u))).trans m
  have E:q≠X:=fun e=>by
   subst e;rw [B] at x;exact F _ _ (Option.some.inj x)
  exact (Below.heap_setCell _ _ _ _ (by simpa using E)).trans B
 exact ⟨⟨_,hN⟩,c _ _ h.dfr (fun _ _ e=>by cases e) (fun _ _ e=>by cases e),c _ _ h.loop (fun _ _ e=>by rw [e] at hob;cases hob) (fun _ _ e=>by rw [e] at hob;cases hob),c _ _ h.itr (fun _ _ e=>by simp at e) (fun _ _ e=>by simp at e),h.wD⟩
structure YD (w W0 W:World) (X:Nat) (G:Nat→Prop) (xs:Array Value) (hp r:Value) (l:List (List UInt8)):Prop where
 lin:ZQ w W X xs hp r l
 kept:∀q,G q→W.heap[q]?=W0.heap[q]?
 gs:∀q,G q→q<W0.heap.size
 size:W0.heap.size≤W.heap.size
 away:∀q,r.ownBlock=some q→¬ G q
 far:¬ G X
theorem YD.new {w W0 W W':World} {X:Nat} {G:Nat→Prop} {xs:Array Value} {hp r:Value} {l:List (List UInt8)} (h:YD w W0 W X G xs hp r l) (hb:Below W.heap.size W W'):YD w W0 W' X G xs hp r l :=
 ⟨h.lin.new hb,fun q hq=>(hb.block q (by have:=h.gs q hq;have:=h.size;omega)).trans (h.kept q hq),h.gs,Nat.le_trans h.size hb.size,h.away,h.far⟩
theorem YD.put {w W0 z1 z3:World} {X:Nat} {G:Nat→Prop} {xs:Array Value} {hp r v:Value} {l m:List (List UInt8)} {o:Obj} (h:YD w W0 z1 X G xs hp r l) (hj:zj w.heap.size w z3 v m) (hg:(z1.alloc o).grownBy z3 r.ownBlock) (hloc:v.ownBlock=r.ownBlock∨∃k,v.ownBlock=some k∧(z1.alloc o).heap.size≤k):YD w W0 (z3.setCell ⟨X,0,none⟩ v) X G xs hp v m:=by
 have y:=hg.size;have A:=h.size;refine ⟨h.lin.put hj hg,fun q hq=>?_,h.gs,by simp;simp at y;omega,fun q e hq=>?_,h.far⟩
 ·have b:=h.gs q hq
  have x:q≠X:=fun e=>h.far (by rw [←e];exact hq)
  rw [Below.heap_setCell _ _ _ _ (by simpa using x),hg.block q (by simp;omega) (fun e=>h.away q e.symm hq),Below.heap_alloc _ _ _ (by omega)]
  exact h.kept q hq
 ·have b:=h.gs q hq
  rcases hloc with c | ⟨k,c,u⟩
  ·exact h.away q (c.symm.trans e) hq
  ·rw [c] at e
   have z:k=q:=Option.some.inj e
   simp at u
   omega
theorem zO {ops:Array Oper} {o:Oper} {a:Act} {w:World} {K:Act→World→Prop} {Q:Exit→Act→World→Prop} {E:Prop} (s x:Operand)
  (ho:o.op=.call { callee:=.builtin .append,args:=#[s,x],argTypes:=#[41,41] }) (hw:Region.wanted o (yielded ops a.tmps)=true)
  (B:Nat) (v:Value) (l m:List (List UInt8)) (hs:a.eval s=v) (w1:World) (w0:World) (hj:zj B w0 w1 v l) (hw1:w=w1.alloc (.cells (strC m).toArray 9)) (hx:a.eval x=.slice (some ⟨w1.heap.size,0,none⟩) m.length m.length)
  (hb:l.length+m.length≤4294967296)
  (h:∀b u,zj B w0 u b (l++m)→w.grownBy u v.ownBlock→(b.ownBlock=v.ownBlock∨∃k,b.ownBlock=some k∧w.heap.size≤k)→K (a.put o.dst b) u) :
  if Region.wanted o (yielded ops a.tmps)=true then Oper.wp Tryz.prog o a w K Q else E:=by
 obtain ⟨G,H,y,z,D⟩:=info_parts Yd;subst hw1;have F:=hj.low;refine ZP s x 41 ho hw B 9 G (.string ⟨#[]⟩) 1 16 Tryz.underlying41 H y z D rfl (by decide) v l.length _ hs (hj.row.alloc _) ⟨w1.heap.size,0,none⟩ m.length m.length (strC m) hx (by rw [ZH,Nat.mul_one]) (ya _ _ _) (Yc m) (by unfold maxLen;omega) (by omega) (by simp;omega) ?_
 intro b u A q c;exact h b u (hj.app ((Below.refl _ _).alloc (Nat.le_refl _) _) A q) q (c.imp id fun e=>⟨_,e,Nat.le_refl _⟩)
theorem YV:∀(ls:List (List UInt8)) (s:List UInt8),s∈ls→s.length≤(zi ls).length
 | [],_,h=>by cases h
 | x::t,s,h=>by
  have e:zi (x::t)=(x++[10])++zi t:=rfl;rw [e,List.length_append,List.length_append];rcases List.mem_cons.1 h with rfl | h
  ·omega
  ·have:=YV t s h;omega
theorem vJ (out s:List UInt8) (h:s∈Yx out):s.length≤out.length:=by
 obtain ⟨rest,-,b,-⟩:=Zu out [] (fun _ h=>by cases h)
 have e:=YV _ s (List.mem_of_mem_drop h);rw [List.nil_append] at b;have c:=congrArg List.length b;rw [List.length_append] at c;omega
theorem vK (out:List UInt8):(Yx out).length≤4:=by unfold Yx vE;rw [List.length_drop];omega
theorem xP {α β:Type} (f:α→β) (l:List α) {i:Nat} (h:i<l.length):(l.take (i+1)).map f=(l.take i).map f++[f l[i]]:=by
 have e:l.take i++[l[i]]=l.take (i+1):=List.take_append_getElem h;rw [←e,List.map_append];rfl
theorem zj.putObj {B D:Nat} {w0 w:World} {v:Value} {l:List (List UInt8)} {o o':Obj} (h:zj B w0 w v l) (hd:w.heap[D]?=some o) (ho:o.isCells=false) (hD:B≤D):zj B w0 (w.putObj D o') v l:=by
 refine ⟨zm h.row fun k e _=>?_,h.below.grown (grownBy_putObj' _ _ _) h.low (fun k e=>by cases e;omega),?_⟩
 ·obtain ⟨c,b⟩:=Zg h.row e
  refine World.putObj_heap_other fun e'=>?_
  rw [e',hd] at b;cases b
  cases ho
 ·have:=(grownBy_putObj' w D o').size
  exact Nat.le_trans h.low this
theorem X4 {S T:Nat→Prop} {most:Nat} {os:List Ob} {h:Nat} {vo vc:Value} (v:Vw) (vf vs:Value) (w:World) (H:zA S w most os h vo vc) (hv:Zl T w v vf vs) (hs:Xh v) (ht:yW w) :
  Calls Tryz.prog 13 #[VS vf vs v,.pointer (some ⟨h,0,none⟩)] w fun e w'=>(Vh os.length v=false∧e=.returned (.tuple #[.slice none 0 0,.int .i64 2])∧Below w.heap.size w w')∨(Vh os.length v=true∧∃r,e=.returned (.tuple #[r,.int .i64 0])∧zj w.heap.size w w' r (Y6 os v)):=by
 have HH:Hid (zA S w most os h vo vc):=H;have HV:Hid (Zl T w v vf vs):=hv;have HS:Hid (Xh v):=hs;have HT:Hid (yW w):=ht;obtain ⟨R,U,rfl,bd,bT,aM⟩:=hv.frames.at;obtain ⟨bs,cs,rfl,bl,cy,aO⟩:=hv.stops.at;obtain ⟨⟨B,m,fault,frames,out⟩,z,x,⟨A,n,y⟩⟩:=v;simp only at aM aO bd bl;have ce:Hid (∀i (hi:i<frames.length),∃b o,R=some ⟨b,o,none⟩∧T b∧b<w.heap.size∧VR T w b (o+i*3) frames[i]):=aM;have cg:Hid (∀i (hi:i<x.length),∃b o,bs=some ⟨b,o,none⟩∧T b∧b<w.heap.size∧VW w b (o+i*5) x[i]):=aO;obtain ⟨w2,cj,an,cY,h0,h1⟩:=VV w (.cells #[.int .i64 B,.int .i64 m,.int .i64 fault,.slice R frames.length U,.string (za out),.int .i64 z,.slice bs x.length cs,.int .i64 A,.int .i64 n,.string (za y)] 35) (.cells #[.pointer (some ⟨h,0,none⟩)] 37);have bP:Hid (w2=(w.alloc (.cells #[.int .i64 B,.int .i64 m,.int .i64 fault,.slice R frames.length U,.string (za out),.int .i64 z,.slice bs x.length cs,.int .i64 A,.int .i64 n,.string (za y)] 35)).alloc (.cells #[.pointer (some ⟨h,0,none⟩)] 37)):=cj;have bR:Hid (Below w.heap.size w w2):=an;have cd:Hid (w2.heap[w.heap.size]?=some (.cells #[.int .i64 B,.int .i64 m,.int .i64 fault,.slice R frames.length U,.string (za out),.int .i64 z,.slice bs x.length cs,.int .i64 A,.int .i64 n,.string (za y)] 35 (0,0))):=h0;have cB:Hid (w2.heap[w.heap.size+1]?=some (.cells #[.pointer (some ⟨h,0,none⟩)] 37 (0,0))):=h1;have ci:=XY w2 (H.below an) (ht.below an (Nat.le_refl _)).tabs;obtain ⟨p0,p1,p2,p3,p4,p5,p6,p7,p8,p9⟩:=zE h0;have pp:=zt h1
 have ch:Hid (∀W,Below w.heap.size w W→Calls Tryz.prog 23 #[.agg #[.int .i64 B,.int .i64 m,.int .i64 fault,.slice R frames.length U,.string (za out)],.pointer (some ⟨h,0,none⟩)] W fun e w'=>e=.returned (.bool (xM os.length m fault frames))∧Below W.heap.size W w'):=fun W hW =>
  xO _ B m fault out frames W (HH.out.below hW) (HV.out.below hW).frames HS.out.frames HS.out.nframes (HT.out.below hW (Nat.le_refl _))
 have HM:Hid (Vh os.length ⟨⟨B,m,fault,frames,out⟩,z,x,⟨A,n,y⟩⟩=xM os.length m fault frames):=rfl
 have cF:Hid (xM os.length m fault frames=true→0≤m∧m≤2):=fun h=>by
  unfold xM at h
  simp only [Bool.and_eq_true,decide_eq_true_eq] at h;exact h.1.1
 obtain ⟨M,hM⟩:∃M,M=xM os.length m fault frames:=⟨_,rfl⟩;rw [←hM] at HM ch cF;clear cj an h0 h1 cY H hv hs ht aM aO bd bT bl cy hM;refine (callsIn_wide (n:=5)).1 ?_;refine callsIn_of_wp_marks Tryz.func13 rfl trivial ?_ rfl;simp only [Tryz.ntmps13,List.size_toArray,List.length_cons,List.length_nil,Nat.reduceAdd,Nat.reduceSub,Array.replicate_succ,Array.replicate_zero,List.push_toArray,List.append_toArray,List.nil_append,List.cons_append];refine wpIn_wide.2 ?_;go_wp2_with fail
 rw [←bP.out];refine ci.mono ?_;clear ci p0 p1 p2 p3 p4 p5 p6 p7 p8 p9 pp;rintro e w3 ⟨rfl,aY⟩;have bA:Hid (Below w.heap.size w w3):=bR.out.trans (aY.mono bR.out.size);have bM:Hid (w3.heap[w.heap.size]?=some (.cells #[.int .i64 B,.int .i64 m,.int .i64 fault,.slice R frames.length U,.string (za out),.int .i64 z,.slice bs x.length cs,.int .i64 A,.int .i64 n,.string (za y)] 35 (0,0))):=(aY.block _ (zc cd.out)).trans cd.out;have bJ:Hid (w3.heap[w.heap.size+1]?=some (.cells #[.pointer (some ⟨h,0,none⟩)] 37 (0,0))):=(aY.block _ (zc cB.out)).trans cB.out;obtain ⟨p0,p1,p2,p3,p4,p5,p6,p7,p8,p9⟩:=zE bM.out;have pp:=zt bJ.out;have cm:=ch.out w3 bA.out;clear aY;go_wp2_with fail
 refine cm.mono ?_;clear cm p0 p1 p2 p3 p4 p5 p6 p7 p8 p9 pp;rintro e w4 ⟨rfl,a8⟩;have ba:Hid (Below w.heap.size w w4):=bA.out.trans (a8.mono bA.out.size);have bC:Hid (w4.heap[w.heap.size]?=some (.cells #[.int .i64 B,.int .i64 m,.int .i64 fault,.slice R frames.length U,.string (za out),.int .i64 z,.slice bs x.length cs,.int .i64 A,.int .i64 n,.string (za y)] 35 (0,0))):=(a8.block _ (zc bM.out)).trans bM.out;have aE:Hid (w4.heap[w.heap.size+1]?=some (.cells #[.pointer (some ⟨h,0,none⟩)] 37 (0,0))):=(a8.block _ (zc bJ.out)).trans bJ.out;clear a8;cases M with
 | false =>
  go_wp2_with fail
  exact ⟨_,results_tmp2 rfl _ _ _,.inl ⟨HM.out,rfl,ba.out⟩⟩
 | true =>
  obtain ⟨p0,p1,p2,p3,p4,p5,p6,p7,p8,p9⟩:=zE bC.out;have aD:=cF.out rfl;have cp:=Yz (.slice R frames.length U) B m fault out w4 HS.out.pos (HT.out.below ba.out (Nat.le_refl _)) aD;clear aD;go_wp2_with fail
  refine cp.mono ?_;clear cp p0 p1 p2 p3 p4 p5 p6 p7 p8 p9;rintro e w5 ⟨rfl,aA⟩;have bw:Hid (Below w.heap.size w w5):=ba.out.trans (aA.mono ba.out.size);have aZ:Hid (w5.heap[w.heap.size]?=some (.cells #[.int .i64 B,.int .i64 m,.int .i64 fault,.slice R frames.length U,.string (za out),.int .i64 z,.slice bs x.length cs,.int .i64 A,.int .i64 n,.string (za y)] 35 (0,0))):=(aA.block _ (zc bC.out)).trans bC.out;have br:Hid (w5.heap[w.heap.size+1]?=some (.cells #[.pointer (some ⟨h,0,none⟩)] 37 (0,0))):=(aA.block _ (zc aE.out)).trans aE.out;obtain ⟨p0,p1,p2,p3,p4,p5,p6,p7,p8,p9⟩:=zE aZ.out;clear aA
  go_upto_region 6 with fail
  have aK:ZQ w ((w5.alloc (.cells #[.string (za (Zb B m fault))] 9)).alloc (.cells #[.slice (some ⟨w5.heap.size,0,none⟩) 1 1] 41)) (w5.heap.size+1) (Yn B m fault (.slice R frames.length U) out z (.slice bs x.length cs) A n y) (.pointer (some ⟨h,0,none⟩)) (.slice (some ⟨w5.heap.size,0,none⟩) 1 1) [Zb B m fault]:=by
   have df:=bw.out.size;have hl:=zj.lit w.heap.size w w5 [Zb B m fault] bw.out bw.out.size (by simp [maxLen])
   refine ⟨?_,?_,?_,by omega,hl.new ((Below.refl _ _).alloc (Nat.le_refl _) _)⟩
   ·exact (Below.heap_alloc _ _ _ (by have:=zc aZ.out;simp;omega)).trans ((Below.heap_alloc _ _ _ (zc aZ.out)).trans aZ.out)
   ·exact (Below.heap_alloc _ _ _ (by have:=zc br.out;simp;omega)).trans ((Below.heap_alloc _ _ _ (zc br.out)).trans br.out)
   ·have:=World.alloc_heap_new (w5.alloc (.cells #[.string (za (Zb B m fault))] 9)) (.cells #[.slice (some ⟨w5.heap.size,0,none⟩) 1 1] 41)
    simpa using this
  obtain ⟨X,hX⟩:∃X,X=w5.heap.size+1:=⟨_,rfl⟩;obtain ⟨r6,cA⟩:∃r6,r6=Value.slice (some ⟨w5.heap.size,0,none⟩) 1 1:=⟨_,rfl⟩;obtain ⟨w6,bX⟩:∃w6,w6=(w5.alloc (.cells #[.string (za (Zb B m fault))] 9)).alloc (.cells #[.slice (some ⟨w5.heap.size,0,none⟩) 1 1] 41):=⟨_,rfl⟩;obtain ⟨PL,bE⟩:∃PL,PL=Zb B m fault:=⟨_,rfl⟩;rw [←bX,←hX] at aK ⊢;rw [←bE] at aK;rw [←cA] at aK;have cL:Hid (PL=Zb B m fault):=bE;have cD:Hid _:=aK;clear p0 p1 p2 p3 p4 p5 p6 p7 p8 p9 bE;obtain ⟨p0,p1,p2,p3,p4,p5,p6,p7,p8,p9⟩:=zE cD.out.view;clear aK hX cA bX;go_wp2_with fail
  refine (callsIn_wide.1 (Yy (.slice R frames.length U) R frames.length U rfl w6)).mono ?_;rintro e w7 ⟨rfl,bI⟩;clear p0 p1 p2 p3 p4 p5 p6 p7 p8 p9;have bj:Below w6.heap.size w6 w7:=by rw [bI];exact (Below.refl _ _).alloc (Nat.le_refl _) _
  have aC:w7.heap[w6.heap.size]?=some (.cells #[.slice R frames.length U] 27 (0,0)):=by rw [bI];exact World.alloc_heap_new _ _
  have bO:=cD.out.new bj;clear bI;go_wp2_with fail
  refine (wpIn_wide (n:=5)).1 (Y7 rfl (enters_of Tryz.func39 (by kernel_rfl) rfl) (fun r0 aD hpe htm hpa has hbo=>?_))
  obtain ⟨D,hD⟩:∃D,D=w7.heap.size:=⟨_,rfl⟩;obtain ⟨Bn,bU⟩:∃Bn,Bn=w6.heap.size:=⟨_,rfl⟩;rw [←hD];rw [←bU] at htm aC ⊢;have cH:=bO.strs.low;have aq:Below w7.heap.size w7 ((w7.alloc (.deferred (some []))).alloc (.loop r0)):=((Below.refl _ _).alloc (Nat.le_refl _) _).alloc (by simp) _
  have cE:((w7.alloc (.deferred (some []))).alloc (.loop r0)).heap[D]?=some (.deferred (some [])):=by
   rw [hD];exact (Below.heap_alloc _ _ _ (by simp)).trans (World.alloc_heap_new w7 _)
  have bS:((w7.alloc (.deferred (some []))).alloc (.loop r0)).heap[D+1]?=some (.loop r0):=by
   have:=World.alloc_heap_new (w7.alloc (.deferred (some []))) (.loop r0)
   rwa [World.size_alloc,←hD] at this
  have bD:Vn w X D Bn (Yn B m fault (.slice R frames.length U) out z (.slice bs x.length cs) A n y) (.pointer (some ⟨h,0,none⟩)) (.slice R frames.length U) os z frames PL (.loop r0) 0 ((w7.alloc (.deferred (some []))).alloc (.loop r0)) :=
   ⟨⟨r6,by simpa [zl] using bO.new aq⟩,cE,bS,(aq.block _ (zc aC)).trans aC,by omega⟩
  generalize (w7.alloc (.deferred (some []))).alloc (.loop r0)=W0 at bD ⊢;clear cE bS aq cH bO aC bj hD bU;refine (XW (D+1) Bn R U frames HS.out.nframes (fun i W=>Vn w X D Bn (Yn B m fault (.slice R frames.length U) out z (.slice bs x.length cs) A n y) (.pointer (some ⟨h,0,none⟩)) (.slice R frames.length U) os z frames PL (.loop r0) i W) (fun k u=>∀hk:k<frames.length,Yf T w u (frames[k]).vars) ?hJc ?hJe ?hY _ bD).mono ?_
  case hJc =>
   intro i W hJ;exact zt hJ.itr
  case hJe =>
   intro i W hJ k hk;obtain ⟨b,o,e,-,bG,c0,c1,u,c2,cN⟩:=ce.out k hk;obtain ⟨r,hr⟩:=hJ.lin;have aI:∀q,W.cell? ⟨b,q,none⟩=w.cell? ⟨b,q,none⟩:=fun q=>zh hr.strs.below bG
   exact ⟨b,o,u,e,(aI _).trans c0,(aI _).trans c1,(aI _).trans c2,fun _=>cN⟩
  case hY =>
   intro i O u k hk bz hJ hP;have aX:=hJ.loop;have bN:=hJ.wD;have b3:=zF aX;obtain ⟨bu,cu,rfl,-⟩:=(hP hk).at;have HU:Hid (Yf T w (.slice bu (frames[k]).vars.length cu) (frames[k]).vars):=hP hk;have cw:Hid (yy frames[k]):=HS.out.frames _ (List.getElem_mem hk);have ai:=xf os z frames hk bz;obtain ⟨f,hf⟩:∃f,f=frames[k]:=⟨_,rfl⟩;rw [←hf] at HU cw ai;simp only [←hf];obtain ⟨nv,bL⟩:∃nv,nv=f.vars.length:=⟨_,rfl⟩;rw [←bL] at HU ⊢;have dj:Hid (nv=f.vars.length):=bL;clear hf bL;have bc:Hid (zl os z 0 (frames.reverse.take (i+1))=zl os z 0 (frames.reverse.take i)++[Zy os f (decide ((i:Int)=z))]):=ai;obtain ⟨W2,bb⟩:∃W2,W2=O.alloc (.cells #[.string (za f.fn),.int .i64 f.line,.slice bu nv cu] 52):=⟨_,rfl⟩;have bP:Hid (W2=O.alloc (.cells #[.string (za f.fn),.int .i64 f.line,.slice bu nv cu] 52)):=bb;have an:Below O.heap.size O W2:=by rw [bb];exact (Below.refl _ _).alloc (Nat.le_refl _) _
   have ct:W2.heap[O.heap.size]?=some (.cells #[.string (za f.fn),.int .i64 f.line,.slice bu nv cu] 52 (0,0)):=by rw [bb];exact World.alloc_heap_new _ _
   obtain ⟨r1,cn⟩:=hJ.lin;have aw:=cn.strs.low;have bK:=hJ.turn (ob':=.loop r0) (W':=W2) rfl (an.mono aw) (fun b hb _=>an.block b hb) ((an.block _ b3).trans aX)
   have av:=bK.loop;have aQ:w.heap.size≤W2.heap.size:=Nat.le_trans aw an.size;refine ⟨_,_,_,_,run_yield aX (by rw [hpa];rfl),roundIn_of_wpIn trivial ?_⟩
   rw [has,hbo,htm,hpa];simp only [List.zip_toArray,List.zip_cons_cons,List.zip_nil_right];have a5:=bK.turn (ob':=.loop { r0 with state:=.busy }) (W':=W2.putObj (D+1) (.loop { r0 with state:=.busy })) rfl ((Below.refl w.heap.size W2).grown (grownBy_putObj' W2 _ _) aQ (fun k e=>by cases e;omega)) (fun b _ hb=>World.putObj_heap_other hb) (World.putObj_heap_same (zF av))
   have bF:(W2.putObj (D+1) (.loop { r0 with state:=.busy })).heap[O.heap.size]?=some (.cells #[.string (za f.fn),.int .i64 f.line,.slice bu nv cu] 52 (0,0)):=(World.putObj_heap_other (by omega)).trans ct
   have bn:=run_beginRound (P:=Tryz.prog) av aD;have bg:Hid ((Instr.beginRound (D+1)).run Tryz.prog W2=.ok () (W2.putObj (D+1) (.loop { r0 with state:=.busy }))):=bn;obtain ⟨Wb,ck⟩:∃Wb,Wb=W2.putObj (D+1) (.loop { r0 with state:=.busy }):=⟨_,rfl⟩;rw [←ck] at a5 bF bg;obtain ⟨r9,cr⟩:=a5.lin;have aV:Hid (ZQ w Wb X (Yn B m fault (.slice R frames.length U) out z (.slice bs x.length cs) A n y) (.pointer (some ⟨h,0,none⟩)) r9 ([PL]++zl os z 0 (frames.reverse.take i))):=cr;have cO:Hid (Vn w X D Bn (Yn B m fault (.slice R frames.length U) out z (.slice bs x.length cs) A n y) (.pointer (some ⟨h,0,none⟩)) (.slice R frames.length U) os z frames PL (.loop { r0 with state:=.busy }) i Wb):=a5;have aS:Hid (Wb.heap[O.heap.size]?=some (.cells #[.string (za f.fn),.int .i64 f.line,.slice bu nv cu] 52 (0,0))):=bF;have de:i≤1048576:=by have:=HS.out.nframes;simp only at this;omega
   have dh:Hid (frames.length=k+1+i):=bz
   have cV:Hid (({ { r0 with state:=.busy } with state:=if (none:Option Code).isNone then .ready else .done,pending:=none }:Loop)=r0):=by
    show _=_
    cases r0;simp_all
   clear ai hP hJ cn a5 cr aX bK av bF ct ck bn bb an bz aw aQ b3
   gi_wp2_with fail
   rw [←bP.out];refine ⟨_,bg.out,?_⟩
   gi_wp2_with fail
   have ag:Hid (∀W,ZQ w W X (Yn B m fault (.slice R frames.length U) out z (.slice bs x.length cs) A n y) (.pointer (some ⟨h,0,none⟩)) r9 ([PL]++zl os z 0 (frames.reverse.take i))→W.heap[O.heap.size]?=some (.cells #[.string (za f.fn),.int .i64 f.line,.slice bu nv cu] 52 (0,0))→W.cell? ⟨X,0,none⟩=some r9∧W.cell? ⟨O.heap.size,0,none⟩=some (.string (za f.fn))∧W.cell? ⟨O.heap.size,1,none⟩=some (.int .i64 f.line)∧W.cell? ⟨O.heap.size,2,none⟩=some (.slice bu nv cu)∧W.cell? ⟨w.heap.size,5,none⟩=some (.int .i64 z)∧W.cell? ⟨w.heap.size+1,0,none⟩=some (.pointer (some ⟨h,0,none⟩))):=fun W hL hF=>by
    obtain ⟨a0,a1,a2⟩:=Zf hF;obtain ⟨-,-,-,-,-,b5,-,-,-,-⟩:=zE hL.view;exact ⟨zt hL.box,a0,a1,a2,b5,zt hL.ptr⟩
   have x0:∀c:zD fun W=>W.cell? ⟨X,0,none⟩=some r9∧W.cell? ⟨O.heap.size,0,none⟩=some (.string (za f.fn))∧W.cell? ⟨O.heap.size,1,none⟩=some (.int .i64 f.line)∧W.cell? ⟨O.heap.size,2,none⟩=some (.slice bu nv cu)∧W.cell? ⟨w.heap.size,5,none⟩=some (.int .i64 z)∧W.cell? ⟨w.heap.size+1,0,none⟩=some (.pointer (some ⟨h,0,none⟩)),c.1.cell? ⟨X,0,none⟩=some r9:=fun c=>c.2.1
   have x1:∀c:zD fun W=>W.cell? ⟨X,0,none⟩=some r9∧W.cell? ⟨O.heap.size,0,none⟩=some (.string (za f.fn))∧W.cell? ⟨O.heap.size,1,none⟩=some (.int .i64 f.line)∧W.cell? ⟨O.heap.size,2,none⟩=some (.slice bu nv cu)∧W.cell? ⟨w.heap.size,5,none⟩=some (.int .i64 z)∧W.cell? ⟨w.heap.size+1,0,none⟩=some (.pointer (some ⟨h,0,none⟩)),c.1.cell? ⟨O.heap.size,0,none⟩=some (.string (za f.fn)):=fun c=>c.2.2.1
   have x2:∀c:zD fun W=>W.cell? ⟨X,0,none⟩=some r9∧W.cell? ⟨O.heap.size,0,none⟩=some (.string (za f.fn))∧W.cell? ⟨O.heap.size,1,none⟩=some (.int .i64 f.line)∧W.cell? ⟨O.heap.size,2,none⟩=some (.slice bu nv cu)∧W.cell? ⟨w.heap.size,5,none⟩=some (.int .i64 z)∧W.cell? ⟨w.heap.size+1,0,none⟩=some (.pointer (some ⟨h,0,none⟩)),c.1.cell? ⟨O.heap.size,1,none⟩=some (.int .i64 f.line):=fun c=>c.2.2.2.1
   have x3:∀c:zD fun W=>W.cell? ⟨X,0,none⟩=some r9∧W.cell? ⟨O.heap.size,0,none⟩=some (.string (za f.fn))∧W.cell? ⟨O.heap.size,1,none⟩=some (.int .i64 f.line)∧W.cell? ⟨O.heap.size,2,none⟩=some (.slice bu nv cu)∧W.cell? ⟨w.heap.size,5,none⟩=some (.int .i64 z)∧W.cell? ⟨w.heap.size+1,0,none⟩=some (.pointer (some ⟨h,0,none⟩)),c.1.cell? ⟨O.heap.size,2,none⟩=some (.slice bu nv cu):=fun c=>c.2.2.2.2.1
   have x4:∀c:zD fun W=>W.cell? ⟨X,0,none⟩=some r9∧W.cell? ⟨O.heap.size,0,none⟩=some (.string (za f.fn))∧W.cell? ⟨O.heap.size,1,none⟩=some (.int .i64 f.line)∧W.cell? ⟨O.heap.size,2,none⟩=some (.slice bu nv cu)∧W.cell? ⟨w.heap.size,5,none⟩=some (.int .i64 z)∧W.cell? ⟨w.heap.size+1,0,none⟩=some (.pointer (some ⟨h,0,none⟩)),c.1.cell? ⟨w.heap.size,5,none⟩=some (.int .i64 z):=fun c=>c.2.2.2.2.2.1
   have x5:∀c:zD fun W=>W.cell? ⟨X,0,none⟩=some r9∧W.cell? ⟨O.heap.size,0,none⟩=some (.string (za f.fn))∧W.cell? ⟨O.heap.size,1,none⟩=some (.int .i64 f.line)∧W.cell? ⟨O.heap.size,2,none⟩=some (.slice bu nv cu)∧W.cell? ⟨w.heap.size,5,none⟩=some (.int .i64 z)∧W.cell? ⟨w.heap.size+1,0,none⟩=some (.pointer (some ⟨h,0,none⟩)),c.1.cell? ⟨w.heap.size+1,0,none⟩=some (.pointer (some ⟨h,0,none⟩)):=fun c=>c.2.2.2.2.2.2
   haveI aG:Nonempty (zD fun W=>W.cell? ⟨X,0,none⟩=some r9∧W.cell? ⟨O.heap.size,0,none⟩=some (.string (za f.fn))∧W.cell? ⟨O.heap.size,1,none⟩=some (.int .i64 f.line)∧W.cell? ⟨O.heap.size,2,none⟩=some (.slice bu nv cu)∧W.cell? ⟨w.heap.size,5,none⟩=some (.int .i64 z)∧W.cell? ⟨w.heap.size+1,0,none⟩=some (.pointer (some ⟨h,0,none⟩))):=⟨⟨Wb,ag.out Wb aV.out aS.out⟩⟩
   have ae:Hid (Below Wb.heap.size Wb Wb.drew):=(Below.refl _ _).drew;refine XX 10 (n:=11) (S:=fun w'=>∃c:zD fun W=>W.cell? ⟨X,0,none⟩=some r9∧W.cell? ⟨O.heap.size,0,none⟩=some (.string (za f.fn))∧W.cell? ⟨O.heap.size,1,none⟩=some (.int .i64 f.line)∧W.cell? ⟨O.heap.size,2,none⟩=some (.slice bu nv cu)∧W.cell? ⟨w.heap.size,5,none⟩=some (.int .i64 z)∧W.cell? ⟨w.heap.size+1,0,none⟩=some (.pointer (some ⟨h,0,none⟩)),w'=c.1) (by kernel_rfl) (by kernel_rfl) ?hq rfl rfl ?_
   case hq =>
    rintro ⟨a9,w9,h9⟩;exact h9
   refine xc (fuel:=4) (fuel':=11) (idx:=[0,1,2,3,4,5,6]) (by kernel_rfl) rfl rfl rfl (fun _ _ _ _ _ h=>h) ⟨⟨Wb.drew,ag.out _ (aV.out.new ae.out) ((ae.out.block _ (zc aS.out)).trans aS.out)⟩,rfl⟩ ?_
   show wpQuiet _ _ _ _ [_,_,_,_,_,_,_] _
   iterate 7 (go_big_quiet_step (fail))
   refine wpQuiet_nil ?_;have cK:Hid (Below w.heap.size w Wb):=aV.out.strs.below;have cT:=aV.out.strs.low
   have cv:Hid (∀W,Below w.heap.size w W→Calls Tryz.prog 26 #[VX (.slice bu nv cu) f.fn f.line,.bool (decide ((i:Int)=z)),.pointer (some ⟨h,0,none⟩)] W fun e w'=>e=.returned (.string (za (Zy os f (decide ((i:Int)=z)))))∧Below W.heap.size W w'):=fun W hW =>
    YA f _ _ W (HH.out.below hW) (rowIn.kept HU.out (YQ T) hW.size fun q _ hq=>hW.block q hq) cw.out (HT.out.below hW (Nat.le_refl _))
   obtain ⟨FB,b2⟩:∃FB,FB=Zy os f (decide ((i:Int)=z)):=⟨_,rfl⟩;rw [←b2] at cv bc;clear b2;refine zL (fuel:=3) (fuel':=4) (i:=7) rfl (by kernel_rfl) rfl rfl (by rfl) ?_
   intro K I;go_simp;refine (cv.out Wb.drew (cK.out.trans (ae.out.mono cT))).mono ?_;rintro e z1 ⟨rfl,hb⟩;have aE:Hid (Below Wb.heap.size Wb z1):=ae.out.trans (hb.mono ae.out.size);clear hb
   (try go_simp)
   have ad:Hid _:=aV.out.new aE.out;have al:Hid _:=(aE.out.block _ (zc aS.out)).trans aS.out;refine I.out _ _ (fun _=>⟨⟨z1,ag.out z1 ad.out al.out⟩,rfl⟩) ?_
   clear I K;refine zL (fuel:=2) (fuel':=3) (i:=8) rfl (by kernel_rfl) rfl rfl (by rfl) ?_
   intro K I;go_simp;have ax:Hid (Below z1.heap.size z1 (z1.alloc (.cells #[.string (za FB)] 9))):=(Below.refl _ _).alloc (Nat.le_refl _) _;refine I.out _ _ (fun _=>⟨⟨_,ag.out _ (ad.out.new ax.out) ((ax.out.block _ (zc al.out)).trans al.out)⟩,rfl⟩) ?_
   clear I K;refine xd (fuel:=1) (fuel':=2) (i:=9) rfl (by kernel_rfl) rfl rfl (by rfl) ?_
   intro K I;refine zY (.tmp 33) (.tmp 41) rfl (by rfl) w.heap.size r9 ([PL]++zl os z 0 (frames.reverse.take i)) [FB] rfl z1 w ad.out.strs rfl rfl (by rw [List.length_append,ZV,List.length_take];simp;omega) ?_
   intro v9 z3 ah J;obtain ⟨n9,b9,c9,rfl⟩:=Z0 ah.row;have aB:Hid (ZQ w (z3.setCell ⟨X,0,none⟩ (.slice b9 n9 c9)) X (Yn B m fault (.slice R frames.length U) out z (.slice bs x.length cs) A n y) (.pointer (some ⟨h,0,none⟩)) (.slice b9 n9 c9) ([PL]++zl os z 0 (frames.reverse.take i)++[FB])):=ad.out.put ah J;have bH:Hid _:=zk (ad.out.strs.row.alloc _) J ((Below.heap_alloc _ _ _ (zc ad.out.view)).trans ad.out.view) (by decide)
   have cS:Hid _:=zk (ad.out.strs.row.alloc _) J ((Below.heap_alloc _ _ _ (zc ad.out.ptr)).trans ad.out.ptr) (by decide)
   have aj:Hid _:=zk (ad.out.strs.row.alloc _) J ((Below.heap_alloc _ _ _ (zc ad.out.box)).trans ad.out.box) (by decide)
   have bv:Hid _:=zk (ad.out.strs.row.alloc _) J ((Below.heap_alloc _ _ _ (zc al.out)).trans al.out) (by decide)
   have az:Hid (z3.cell? ⟨X,0,none⟩=some r9∧z3.cell? ⟨O.heap.size,0,none⟩=some (.string (za f.fn))∧z3.cell? ⟨O.heap.size,1,none⟩=some (.int .i64 f.line)∧z3.cell? ⟨O.heap.size,2,none⟩=some (.slice bu nv cu)∧z3.cell? ⟨w.heap.size,5,none⟩=some (.int .i64 z)∧z3.cell? ⟨w.heap.size+1,0,none⟩=some (.pointer (some ⟨h,0,none⟩))):=by
    obtain ⟨a0,a1,a2⟩:=Zf bv.out;obtain ⟨-,-,-,-,-,b5,-,-,-,-⟩:=zE bH.out;exact ⟨zt aj.out,a0,a1,a2,b5,zt cS.out⟩
   refine I.out _ _ (fun _=>⟨⟨z3,az.out⟩,rfl⟩) ?_
   clear I K
   (try simp only [Act.put,List.setIfInBounds_toArray,List.set_cons_zero,List.set_cons_succ])
   refine zL (fuel:=0) (fuel':=1) (i:=10) rfl (by kernel_rfl) rfl rfl (by rfl) ?_
   intro K I;have au:=az.out.1;have aR:=Y3 aj.out 0;go_simp;refine I.out _ _ (fun h=>absurd rfl h) ?_
   clear I K;refine Yi (by kernel_rfl) ?_
   clear x0 x1 x2 x3 x4 x5 au aR;rw [List.append_assoc,←bc.out] at aB;have cz:=cO.out.step rfl aE.out ad.out J aB.out;have ca:=cz.loop;have bp:=aB.out.strs.low;show ∃v w',_
   refine ⟨_,_,run_endRound none ca,rfl,?_⟩;rw [cV.out];exact cz.turn rfl ((Below.refl w.heap.size _).grown (grownBy_putObj' _ _ _) bp (fun k e=>by cases e;omega)) (fun b _ hb=>World.putObj_heap_other hb) (World.putObj_heap_same (zF ca))
  rintro e W3 ⟨⟨u3,rfl⟩,aL⟩;have av:=aL.loop;have bN:=aL.wD;obtain ⟨r3,cC⟩:=aL.lin;refine ⟨r0.pending,_,run_endLoop (P:=Tryz.prog) av (by rw [aD];simp),?_⟩
  have a7:=aL.turn (ob':=.loop { r0 with state:=.exhausted }) (W':=W3.putObj (D+1) (.loop { r0 with state:=.exhausted })) rfl ((Below.refl w.heap.size W3).grown (grownBy_putObj' W3 _ _) cC.strs.low (fun k e=>by cases e;omega)) (fun b _ hb=>World.putObj_heap_other hb) (World.putObj_heap_same (zF av))
  generalize W3.putObj (D+1) (.loop { r0 with state:=.exhausted })=W4 at a7 ⊢;obtain ⟨r4,aH⟩:=a7.lin;rw [show frames.reverse.take frames.length=frames.reverse by rw [←List.length_reverse,List.take_length]] at aH
  obtain ⟨L1,a6⟩:∃L1,L1=[PL]++zl os z 0 frames.reverse:=⟨_,rfl⟩;rw [←a6] at aH;have ad:Hid (L1=[PL]++zl os z 0 frames.reverse):=a6
  have bm:Hid (L1.length≤1048577):=by
   have:=HS.out.nframes
   simp only at this;show _≤_
   rw [a6,List.length_append,ZV,List.length_reverse]
   simp
   omega
  have aT:Hid (ZQ w W4 X (Yn B m fault (.slice R frames.length U) out z (.slice bs x.length cs) A n y) (.pointer (some ⟨h,0,none⟩)) r4 L1):=aH;have aF:Hid (W4.heap[D]?=some (.deferred (some []))):=a7.dfr;have c7:Hid (w.heap.size≤D):=bN;obtain ⟨p0,p1,p2,p3,p4,p5,p6,p7,p8,p9⟩:=zE aH.view;have co:=YC out W4 HS.out.out (HT.out.below aH.strs.below (Nat.le_refl _));obtain ⟨E,ao⟩:∃E,E=Yx out:=⟨_,rfl⟩;have dg:E.length≤4:=by rw [ao];exact vK out
  rw [←ao] at co;have aN:Hid (E=Yx out):=ao;clear aL a7 cC aH av a6 ao bN bD;rw [hpe];show Exit.inBlock 1 _ Exit.normal _ W4
  clear hpe aD htm hpa has hbo;go_wp2_with fail
  refine co.mono ?_;clear co p0 p1 p2 p3 p4 p5 p6 p7 p8 p9;rintro e w8 ⟨di,rfl,bQ⟩;have b0:=bQ.in.at;obtain ⟨bo,co,rfl,cq,b1,be⟩:=b0;have cb:Hid (∀i (hi:i<E.length),∃b o,bo=some ⟨b,o,none⟩∧W4.heap.size≤b∧b<w8.heap.size∧xE w8 b (o+i*1) E[i]):=be;have aq:=bQ.below
  have bq:YD w w8 w8 X (fun q=>(∃o,bo=some ⟨q,o,none⟩∧W4.heap.size≤q∧q<w8.heap.size)∨q=D) (Yn B m fault (.slice R frames.length U) out z (.slice bs x.length cs) A n y) (.pointer (some ⟨h,0,none⟩)) r4 L1:=by
   have cQ:w8.heap[D]?=some (.deferred (some [])):=(aq.block _ (zF aF.out)).trans aF.out;refine ⟨aT.out.new aq,fun _ _=>rfl,?_,Nat.le_refl _,?_,?_⟩
   ·rintro q (⟨o,-,-,hq⟩ | rfl)
    ·exact hq
    ·exact zF cQ
   ·intro q e hq
    rcases hq with ⟨o,-,hq,-⟩ | rfl
    ·have:=(aT.out.strs.row.lt q e).2
     omega
    ·obtain ⟨dk,hc⟩:=Zg aT.out.strs.row e
     rw [aF.out] at hc;cases hc
   ·rintro (⟨o,-,hq,-⟩ | e)
    ·have:=zc aT.out.box
     omega
    ·have hc:=aT.out.box
     rw [e,aF.out] at hc;cases hc
  obtain ⟨G,hG⟩:∃G:Nat→Prop,G=fun q=>(∃o,bo=some ⟨q,o,none⟩∧W4.heap.size≤q∧q<w8.heap.size)∨q=D:=⟨_,rfl⟩
  have dc:Hid (∀b o,bo=some ⟨b,o,none⟩→W4.heap.size≤b→b<w8.heap.size→G b):=fun b o e h1 h2=>by rw [hG];exact .inl ⟨o,e,h1,h2⟩
  have bW:Hid (G D):=by show G D;rw [hG];exact .inr rfl
  rw [←hG] at bq;have c4:Hid _:=bq;have cR:Hid (w8.heap[D]?=some (.deferred (some []))):=(aq.block _ (zF aF.out)).trans aF.out;clear hG;clear bQ be aq bq cq b1;go_wp2
  go_loopw [48] (fun vi wr=>∃(i:Nat) (r:Value),i≤E.length∧vi=.int .i64 (i:Int)∧YD w w8 wr X G (Yn B m fault (.slice R frames.length U) out z (.slice bs x.length cs) A n y) (.pointer (some ⟨h,0,none⟩)) r (L1++(E.take i).map fun s=>zB ([124,32]++s))) (fun vi _=>E.length-(intOf vi).toNat)
  case atStart=>exact ⟨0,r4,Nat.zero_le _,rfl,by simpa using c4.out⟩
  case round =>
   obtain ⟨i,r9,hi,rfl,hj⟩:=hrel;have HJ:Hid (YD w w8 wr X G (Yn B m fault (.slice R frames.length U) out z (.slice bs x.length cs) A n y) (.pointer (some ⟨h,0,none⟩)) r9 (L1++(E.take i).map fun s=>zB ([124,32]++s))):=hj
   clear hj
   by_cases hlt:i<E.length
   ·have bB:(i:Int)<E.length:=by omega
    obtain ⟨b,o,bh,cI,dd,hc⟩:=cb.out i hlt;have cM:=dc.out b o bh cI dd;subst bh
    have aU:wr.cell? ⟨b,o+i,none⟩=some (.string (za E[i])):=by
     have h1:wr.cell? ⟨b,o+i*1,none⟩=some (.string (za E[i])):=(World.cell?_of_block (HJ.out.kept b cM)).trans hc
     simpa only [Nat.mul_one] using h1
    have c3:=vJ out E[i] (by rw [←aN.out];exact List.getElem_mem hlt)
    have ai:Hid ((E.take (i+1)).map (fun s=>zB ([124,32]++s))=(E.take i).map (fun s=>zB ([124,32]++s))++[zB ([124,32]++E[i])]):=xP _ E hlt
    obtain ⟨s,hs⟩:∃s,s=E[i]:=⟨_,rfl⟩;rw [←hs] at aU c3 ai;have bZ:=HS.out.out;simp only at bZ
    have ay:Hid ((L1++(E.take i).map fun s=>zB ([124,32]++s)).length≤2000000):=by
     have:=bm.out
     show _≤_
     rw [List.length_append,List.length_map,List.length_take];omega
    obtain ⟨LB,aJ⟩:∃LB,LB=zB ([124,32]++s):=⟨_,rfl⟩;rw [←aJ] at ai
    have cU:Hid (LB=zB ([[124,32],s]:List (List UInt8)).flatten):=by
     show _=_
     rw [aJ];simp
    obtain ⟨PR,ak⟩:∃PR,PR=(L1++(E.take i).map fun s=>zB ([124,32]++s)):=⟨_,rfl⟩
    have aP:Hid (L1++(E.take (i+1)).map (fun s=>zB ([124,32]++s))=PR++[LB]):=by
     show _=_
     rw [ai.out,ak,List.append_assoc]
    rw [←ak] at HJ ay;clear hs aJ ak hc ai
    go_upto_region 13 with fail
    clear aU;have au:=zt HJ.out.lin.box;have x0:∀c:zD fun W=>W.cell? ⟨X,0,none⟩=some r9,c.1.cell? ⟨X,0,none⟩=some r9:=fun c=>c.2
    haveI aG:Nonempty (zD fun W=>W.cell? ⟨X,0,none⟩=some r9):=⟨⟨wr,au⟩⟩
    refine YR 6 (n:=7) (S:=fun w'=>∃c:zD fun W=>W.cell? ⟨X,0,none⟩=some r9,w'=c.1) (by kernel_rfl) rfl rfl ?_
    have ae:Hid (Below wr.heap.size wr wr.drew):=(Below.refl _ _).drew;obtain ⟨zd,ar⟩:∃zd,zd=wr.drew:=⟨_,rfl⟩;rw [←ar] at ae ⊢;have am:Hid (YD w w8 zd X G (Yn B m fault (.slice R frames.length U) out z (.slice bs x.length cs) A n y) (.pointer (some ⟨h,0,none⟩)) r9 PR):=HJ.out.new ae.out;clear ar au;refine xc (fuel:=5) (fuel':=7) (idx:=[0,1]) (by kernel_rfl) rfl rfl rfl (fun _ _ _ _ _ h=>h) ⟨⟨zd,zt am.out.lin.box⟩,rfl⟩ ?_
    show wpQuiet _ _ _ _ [_,_] _
    iterate 2 (go_big_quiet_step (fail))
    refine wpQuiet_nil ?_;refine zL (fuel:=4) (fuel':=5) (i:=2) rfl (by kernel_rfl) rfl rfl (by rfl) ?_
    intro K I;go_simp;have da:Hid (YD w w8 (zd.alloc (.cells #[.string ⟨#[124,32]⟩,.string (za s)] 9)) X G (Yn B m fault (.slice R frames.length U) out z (.slice bs x.length cs) A n y) (.pointer (some ⟨h,0,none⟩)) r9 PR):=am.out.new ((Below.refl _ _).alloc (Nat.le_refl _) _);refine I.out _ _ (fun _=>⟨⟨_,zt da.out.lin.box⟩,rfl⟩) ?_
    clear I K;refine zL (fuel:=3) (fuel':=4) (i:=3) rfl (by kernel_rfl) rfl rfl (by rfl) ?_
    intro K I;go_simp;have cl:=yn [[124,32],s] zd (by simp) (by simp;omega)
    rw [←cU.out] at cl;refine cl.mono ?_;clear cl;rintro e z1 ⟨rfl,hb⟩;have F:Hid (YD w w8 z1 X G (Yn B m fault (.slice R frames.length U) out z (.slice bs x.length cs) A n y) (.pointer (some ⟨h,0,none⟩)) r9 PR):=am.out.new hb;clear hb
    (try go_simp)
    refine I.out _ _ (fun _=>⟨⟨z1,zt F.out.lin.box⟩,rfl⟩) ?_
    clear I K;refine zL (fuel:=2) (fuel':=3) (i:=4) rfl (by kernel_rfl) rfl rfl (by rfl) ?_
    intro K I;go_simp;have c8:Hid (YD w w8 (z1.alloc (.cells #[.string (za LB)] 9)) X G (Yn B m fault (.slice R frames.length U) out z (.slice bs x.length cs) A n y) (.pointer (some ⟨h,0,none⟩)) r9 PR):=F.out.new ((Below.refl _ _).alloc (Nat.le_refl _) _);refine I.out _ _ (fun _=>⟨⟨_,zt c8.out.lin.box⟩,rfl⟩) ?_
    clear I K;refine xd (fuel:=1) (fuel':=2) (i:=5) rfl (by kernel_rfl) rfl rfl (by rfl) ?_
    intro K I;refine zO (.tmp 52) (.tmp 56) rfl (by rfl) w.heap.size r9 PR [LB] rfl z1 w F.out.lin.strs rfl rfl (by have:=ay.out;simp;omega) ?_
    intro v9 z3 ah J af;obtain ⟨n9,b9,c9,rfl⟩:=Z0 ah.row;have aB:Hid (YD w w8 (z3.setCell ⟨X,0,none⟩ (.slice b9 n9 c9)) X G (Yn B m fault (.slice R frames.length U) out z (.slice bs x.length cs) A n y) (.pointer (some ⟨h,0,none⟩)) (.slice b9 n9 c9) (PR++[LB])):=F.out.put ah J af;have aj:Hid _:=zk (F.out.lin.strs.row.alloc _) J ((Below.heap_alloc _ _ _ (zc F.out.lin.box)).trans F.out.lin.box) (by decide)
    refine I.out _ _ (fun _=>⟨⟨z3,zt aj.out⟩,rfl⟩) ?_
    clear I K ah J af
    (try simp only [Act.put,List.setIfInBounds_toArray,List.set_cons_zero,List.set_cons_succ])
    refine zL (fuel:=0) (fuel':=1) (i:=6) rfl (by kernel_rfl) rfl rfl (by rfl) ?_
    intro K I;have au:=zt aj.out;have aR:=Y3 aj.out 0;go_simp;refine I.out _ _ (fun h=>absurd rfl h) ?_
    clear I K;refine Yi (by kernel_rfl) ?_
    clear x0 au aR aG;go_wp2
    exact ⟨⟨i+1,_,by omega,by go_num,by rw [aP.out];exact aB.out⟩,by simp [intOf];omega⟩
   ·have bB:¬ (i:Int)<E.length:=by omega
    obtain rfl:i=E.length:=by omega
    rw [List.take_length] at HJ;obtain ⟨L2,aW⟩:∃L2,L2=L1++E.map fun s=>zB ([124,32]++s):=⟨_,rfl⟩
    rw [←aW] at HJ;have c6:Hid (L2=L1++E.map fun s=>zB ([124,32]++s)):=aW
    have bk:Hid (L2.length≤2000000):=by
     have:=bm.out
     show _≤_
     rw [aW,List.length_append,List.length_map];omega
    clear aW;obtain ⟨p0,p1,p2,p3,p4,p5,p6,p7,p8,p9⟩:=zE HJ.out.lin.view
    go_upto_region 15 with fail
    have cZ:Hid (YD w w8 wr X G (Yn B m fault (.slice R frames.length U) out z (.slice bs x.length cs) A n y) (.pointer (some ⟨h,0,none⟩)) r9 L2):=HJ.out;clear HJ
    go_upto_region 16 with fail
    clear p0 p1 p2 p3 p4 p5 p6 p7 p8 p9;have db:=HS.out.nstops;simp only at db
    go_loopw [62] (fun vi wr=>∃(i:Nat) (r:Value),i≤x.length∧vi=.int .i64 (i:Int)∧YD w w8 wr X G (Yn B m fault (.slice R frames.length U) out z (.slice bs x.length cs) A n y) (.pointer (some ⟨h,0,none⟩)) r (L2++(x.take i).map Za)) (fun vi _=>x.length-(intOf vi).toNat)
    case atStart=>exact ⟨0,r9,Nat.zero_le _,rfl,by simpa using cZ.out⟩
    case round =>
     obtain ⟨i,r9,hi,rfl,hj⟩:=hrel;have HJ:Hid (YD w w8 wr X G (Yn B m fault (.slice R frames.length U) out z (.slice bs x.length cs) A n y) (.pointer (some ⟨h,0,none⟩)) r9 (L2++(x.take i).map Za)):=hj;clear hj
     by_cases hlt:i<x.length
     ·have bB:(i:Int)<x.length:=by omega
      obtain ⟨b,o,rfl,-,bG,e0,e1,e2,e3,e4⟩:=cg.out i hlt;have c5:Hid (Below w.heap.size w wr):=HJ.out.lin.strs.below;have aI:∀q,wr.cell? ⟨b,q,none⟩=w.cell? ⟨b,q,none⟩:=fun q=>zh c5.out bG
      rw [←aI] at e0 e1 e2 e3 e4;have cc:Hid (Y5 x[i]):=HS.out.stops _ (List.getElem_mem hlt);have ai:Hid ((x.take (i+1)).map Za=(x.take i).map Za++[Za x[i]]):=xP _ x hlt;obtain ⟨st,bi⟩:∃st,st=x[i]:=⟨_,rfl⟩;rw [←bi] at e0 e1 e2 e3 e4 cc ai;obtain ⟨Y,aa,V,Z,ab⟩:=st;simp only at e0 e1 e2 e3 e4;have cx:Hid (∀W,Below w.heap.size w W→Calls Tryz.prog 29 #[V0 ⟨Y,aa,V,Z,ab⟩] W fun e w'=>e=.returned (.string (za (Za ⟨Y,aa,V,Z,ab⟩)))∧Below W.heap.size W w'):=fun W hW=>xe _ W cc.out (HT.out.below hW (Nat.le_refl _))
      obtain ⟨LB,aJ⟩:∃LB,LB=Za ⟨Y,aa,V,Z,ab⟩:=⟨_,rfl⟩;rw [←aJ] at ai cx
      have ay:Hid ((L2++(x.take i).map Za).length≤4000000):=by
       have:=bk.out
       show _≤_
       rw [List.length_append,List.length_map,List.length_take];omega
      obtain ⟨PR,ak⟩:∃PR,PR=L2++(x.take i).map Za:=⟨_,rfl⟩
      have aP:Hid (L2++(x.take (i+1)).map Za=PR++[LB]):=by
       show _=_
       rw [ai.out,ak,List.append_assoc]
      rw [←ak] at HJ ay;obtain ⟨ap,b4,aA,cP,h5⟩:=yl wr (.cells #[.int .i64 Y,.int .i64 aa,.string (za V),.string (za Z),.bool ab] 82);have cJ:Hid (ap=wr.alloc (.cells #[.int .i64 Y,.int .i64 aa,.string (za V),.string (za Z),.bool ab] 82)):=b4;have bt:Hid (ap.heap[wr.heap.size]?=some (.cells #[.int .i64 Y,.int .i64 aa,.string (za V),.string (za Z),.bool ab] 82 (0,0))):=h5;have bY:Hid (YD w w8 ap X G (Yn B m fault (.slice R frames.length U) out z (.slice (some ⟨b,o,none⟩) x.length cs) A n y) (.pointer (some ⟨h,0,none⟩)) r9 PR):=HJ.out.new aA;clear bi aJ ak ai b4 aA h5 cP aI
      go_upto_region 18 with fail
      rw [←cJ.out];clear e0 e1 e2 e3 e4
      have ag:Hid (∀W,YD w w8 W X G (Yn B m fault (.slice R frames.length U) out z (.slice (some ⟨b,o,none⟩) x.length cs) A n y) (.pointer (some ⟨h,0,none⟩)) r9 PR→W.heap[wr.heap.size]?=some (.cells #[.int .i64 Y,.int .i64 aa,.string (za V),.string (za Z),.bool ab] 82 (0,0))→W.cell? ⟨X,0,none⟩=some r9∧W.cell? ⟨wr.heap.size,0,none⟩=some (.int .i64 Y)∧W.cell? ⟨wr.heap.size,1,none⟩=some (.int .i64 aa)∧W.cell? ⟨wr.heap.size,2,none⟩=some (.string (za V))∧W.cell? ⟨wr.heap.size,3,none⟩=some (.string (za Z))∧W.cell? ⟨wr.heap.size,4,none⟩=some (.bool ab)):=fun W hL hF=>by
       obtain ⟨a0,a1,a2,a3,a4⟩:=zU hF;exact ⟨zt hL.lin.box,a0,a1,a2,a3,a4⟩
      have x0:∀c:zD fun W=>W.cell? ⟨X,0,none⟩=some r9∧W.cell? ⟨wr.heap.size,0,none⟩=some (.int .i64 Y)∧W.cell? ⟨wr.heap.size,1,none⟩=some (.int .i64 aa)∧W.cell? ⟨wr.heap.size,2,none⟩=some (.string (za V))∧W.cell? ⟨wr.heap.size,3,none⟩=some (.string (za Z))∧W.cell? ⟨wr.heap.size,4,none⟩=some (.bool ab),c.1.cell? ⟨X,0,none⟩=some r9:=fun c=>c.2.1
      have x1:∀c:zD fun W=>W.cell? ⟨X,0,none⟩=some r9∧W.cell? ⟨wr.heap.size,0,none⟩=some (.int .i64 Y)∧W.cell? ⟨wr.heap.size,1,none⟩=some (.int .i64 aa)∧W.cell? ⟨wr.heap.size,2,none⟩=some (.string (za V))∧W.cell? ⟨wr.heap.size,3,none⟩=some (.string (za Z))∧W.cell? ⟨wr.heap.size,4,none⟩=some (.bool ab),c.1.cell? ⟨wr.heap.size,0,none⟩=some (.int .i64 Y):=fun c=>c.2.2.1
      have x2:∀c:zD fun W=>W.cell? ⟨X,0,none⟩=some r9∧W.cell? ⟨wr.heap.size,0,none⟩=some (.int .i64 Y)∧W.cell? ⟨wr.heap.size,1,none⟩=some (.int .i64 aa)∧W.cell? ⟨wr.heap.size,2,none⟩=some (.string (za V))∧W.cell? ⟨wr.heap.size,3,none⟩=some (.string (za Z))∧W.cell? ⟨wr.heap.size,4,none⟩=some (.bool ab),c.1.cell? ⟨wr.heap.size,1,none⟩=some (.int .i64 aa):=fun c=>c.2.2.2.1
      have x3:∀c:zD fun W=>W.cell? ⟨X,0,none⟩=some r9∧W.cell? ⟨wr.heap.size,0,none⟩=some (.int .i64 Y)∧W.cell? ⟨wr.heap.size,1,none⟩=some (.int .i64 aa)∧W.cell? ⟨wr.heap.size,2,none⟩=some (.string (za V))∧W.cell? ⟨wr.heap.size,3,none⟩=some (.string (za Z))∧W.cell? ⟨wr.heap.size,4,none⟩=some (.bool ab),c.1.cell? ⟨wr.heap.size,2,none⟩=some (.string (za V)):=fun c=>c.2.2.2.2.1
      have x4:∀c:zD fun W=>W.cell? ⟨X,0,none⟩=some r9∧W.cell? ⟨wr.heap.size,0,none⟩=some (.int .i64 Y)∧W.cell? ⟨wr.heap.size,1,none⟩=some (.int .i64 aa)∧W.cell? ⟨wr.heap.size,2,none⟩=some (.string (za V))∧W.cell? ⟨wr.heap.size,3,none⟩=some (.string (za Z))∧W.cell? ⟨wr.heap.size,4,none⟩=some (.bool ab),c.1.cell? ⟨wr.heap.size,3,none⟩=some (.string (za Z)):=fun c=>c.2.2.2.2.2.1
      have x5:∀c:zD fun W=>W.cell? ⟨X,0,none⟩=some r9∧W.cell? ⟨wr.heap.size,0,none⟩=some (.int .i64 Y)∧W.cell? ⟨wr.heap.size,1,none⟩=some (.int .i64 aa)∧W.cell? ⟨wr.heap.size,2,none⟩=some (.string (za V))∧W.cell? ⟨wr.heap.size,3,none⟩=some (.string (za Z))∧W.cell? ⟨wr.heap.size,4,none⟩=some (.bool ab),c.1.cell? ⟨wr.heap.size,4,none⟩=some (.bool ab):=fun c=>c.2.2.2.2.2.2
      haveI aG:Nonempty (zD fun W=>W.cell? ⟨X,0,none⟩=some r9∧W.cell? ⟨wr.heap.size,0,none⟩=some (.int .i64 Y)∧W.cell? ⟨wr.heap.size,1,none⟩=some (.int .i64 aa)∧W.cell? ⟨wr.heap.size,2,none⟩=some (.string (za V))∧W.cell? ⟨wr.heap.size,3,none⟩=some (.string (za Z))∧W.cell? ⟨wr.heap.size,4,none⟩=some (.bool ab)):=⟨⟨ap,ag.out _ bY.out bt.out⟩⟩
      refine YR 5 (n:=6) (S:=fun w'=>∃c:zD fun W=>W.cell? ⟨X,0,none⟩=some r9∧W.cell? ⟨wr.heap.size,0,none⟩=some (.int .i64 Y)∧W.cell? ⟨wr.heap.size,1,none⟩=some (.int .i64 aa)∧W.cell? ⟨wr.heap.size,2,none⟩=some (.string (za V))∧W.cell? ⟨wr.heap.size,3,none⟩=some (.string (za Z))∧W.cell? ⟨wr.heap.size,4,none⟩=some (.bool ab),w'=c.1) (by kernel_rfl) rfl rfl ?_
      have ae:Hid (Below ap.heap.size ap ap.drew):=(Below.refl _ _).drew;obtain ⟨zd,ar⟩:∃zd,zd=ap.drew:=⟨_,rfl⟩;rw [←ar] at ae ⊢;have am:Hid _:=bY.out.new ae.out;have bx:Hid _:=(ae.out.block _ (zc bt.out)).trans bt.out;clear ar;refine xc (fuel:=4) (fuel':=6) (idx:=[0,1]) (by kernel_rfl) rfl rfl rfl (fun _ _ _ _ _ h=>h) ⟨⟨zd,ag.out _ am.out bx.out⟩,rfl⟩ ?_
      show wpQuiet _ _ _ _ [_,_] _
      iterate 2 (go_big_quiet_step (fail))
      refine wpQuiet_nil ?_;refine zL (fuel:=3) (fuel':=4) (i:=2) rfl (by kernel_rfl) rfl rfl (by rfl) ?_
      intro K I;go_simp;refine (cx.out zd am.out.lin.strs.below).mono ?_;rintro e z1 ⟨rfl,hb⟩;have F:Hid _:=am.out.new hb;have al:Hid _:=(hb.block _ (zc bx.out)).trans bx.out;clear hb
      (try go_simp)
      refine I.out _ _ (fun _=>⟨⟨z1,ag.out _ F.out al.out⟩,rfl⟩) ?_
      clear I K;refine zL (fuel:=2) (fuel':=3) (i:=3) rfl (by kernel_rfl) rfl rfl (by rfl) ?_
      intro K I;go_simp;have ax:Hid (Below z1.heap.size z1 (z1.alloc (.cells #[.string (za LB)] 9))):=(Below.refl _ _).alloc (Nat.le_refl _) _;refine I.out _ _ (fun _=>⟨⟨_,ag.out _ (F.out.new ax.out) ((ax.out.block _ (zc al.out)).trans al.out)⟩,rfl⟩) ?_
      clear I K;refine xd (fuel:=1) (fuel':=2) (i:=4) rfl (by kernel_rfl) rfl rfl (by rfl) ?_
      intro K I;refine zO (.tmp 66) (.tmp 69) rfl (by rfl) w.heap.size r9 PR [LB] rfl z1 w F.out.lin.strs rfl rfl (by have:=ay.out;simp;omega) ?_
      intro v9 z3 ah J af;obtain ⟨n9,b9,c9,rfl⟩:=Z0 ah.row;have aB:Hid (YD w w8 (z3.setCell ⟨X,0,none⟩ (.slice b9 n9 c9)) X G (Yn B m fault (.slice R frames.length U) out z (.slice (some ⟨b,o,none⟩) x.length cs) A n y) (.pointer (some ⟨h,0,none⟩)) (.slice b9 n9 c9) (PR++[LB])):=F.out.put ah J af;have aj:Hid _:=zk (F.out.lin.strs.row.alloc _) J ((Below.heap_alloc _ _ _ (zc F.out.lin.box)).trans F.out.lin.box) (by decide)
      have bv:Hid _:=zk (F.out.lin.strs.row.alloc _) J ((Below.heap_alloc _ _ _ (zc al.out)).trans al.out) (by decide)
      have az:Hid (z3.cell? ⟨X,0,none⟩=some r9∧z3.cell? ⟨wr.heap.size,0,none⟩=some (.int .i64 Y)∧z3.cell? ⟨wr.heap.size,1,none⟩=some (.int .i64 aa)∧z3.cell? ⟨wr.heap.size,2,none⟩=some (.string (za V))∧z3.cell? ⟨wr.heap.size,3,none⟩=some (.string (za Z))∧z3.cell? ⟨wr.heap.size,4,none⟩=some (.bool ab)):=by
       obtain ⟨a0,a1,a2,a3,a4⟩:=zU bv.out;exact ⟨zt aj.out,a0,a1,a2,a3,a4⟩
      refine I.out _ _ (fun _=>⟨⟨z3,az.out⟩,rfl⟩) ?_
      clear I K ah J af
      (try simp only [Act.put,List.setIfInBounds_toArray,List.set_cons_zero,List.set_cons_succ])
      refine zL (fuel:=0) (fuel':=1) (i:=5) rfl (by kernel_rfl) rfl rfl (by rfl) ?_
      intro K I;have au:=zt aj.out;have aR:=Y3 aj.out 0;go_simp;refine I.out _ _ (fun h=>absurd rfl h) ?_
      clear I K;refine Yi (by kernel_rfl) ?_
      clear x0 x1 x2 x3 x4 x5 au aR aG;go_wp2
      exact ⟨⟨i+1,_,by omega,by go_num,by rw [aP.out];exact aB.out⟩,by simp [intOf];omega⟩
     ·have bB:¬ (i:Int)<x.length:=by omega
      obtain rfl:i=x.length:=by omega
      rw [List.take_length] at HJ;obtain ⟨PR,ak⟩:∃PR,PR=L2++x.map Za:=⟨_,rfl⟩;rw [←ak] at HJ;have aP:Hid (PR=L2++x.map Za):=ak
      have ay:Hid (PR.length≤4000000):=by
       have:=bk.out
       show _≤_
       rw [ak,List.length_append,List.length_map];omega
      clear ak
      go_upto_region 20 with fail
      have ag:Hid (∀W,YD w w8 W X G (Yn B m fault (.slice R frames.length U) out z (.slice bs x.length cs) A n y) (.pointer (some ⟨h,0,none⟩)) r9 PR→W.cell? ⟨X,0,none⟩=some r9∧W.cell? ⟨w.heap.size,7,none⟩=some (.int .i64 A)∧W.cell? ⟨w.heap.size,8,none⟩=some (.int .i64 n)∧W.cell? ⟨w.heap.size,9,none⟩=some (.string (za y))):=fun W hL=>by
       obtain ⟨-,-,-,-,-,-,-,b7,b8,b9⟩:=zE hL.lin.view;exact ⟨zt hL.lin.box,b7,b8,b9⟩
      have x0:∀c:zD fun W=>W.cell? ⟨X,0,none⟩=some r9∧W.cell? ⟨w.heap.size,7,none⟩=some (.int .i64 A)∧W.cell? ⟨w.heap.size,8,none⟩=some (.int .i64 n)∧W.cell? ⟨w.heap.size,9,none⟩=some (.string (za y)),c.1.cell? ⟨X,0,none⟩=some r9:=fun c=>c.2.1
      have x1:∀c:zD fun W=>W.cell? ⟨X,0,none⟩=some r9∧W.cell? ⟨w.heap.size,7,none⟩=some (.int .i64 A)∧W.cell? ⟨w.heap.size,8,none⟩=some (.int .i64 n)∧W.cell? ⟨w.heap.size,9,none⟩=some (.string (za y)),c.1.cell? ⟨w.heap.size,7,none⟩=some (.int .i64 A):=fun c=>c.2.2.1
      have x2:∀c:zD fun W=>W.cell? ⟨X,0,none⟩=some r9∧W.cell? ⟨w.heap.size,7,none⟩=some (.int .i64 A)∧W.cell? ⟨w.heap.size,8,none⟩=some (.int .i64 n)∧W.cell? ⟨w.heap.size,9,none⟩=some (.string (za y)),c.1.cell? ⟨w.heap.size,8,none⟩=some (.int .i64 n):=fun c=>c.2.2.2.1
      have x3:∀c:zD fun W=>W.cell? ⟨X,0,none⟩=some r9∧W.cell? ⟨w.heap.size,7,none⟩=some (.int .i64 A)∧W.cell? ⟨w.heap.size,8,none⟩=some (.int .i64 n)∧W.cell? ⟨w.heap.size,9,none⟩=some (.string (za y)),c.1.cell? ⟨w.heap.size,9,none⟩=some (.string (za y)):=fun c=>c.2.2.2.2
      haveI aG:Nonempty (zD fun W=>W.cell? ⟨X,0,none⟩=some r9∧W.cell? ⟨w.heap.size,7,none⟩=some (.int .i64 A)∧W.cell? ⟨w.heap.size,8,none⟩=some (.int .i64 n)∧W.cell? ⟨w.heap.size,9,none⟩=some (.string (za y))):=⟨⟨wr,ag.out _ HJ.out⟩⟩
      refine ZY (n:=8) (S:=fun w'=>∃c:zD fun W=>W.cell? ⟨X,0,none⟩=some r9∧W.cell? ⟨w.heap.size,7,none⟩=some (.int .i64 A)∧W.cell? ⟨w.heap.size,8,none⟩=some (.int .i64 n)∧W.cell? ⟨w.heap.size,9,none⟩=some (.string (za y)),w'=c.1) (by kernel_rfl) rfl rfl ?_
      have ae:Hid (Below wr.heap.size wr wr.drew):=(Below.refl _ _).drew;obtain ⟨zd,ar⟩:∃zd,zd=wr.drew:=⟨_,rfl⟩;rw [←ar] at ae ⊢;have am:Hid _:=HJ.out.new ae.out;clear ar;refine Zt (fuel:=5) (fuel':=8) (idx:=[0,1,2]) (by kernel_rfl) rfl rfl rfl (fun _ _ _ _ _ h=>h) ⟨⟨zd,ag.out _ am.out⟩,rfl⟩ ?_
      show wpQuiet _ _ _ _ [_,_,_] _
      iterate 3 (go_big_quiet_step (fail))
      refine wpQuiet_nil ?_;refine zR (fuel:=4) (fuel':=5) (i:=3) rfl (by kernel_rfl) rfl rfl (by rfl) ?_
      intro K I;go_simp;refine (YB A n y zd HS.out.err HS.out.n HS.out.says (HT.out.below am.out.lin.strs.below (Nat.le_refl _))).mono ?_;rintro e z1 ⟨rfl,hb⟩;have F:Hid _:=am.out.new hb;clear hb
      (try go_simp)
      refine I.out _ _ ⟨⟨z1,ag.out _ F.out⟩,rfl⟩ ?_;clear I K;refine zR (fuel:=3) (fuel':=4) (i:=4) rfl (by kernel_rfl) rfl rfl (by rfl) ?_
      intro K I;go_simp;have ax:Hid (Below z1.heap.size z1 (z1.alloc (.cells #[.string (za (Zz A n y))] 9))):=(Below.refl _ _).alloc (Nat.le_refl _) _;refine I.out _ _ ⟨⟨_,ag.out _ (F.out.new ax.out)⟩,rfl⟩ ?_;clear I K;refine Y2 (fuel:=2) (fuel':=3) (i:=5) rfl (by kernel_rfl) rfl rfl (by rfl) ?_
      intro K I;refine zO (.tmp 72) (.tmp 76) rfl (by rfl) w.heap.size r9 PR [Zz A n y] rfl z1 w F.out.lin.strs rfl rfl (by have:=ay.out;simp;omega) ?_
      intro v9 z3 ah J af;have cX:Hid (zj w.heap.size w z3 v9 (PR++[Zz A n y])):=ah;have bH:Hid _:=zk (F.out.lin.strs.row.alloc _) J ((Below.heap_alloc _ _ _ (zc F.out.lin.view)).trans F.out.lin.view) (by decide)
      have aj:Hid _:=zk (F.out.lin.strs.row.alloc _) J ((Below.heap_alloc _ _ _ (zc F.out.lin.box)).trans F.out.lin.box) (by decide)
      have az:Hid (z3.cell? ⟨X,0,none⟩=some r9∧z3.cell? ⟨w.heap.size,7,none⟩=some (.int .i64 A)∧z3.cell? ⟨w.heap.size,8,none⟩=some (.int .i64 n)∧z3.cell? ⟨w.heap.size,9,none⟩=some (.string (za y))):=by
       obtain ⟨-,-,-,-,-,-,-,b7,b8,b9⟩:=zE bH.out;exact ⟨zt aj.out,b7,b8,b9⟩
      have cW:Hid (z3.heap[D]?=some (.deferred (some []))):=by
       have cG:z1.heap[D]?=some (.deferred (some [])):=(F.out.kept D bW.out).trans cR.out;have bV:(z1.alloc (.cells #[.string (za (Zz A n y))] 9)).heap[D]?=some (.deferred (some [])):=(Below.heap_alloc _ _ _ (zF cG)).trans cG;exact (J.block D (zF bV) (fun e=>F.out.away D e.symm bW.out)).trans bV
      refine I.out _ _ ⟨⟨z3,az.out⟩,rfl⟩ ?_;clear I K ah J af
      (try simp only [Act.put,List.setIfInBounds_toArray,List.set_cons_zero,List.set_cons_succ])
      refine Zt (fuel:=0) (fuel':=2) (idx:=[6,7]) (by kernel_rfl) rfl rfl rfl (fun _ _ _ _ _ h=>h) ⟨⟨z3,az.out⟩,rfl⟩ ?_
      show wpQuiet _ _ _ _ [_,_] _
      iterate 2 (go_big_quiet_step (fail))
      refine wpQuiet_nil ?_;refine yk (by kernel_rfl) ?_
      clear x0 x1 x2 x3 aG;go_wp2
      have I:=cW.out;refine ⟨by simp,.inl ⟨_,_,rfl,run_takeDeferred I,?_⟩⟩
      refine ⟨_,results_tmp2 rfl _ _ _,.inr ⟨HM.out,v9,rfl,?_⟩⟩;have b6:=cX.out.putObj (o':=.deferred none) I rfl c7.out
      have e:Y6 os ⟨⟨B,m,fault,frames,out⟩,z,x,⟨A,n,y⟩⟩=PR++[Zz A n y]:=by
       rw [aP.out,c6.out,ad.out,cL.out,aN.out];rfl
      rw [e];exact b6
end Go.Proofs.YtbjndgachcdbcaaGreatDoor
