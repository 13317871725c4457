import Derived.Test.YtbjndgachcdbcaaGreatDoorVIter
import Derived.Test.YtbjndgachcdbcaaGreatDoorVMixL
import Derived.Test.YtbjndgachcdbcaaGreatDoorVFrame
import Derived.Test.YtbjndgachcdbcaaGreatDoorVStop
import Derived.Test.YtbjndgachcdbcaaGreatDoorVReply
import Derived.Test.YtbjndgachcdbcaaGreatDoorVOut
import Derived.Test.YtbjndgachcdbcaaGreatDoorVMay
import Derived.Deep.DeepCutAuto
namespace Go.Proofs.YtbjndgachcdbcaaGreatDoor
open Go.RowKit Go.Shelf
set_option maxHeartbeats 16000000
set_option maxRecDepth 100000
attribute [local go_sem] Oper.semAt_some
structure ZQ (w W:World) (X:Nat) (xs:Array Value) (hp r:Value) (l:List (List UInt8)):Prop where
 view:W.heap[w.heap.size]?=some (.cells xs 35 (0,0))
 ptr:W.heap[w.heap.size+1]?=some (.cells #[hp] 37 (0,0))
 box:W.heap[X]?=some (.cells #[r] 41 (0,0))
 low:w.heap.size≤X
 strs:zj w.heap.size w W r l
theorem ZQ.new {w W W':World} {X:Nat} {xs:Array Value} {hp r:Value} {l:List (List UInt8)} (h:ZQ w W X xs hp r l) (hb:Below W.heap.size W W'):ZQ w W' X xs hp r l :=
 ⟨(hb.block _ (zc h.view)).trans h.view,(hb.block _ (zc h.ptr)).trans h.ptr,(hb.block _ (zc h.box)).trans h.box,h.low,h.strs.new hb⟩
theorem zt {w:World} {N:Nat} {x0:Value} {ty:TypeId} (h:w.heap[N]?=some (.cells #[x0] ty (0,0))):w.cell? ⟨N,0,none⟩=some x0:=by
 simp only [World.cell?,h];rfl
theorem ZQ.put {w W W3:World} {X:Nat} {xs:Array Value} {hp r v:Value} {l m:List (List UInt8)} {o:Obj} (h:ZQ w W X xs hp r l) (hj:zj w.heap.size w W3 v m) (hg:(W.alloc o).grownBy W3 r.ownBlock):ZQ w (W3.setCell ⟨X,0,none⟩ v) X xs hp v m:=by
 have c:=zk (h.strs.row.alloc _) hg ((Below.heap_alloc _ _ _ (zc h.view)).trans h.view) (by decide)
 have q:=zk (h.strs.row.alloc _) hg ((Below.heap_alloc _ _ _ (zc h.ptr)).trans h.ptr) (by decide)
 have b:=zk (h.strs.row.alloc _) hg ((Below.heap_alloc _ _ _ (zc h.box)).trans h.box) (by decide)
 have z:w.heap.size≠X:=fun e=>by rw [e,b] at c;simp at c
 have x:w.heap.size+1≠X:=fun e=>by rw [e,b] at q;simp at q
 refine ⟨(Below.heap_setCell _ _ _ _ (by simpa using z)).trans c,(Below.heap_setCell _ _ _ _ (by simpa using x)).trans q,?_,h.low,⟨?_,hj.below.setCell (p:=⟨X,0,none⟩) h.low _,by simpa using hj.low⟩⟩
 ·have:=heap_setCell_same W3 X 0 #[r] 41 v b
  simpa using this
 ·refine ownsRow_setCell_other hj.row (a:=⟨X,0,none⟩) (fun e=>?_) _
  obtain ⟨y,u⟩:=Zg hj.row e;rw [b] at u
  simp at u
theorem zE {w:World} {N:Nat} {x0 x1 x2 x3 x4 x5 x6 x7 x8 x9:Value} {ty:TypeId} (h:w.heap[N]?=some (.cells #[x0,x1,x2,x3,x4,x5,x6,x7,x8,x9] ty (0,0))):w.cell? ⟨N,0,none⟩=some x0∧w.cell? ⟨N,1,none⟩=some x1∧w.cell? ⟨N,2,none⟩=some x2∧w.cell? ⟨N,3,none⟩=some x3∧w.cell? ⟨N,4,none⟩=some x4∧w.cell? ⟨N,5,none⟩=some x5∧w.cell? ⟨N,6,none⟩=some x6∧w.cell? ⟨N,7,none⟩=some x7∧w.cell? ⟨N,8,none⟩=some x8∧w.cell? ⟨N,9,none⟩=some x9:=by
 refine ⟨?_,?_,?_,?_,?_,?_,?_,?_,?_,?_⟩ <;> (simp only [World.cell?,h];rfl)
theorem zF {w:World} {N:Nat} {o:Obj} (h:w.heap[N]?=some o):N<w.heap.size:=(Array.getElem?_eq_some_iff.1 h).1
theorem yM (os:List Ob) (sel:Int):∀(k:Nat) (l:List Fr) (f:Fr),zl os sel k (l++[f])=zl os sel k l++[Zy os f (decide (((k+l.length:Nat):Int)=sel))]
 | k,[],f=>by simp [zl]
 | k,x::t,f=>by
  rw [List.cons_append,zl,yM os sel (k+1) t f,zl,List.cons_append,List.length_cons,show k+1+t.length=k+(t.length+1) by omega]
theorem ZV (os:List Ob) (sel:Int):∀(k:Nat) (l:List Fr),(zl os sel k l).length=l.length
 | _,[]=>rfl
 | k,_::t=>by rw [zl,List.length_cons,ZV os sel (k+1) t,List.length_cons]
theorem xf (os:List Ob) (sel:Int) (frames:List Fr) {i k:Nat} (hk:k<frames.length) (h:frames.length=k+1+i):zl os sel 0 (frames.reverse.take (i+1))=zl os sel 0 (frames.reverse.take i)++[Zy os frames[k] (decide ((i:Int)=sel))]:=by
 have m:i<frames.reverse.length:=by rw [List.length_reverse];omega
 have e:frames.reverse.take i++[frames.reverse[i]]=frames.reverse.take (i+1):=List.take_append_getElem m
 have b:frames.reverse[i]=frames[k]:=by
  rw [List.getElem_reverse]
  congr 1
  omega
 have c:(frames.reverse.take i).length=i:=by rw [List.length_take];omega
 rw [←e,yM,b,c,Nat.zero_add]
abbrev Yn (pos status fault:Int) (vf:Value) (out:List UInt8) (sel:Int) (vs:Value) (err n:Int) (says:List UInt8):Array Value:=#[.int .i64 pos,.int .i64 status,.int .i64 fault,vf,.string (za out),.int .i64 sel,vs,.int .i64 err,.int .i64 n,.string (za says)]
theorem ZQ.turn {w W W':World} {X:Nat} {xs:Array Value} {hp r:Value} {l:List (List UInt8)} (h:ZQ w W X xs hp r l) (hB:Below w.heap.size W W') (hk:∀(b:Nat) (c:Array Value) (ty:TypeId) (z:Nat × Nat),W.heap[b]?=some (.cells c ty z)→W'.heap[b]?=W.heap[b]?):ZQ w W' X xs hp r l :=
 ⟨(hk _ _ _ _ h.view).trans h.view,(hk _ _ _ _ h.ptr).trans h.ptr,(hk _ _ _ _ h.box).trans h.box,h.low,
  ⟨zm h.strs.row fun k e _=>by obtain ⟨c,m⟩:=Zg h.strs.row e;exact hk _ _ _ _ m,h.strs.below.trans hB,Nat.le_trans h.strs.low hB.size⟩⟩
structure Vn (w:World) (X D Bn:Nat) (xs:Array Value) (hp sl:Value) (os:List Ob) (sel:Int) (frames:List Fr) (pl:List UInt8) (ob:Obj) (i:Nat) (W:World):Prop where
 lin:∃r,ZQ w W X xs hp r ([pl]++zl os sel 0 (frames.reverse.take i))
 dfr:W.heap[D]?=some (.deferred (some []))
 loop:W.heap[D+1]?=some ob
 itr:W.heap[Bn]?=some (.cells #[sl] 27 (0,0))
 wD:w.heap.size≤D
theorem Vn.turn {w:World} {X D Bn:Nat} {xs:Array Value} {hp sl:Value} {os:List Ob} {sel:Int} {frames:List Fr} {pl:List UInt8} {ob ob':Obj} {i:Nat} {W W':World} (h:Vn w X D Bn xs hp sl os sel frames pl ob i W) (hob:ob.isCells=false)
  (hB:Below w.heap.size W W') (hk:∀b,b<W.heap.size→b≠D+1→W'.heap[b]?=W.heap[b]?) (h4:W'.heap[D+1]?=some ob'):Vn w X D Bn xs hp sl os sel frames pl ob' i W':=by
 have c:∀(k:Nat) (cur:Array Value) (e:TypeId) (z:Nat × Nat),W.heap[k]?=some (Obj.cells cur e z)→W'.heap[k]?=W.heap[k]?:=fun k cur e z hh=>by
  refine hk k (Array.getElem?_eq_some_iff.1 hh).1 (fun e'=>?_)
  have m:=h.loop;subst e';rw [hh] at m;cases m
  cases hob
 obtain ⟨r,o⟩:=h.lin;exact ⟨⟨r,o.turn hB c⟩,(hk _ (Array.getElem?_eq_some_iff.1 h.dfr).1 (by omega)).trans h.dfr,h4,(c _ _ _ _ h.itr).trans h.itr,h.wD⟩
theorem Vn.step {w:World} {X D Bn:Nat} {xs:Array Value} {hp sl r v:Value} {os:List Ob} {sel:Int} {frames:List Fr} {pl:List UInt8} {ob o:Obj} {i:Nat} {Wb z1 z3:World} {l:List (List UInt8)} (h:Vn w X D Bn xs hp sl os sel frames pl ob i Wb) (hob:ob.isCells=false)
  (hb:Below Wb.heap.size Wb z1) (hL:ZQ w z1 X xs hp r l) (hg:(z1.alloc o).grownBy z3 r.ownBlock) (hN:ZQ w (z3.setCell ⟨X,0,none⟩ v) X xs hp v ([pl]++zl os sel 0 (frames.reverse.take (i+1)))):Vn w X D Bn xs hp sl os sel frames pl ob (i+1) (z3.setCell ⟨X,0,none⟩ v):=by
 have u:=zk (hL.strs.row.alloc _) hg ((Below.heap_alloc _ _ _ (zc hL.box)).trans hL.box) (by decide)
 have c:∀(q:Nat) (o':Obj),Wb.heap[q]?=some o'→(∀b z,o'≠.cells b 9 z)→(∀b z,o'≠.cells b 41 z)→(z3.setCell ⟨X,0,none⟩ v).heap[q]?=some o':=by
  intro q o' y E F;have B:z1.heap[q]?=some o':=(hb.block _ (zF y)).trans y;have m:(z1.alloc o).heap[q]?=some o':=(Below.heap_alloc _ _ _ (zF B)).trans B
  have A:z3.heap[q]?=some o':=(hg.block q (zF m) (fun e=>by
   obtain ⟨b,x⟩:=Zg (hL.strs.row.alloc o) e.symm;rw [m] at x
   exact E _ _ (Option.some.inj x))).trans m
  have G:q≠X:=fun e=>by
   subst e;rw [A] at u;exact F _ _ (Option.some.inj u)
  exact (Below.heap_setCell _ _ _ _ (by simpa using G)).trans A
 exact ⟨⟨_,hN⟩,c _ _ h.dfr (fun _ _ e=>by cases e) (fun _ _ e=>by cases e),c _ _ h.loop (fun _ _ e=>by rw [e] at hob;cases hob) (fun _ _ e=>by rw [e] at hob;cases hob),c _ _ h.itr (fun _ _ e=>by simp at e) (fun _ _ e=>by simp at e),h.wD⟩
structure YD (w W0 W:World) (X:Nat) (G:Nat→Prop) (xs:Array Value) (hp r:Value) (l:List (List UInt8)):Prop where
 lin:ZQ w W X xs hp r l
 kept:∀q,G q→W.heap[q]?=W0.heap[q]?
 gs:∀q,G q→q<W0.heap.size
 size:W0.heap.size≤W.heap.size
 away:∀q,r.ownBlock=some q→¬ G q
 far:¬ G X
theorem YD.new {w W0 W W':World} {X:Nat} {G:Nat→Prop} {xs:Array Value} {hp r:Value} {l:List (List UInt8)} (h:YD w W0 W X G xs hp r l) (hb:Below W.heap.size W W'):YD w W0 W' X G xs hp r l :=
 ⟨h.lin.new hb,fun q hq=>(hb.block q (by have:=h.gs q hq;have:=h.size;omega)).trans (h.kept q hq),h.gs,Nat.le_trans h.size hb.size,h.away,h.far⟩
theorem YD.put {w W0 z1 z3:World} {X:Nat} {G:Nat→Prop} {xs:Array Value} {hp r v:Value} {l m:List (List UInt8)} {o:Obj} (h:YD w W0 z1 X G xs hp r l) (hj:zj w.heap.size w z3 v m) (hg:(z1.alloc o).grownBy z3 r.ownBlock) (hloc:v.ownBlock=r.ownBlock∨∃k,v.ownBlock=some k∧(z1.alloc o).heap.size≤k):YD w W0 (z3.setCell ⟨X,0,none⟩ v) X G xs hp v m:=by
 have x:=hg.size;have A:=h.size;refine ⟨h.lin.put hj hg,fun q hq=>?_,h.gs,by simp;simp at x;omega,fun q e hq=>?_,h.far⟩
 ·have b:=h.gs q hq
  have y:q≠X:=fun e=>h.far (by rw [←e];exact hq)
  rw [Below.heap_setCell _ _ _ _ (by simpa using y),hg.block q (by simp;omega) (fun e=>h.away q e.symm hq),Below.heap_alloc _ _ _ (by omega)]
  exact h.kept q hq
 ·have b:=h.gs q hq
  rcases hloc with c | ⟨k,c,u⟩
  ·exact h.away q (c.symm.trans e) hq
  ·rw [c] at e
   have z:k=q:=Option.some.inj e
   simp at u
   omega
theorem zO {ops:Array Oper} {o:Oper} {a:Act} {w:World} {K:Act→World→Prop} {Q:Exit→Act→World→Prop} {E:Prop} (s x:Operand)
  (ho:o.op=.call { callee:=.builtin .append,args:=#[s,x],argTypes:=#[41,41] }) (hw:Region.wanted o (yielded ops a.tmps)=true)
  (B:Nat) (v:Value) (l m:List (List UInt8)) (hs:a.eval s=v) (w1:World) (w0:World) (hj:zj B w0 w1 v l) (hw1:w=w1.alloc (.cells (strC m).toArray 9)) (hx:a.eval x=.slice (some ⟨w1.heap.size,0,none⟩) m.length m.length)
  (hb:l.length+m.length≤4294967296)
  (h:∀b c,zj B w0 c b (l++m)→w.grownBy c v.ownBlock→(b.ownBlock=v.ownBlock∨∃k,b.ownBlock=some k∧w.heap.size≤k)→K (a.put o.dst b) c) :
  if Region.wanted o (yielded ops a.tmps)=true then Oper.wp Tryz.prog o a w K Q else E:=by
 obtain ⟨G,H,D,z,A⟩:=info_parts Yd;subst hw1;have F:=hj.low;refine ZP s x 41 ho hw B 9 G (.string ⟨#[]⟩) 1 16 Tryz.underlying41 H D z A rfl (by decide) v l.length _ hs (hj.row.alloc _) ⟨w1.heap.size,0,none⟩ m.length m.length (strC m) hx (by rw [ZH,Nat.mul_one]) (ya _ _ _) (Yc m) (by unfold maxLen;omega) (by omega) (by simp;omega) ?_
 intro b c y q u;exact h b c (hj.app ((Below.refl _ _).alloc (Nat.le_refl _) _) y q) q (u.imp id fun e=>⟨_,e,Nat.le_refl _⟩)
theorem YV:∀(ls:List (List UInt8)) (s:List UInt8),s∈ls→s.length≤(zi ls).length
 | [],_,h=>by cases h
 | x::t,s,h=>by
  have e:zi (x::t)=(x++[10])++zi t:=rfl;rw [e,List.length_append,List.length_append];rcases List.mem_cons.1 h with rfl | h
  ·omega
  ·have:=YV t s h;omega
theorem vJ (out s:List UInt8) (h:s∈Yx out):s.length≤out.length:=by
 obtain ⟨rest,-,b,-⟩:=Zu out [] (fun _ h=>by cases h)
 have e:=YV _ s (List.mem_of_mem_drop h);rw [List.nil_append] at b;have c:=congrArg List.length b;rw [List.length_append] at c;omega
theorem vK (out:List UInt8):(Yx out).length≤4:=by unfold Yx vE;rw [List.length_drop];omega
theorem xP {α β:Type} (f:α→β) (l:List α) {i:Nat} (h:i<l.length):(l.take (i+1)).map f=(l.take i).map f++[f l[i]]:=by
 have e:l.take i++[l[i]]=l.take (i+1):=List.take_append_getElem h;rw [←e,List.map_append];rfl
theorem zj.putObj {B D:Nat} {w0 w:World} {v:Value} {l:List (List UInt8)} {o o':Obj} (h:zj B w0 w v l) (hd:w.heap[D]?=some o) (ho:o.isCells=false) (hD:B≤D):zj B w0 (w.putObj D o') v l:=by
 refine ⟨zm h.row fun k e _=>?_,h.below.grown (grownBy_putObj' _ _ _) h.low (fun k e=>by cases e;omega),?_⟩
 ·obtain ⟨c,b⟩:=Zg h.row e
  refine World.putObj_heap_other fun e'=>?_
  rw [e',hd] at b;cases b
  cases ho
 ·have:=(grownBy_putObj' w D o').size
  exact Nat.le_trans h.low this
theorem X4 {S T:Nat→Prop} {most:Nat} {os:List Ob} {h:Nat} {vo vc:Value} (v:Vw) (vf vs:Value) (w:World) (H:zA S w most os h vo vc) (hv:Zl T w v vf vs) (hs:Xh v) (ht:yW w) :
  Calls Tryz.prog 13 #[VS vf vs v,.pointer (some ⟨h,0,none⟩)] w fun e w'=>(Vh os.length v=false∧e=.returned (.tuple #[.slice none 0 0,.int .i64 2])∧Below w.heap.size w w')∨(Vh os.length v=true∧∃r,e=.returned (.tuple #[r,.int .i64 0])∧zj w.heap.size w w' r (Y6 os v)):=by
 have HH:Hid (zA S w most os h vo vc):=H;have HV:Hid (Zl T w v vf vs):=hv;have HS:Hid (Xh v):=hs;have HT:Hid (yW w):=ht;obtain ⟨R,U,rfl,bh,cq,aN⟩:=hv.frames.at;obtain ⟨bs,cs,rfl,bi,cB,aS⟩:=hv.stops.at;obtain ⟨⟨B,m,fault,frames,out⟩,z,x,⟨A,n,y⟩⟩:=v;simp only at aN aS bh bi;have b0:Hid (∀i (hi:i<frames.length),∃b o,R=some ⟨b,o,none⟩∧T b∧b<w.heap.size∧VR T w b (o+i*3) frames[i]):=aN;have bW:Hid (∀i (hi:i<x.length),∃b o,bs=some ⟨b,o,none⟩∧T b∧b<w.heap.size∧VW w b (o+i*5) x[i]):=aS;obtain ⟨w2,cd,an,cV,h0,h1⟩:=VV w (.cells #[.int .i64 B,.int .i64 m,.int .i64 fault,.slice R frames.length U,.string (za out),.int .i64 z,.slice bs x.length cs,.int .i64 A,.int .i64 n,.string (za y)] 35) (.cells #[.pointer (some ⟨h,0,none⟩)] 37);have bL:Hid (w2=(w.alloc (.cells #[.int .i64 B,.int .i64 m,.int .i64 fault,.slice R frames.length U,.string (za out),.int .i64 z,.slice bs x.length cs,.int .i64 A,.int .i64 n,.string (za y)] 35)).alloc (.cells #[.pointer (some ⟨h,0,none⟩)] 37)):=cd;have cb:Hid (Below w.heap.size w w2):=an;have cv:Hid (w2.heap[w.heap.size]?=some (.cells #[.int .i64 B,.int .i64 m,.int .i64 fault,.slice R frames.length U,.string (za out),.int .i64 z,.slice bs x.length cs,.int .i64 A,.int .i64 n,.string (za y)] 35 (0,0))):=h0;have bV:Hid (w2.heap[w.heap.size+1]?=some (.cells #[.pointer (some ⟨h,0,none⟩)] 37 (0,0))):=h1;have ci:=XY w2 (H.below an) (ht.below an (Nat.le_refl _)).tabs;obtain ⟨p0,p1,p2,p3,p4,p5,p6,p7,p8,p9⟩:=zE h0;have pp:=zt h1
 have bY:Hid (∀W,Below w.heap.size w W→Calls Tryz.prog 23 #[.agg #[.int .i64 B,.int .i64 m,.int .i64 fault,.slice R frames.length U,.string (za out)],.pointer (some ⟨h,0,none⟩)] W fun e w'=>e=.returned (.bool (xM os.length m fault frames))∧Below W.heap.size W w'):=fun W hW =>
  xO _ B m fault out frames W (HH.out.below hW) (HV.out.below hW).frames HS.out.frames HS.out.nframes (HT.out.below hW (Nat.le_refl _))
 have HM:Hid (Vh os.length ⟨⟨B,m,fault,frames,out⟩,z,x,⟨A,n,y⟩⟩=xM os.length m fault frames):=rfl
 have b2:Hid (xM os.length m fault frames=true→0≤m∧m≤2):=fun h=>by
  unfold xM at h
  simp only [Bool.and_eq_true,decide_eq_true_eq] at h;exact h.1.1
 obtain ⟨M,hM⟩:∃M,M=xM os.length m fault frames:=⟨_,rfl⟩;rw [←hM] at HM bY b2;clear cd an h0 h1 cV H hv hs ht aN aS bh cq bi cB hM;refine (callsIn_wide (n:=5)).1 ?_;refine callsIn_of_wp_marks Tryz.func13 rfl trivial ?_ rfl;simp only [Tryz.ntmps13,List.size_toArray,List.length_cons,List.length_nil,Nat.reduceAdd,Nat.reduceSub,Array.replicate_succ,Array.replicate_zero,List.push_toArray,List.append_toArray,List.nil_append,List.cons_append];refine wpIn_wide.2 ?_;go_wp2_with fail
 rw [←bL.out];refine ci.mono ?_;clear ci p0 p1 p2 p3 p4 p5 p6 p7 p8 p9 pp;rintro e w3 ⟨rfl,a7⟩;have bM:Hid (Below w.heap.size w w3):=cb.out.trans (a7.mono cb.out.size);have bE:Hid (w3.heap[w.heap.size]?=some (.cells #[.int .i64 B,.int .i64 m,.int .i64 fault,.slice R frames.length U,.string (za out),.int .i64 z,.slice bs x.length cs,.int .i64 A,.int .i64 n,.string (za y)] 35 (0,0))):=(a7.block _ (zc cv.out)).trans cv.out;have bK:Hid (w3.heap[w.heap.size+1]?=some (.cells #[.pointer (some ⟨h,0,none⟩)] 37 (0,0))):=(a7.block _ (zc bV.out)).trans bV.out;obtain ⟨p0,p1,p2,p3,p4,p5,p6,p7,p8,p9⟩:=zE bE.out;have pp:=zt bK.out;have cm:=bY.out w3 bM.out;clear a7;go_wp2_with fail
 refine cm.mono ?_;clear cm p0 p1 p2 p3 p4 p5 p6 p7 p8 p9 pp;rintro e w4 ⟨rfl,aZ⟩;have ba:Hid (Below w.heap.size w w4):=bM.out.trans (aZ.mono bM.out.size);have bA:Hid (w4.heap[w.heap.size]?=some (.cells #[.int .i64 B,.int .i64 m,.int .i64 fault,.slice R frames.length U,.string (za out),.int .i64 z,.slice bs x.length cs,.int .i64 A,.int .i64 n,.string (za y)] 35 (0,0))):=(aZ.block _ (zc bE.out)).trans bE.out;have aJ:Hid (w4.heap[w.heap.size+1]?=some (.cells #[.pointer (some ⟨h,0,none⟩)] 37 (0,0))):=(aZ.block _ (zc bK.out)).trans bK.out;clear aZ;cases M with
 | false =>
  go_wp2_with fail
  exact ⟨_,results_tmp2 rfl _ _ _,.inl ⟨HM.out,rfl,ba.out⟩⟩
 | true =>
  obtain ⟨p0,p1,p2,p3,p4,p5,p6,p7,p8,p9⟩:=zE bA.out;have aE:=b2.out rfl;have cp:=Yz (.slice R frames.length U) B m fault out w4 HS.out.pos (HT.out.below ba.out (Nat.le_refl _)) aE;clear aE;go_wp2_with fail
  refine cp.mono ?_;clear cp p0 p1 p2 p3 p4 p5 p6 p7 p8 p9;rintro e w5 ⟨rfl,av⟩;have bv:Hid (Below w.heap.size w w5):=ba.out.trans (av.mono ba.out.size);have aX:Hid (w5.heap[w.heap.size]?=some (.cells #[.int .i64 B,.int .i64 m,.int .i64 fault,.slice R frames.length U,.string (za out),.int .i64 z,.slice bs x.length cs,.int .i64 A,.int .i64 n,.string (za y)] 35 (0,0))):=(av.block _ (zc bA.out)).trans bA.out;have bw:Hid (w5.heap[w.heap.size+1]?=some (.cells #[.pointer (some ⟨h,0,none⟩)] 37 (0,0))):=(av.block _ (zc aJ.out)).trans aJ.out;obtain ⟨p0,p1,p2,p3,p4,p5,p6,p7,p8,p9⟩:=zE aX.out;clear av
  go_upto_region 6 with fail
  have aP:ZQ w ((w5.alloc (.cells #[.string (za (Zb B m fault))] 9)).alloc (.cells #[.slice (some ⟨w5.heap.size,0,none⟩) 1 1] 41)) (w5.heap.size+1) (Yn B m fault (.slice R frames.length U) out z (.slice bs x.length cs) A n y) (.pointer (some ⟨h,0,none⟩)) (.slice (some ⟨w5.heap.size,0,none⟩) 1 1) [Zb B m fault]:=by
   have dh:=bv.out.size;have hl:=zj.lit w.heap.size w w5 [Zb B m fault] bv.out bv.out.size (by simp [maxLen])
   refine ⟨?_,?_,?_,by omega,hl.new ((Below.refl _ _).alloc (Nat.le_refl _) _)⟩
   ·exact (Below.heap_alloc _ _ _ (by have:=zc aX.out;simp;omega)).trans ((Below.heap_alloc _ _ _ (zc aX.out)).trans aX.out)
   ·exact (Below.heap_alloc _ _ _ (by have:=zc bw.out;simp;omega)).trans ((Below.heap_alloc _ _ _ (zc bw.out)).trans bw.out)
   ·have:=World.alloc_heap_new (w5.alloc (.cells #[.string (za (Zb B m fault))] 9)) (.cells #[.slice (some ⟨w5.heap.size,0,none⟩) 1 1] 41)
    simpa using this
  obtain ⟨X,hX⟩:∃X,X=w5.heap.size+1:=⟨_,rfl⟩;obtain ⟨r6,cD⟩:∃r6,r6=Value.slice (some ⟨w5.heap.size,0,none⟩) 1 1:=⟨_,rfl⟩;obtain ⟨w6,cE⟩:∃w6,w6=(w5.alloc (.cells #[.string (za (Zb B m fault))] 9)).alloc (.cells #[.slice (some ⟨w5.heap.size,0,none⟩) 1 1] 41):=⟨_,rfl⟩;obtain ⟨PL,bt⟩:∃PL,PL=Zb B m fault:=⟨_,rfl⟩;rw [←cE,←hX] at aP ⊢;rw [←bt] at aP;rw [←cD] at aP;have cL:Hid (PL=Zb B m fault):=bt;have cr:Hid _:=aP;clear p0 p1 p2 p3 p4 p5 p6 p7 p8 p9 bt;obtain ⟨p0,p1,p2,p3,p4,p5,p6,p7,p8,p9⟩:=zE cr.out.view;clear aP hX cD cE;go_wp2_with fail
  refine (callsIn_wide.1 (Yy (.slice R frames.length U) R frames.length U rfl w6)).mono ?_;rintro e w7 ⟨rfl,bH⟩;clear p0 p1 p2 p3 p4 p5 p6 p7 p8 p9;have bg:Below w6.heap.size w6 w7:=by rw [bH];exact (Below.refl _ _).alloc (Nat.le_refl _) _
  have aC:w7.heap[w6.heap.size]?=some (.cells #[.slice R frames.length U] 27 (0,0)):=by rw [bH];exact World.alloc_heap_new _ _
  have bO:=cr.out.new bg;clear bH;go_wp2_with fail
  refine (wpIn_wide (n:=5)).1 (Y7 rfl (enters_of Tryz.func39 (by kernel_rfl) rfl) (fun r0 aE hpe htm hpa has hbo=>?_))
  obtain ⟨D,hD⟩:∃D,D=w7.heap.size:=⟨_,rfl⟩;obtain ⟨Bn,ch⟩:∃Bn,Bn=w6.heap.size:=⟨_,rfl⟩;rw [←hD];rw [←ch] at htm aC ⊢;have cI:=bO.strs.low;have aq:Below w7.heap.size w7 ((w7.alloc (.deferred (some []))).alloc (.loop r0)):=((Below.refl _ _).alloc (Nat.le_refl _) _).alloc (by simp) _
  have cw:((w7.alloc (.deferred (some []))).alloc (.loop r0)).heap[D]?=some (.deferred (some [])):=by
   rw [hD];exact (Below.heap_alloc _ _ _ (by simp)).trans (World.alloc_heap_new w7 _)
  have bX:((w7.alloc (.deferred (some []))).alloc (.loop r0)).heap[D+1]?=some (.loop r0):=by
   have:=World.alloc_heap_new (w7.alloc (.deferred (some []))) (.loop r0)
   rwa [World.size_alloc,←hD] at this
  have bC:Vn w X D Bn (Yn B m fault (.slice R frames.length U) out z (.slice bs x.length cs) A n y) (.pointer (some ⟨h,0,none⟩)) (.slice R frames.length U) os z frames PL (.loop r0) 0 ((w7.alloc (.deferred (some []))).alloc (.loop r0)) :=
   ⟨⟨r6,by simpa [zl] using bO.new aq⟩,cw,bX,(aq.block _ (zc aC)).trans aC,by omega⟩
  generalize (w7.alloc (.deferred (some []))).alloc (.loop r0)=W0 at bC ⊢;clear cw bX aq cI bO aC bg hD ch;refine (XW (D+1) Bn R U frames HS.out.nframes (fun i W=>Vn w X D Bn (Yn B m fault (.slice R frames.length U) out z (.slice bs x.length cs) A n y) (.pointer (some ⟨h,0,none⟩)) (.slice R frames.length U) os z frames PL (.loop r0) i W) (fun k u=>∀hk:k<frames.length,Yf T w u (frames[k]).vars) ?hJc ?hJe ?hY _ bC).mono ?_
  case hJc =>
   intro i W hJ;exact zt hJ.itr
  case hJe =>
   intro i W hJ k hk;obtain ⟨b,o,e,-,bG,c0,c1,u,c2,c4⟩:=b0.out k hk;obtain ⟨r,hr⟩:=hJ.lin;have aF:∀q,W.cell? ⟨b,q,none⟩=w.cell? ⟨b,q,none⟩:=fun q=>zh hr.strs.below bG
   exact ⟨b,o,u,e,(aF _).trans c0,(aF _).trans c1,(aF _).trans c2,fun _=>c4⟩
  case hY =>
   intro i J u k hk bD hJ hP;have a6:=hJ.loop;have bP:=hJ.wD;have b4:=zF a6;obtain ⟨bu,cu,rfl,-⟩:=(hP hk).at;have HU:Hid (Yf T w (.slice bu (frames[k]).vars.length cu) (frames[k]).vars):=hP hk;have cy:Hid (yy frames[k]):=HS.out.frames _ (List.getElem_mem hk);have ah:=xf os z frames hk bD;obtain ⟨f,hf⟩:∃f,f=frames[k]:=⟨_,rfl⟩;rw [←hf] at HU cy ah;simp only [←hf];obtain ⟨nv,bx⟩:∃nv,nv=f.vars.length:=⟨_,rfl⟩;rw [←bx] at HU ⊢;have dg:Hid (nv=f.vars.length):=bx;clear hf bx;have bc:Hid (zl os z 0 (frames.reverse.take (i+1))=zl os z 0 (frames.reverse.take i)++[Zy os f (decide ((i:Int)=z))]):=ah;obtain ⟨W2,aW⟩:∃W2,W2=J.alloc (.cells #[.string (za f.fn),.int .i64 f.line,.slice bu nv cu] 52):=⟨_,rfl⟩;have bL:Hid (W2=J.alloc (.cells #[.string (za f.fn),.int .i64 f.line,.slice bu nv cu] 52)):=aW;have an:Below J.heap.size J W2:=by rw [aW];exact (Below.refl _ _).alloc (Nat.le_refl _) _
   have bZ:W2.heap[J.heap.size]?=some (.cells #[.string (za f.fn),.int .i64 f.line,.slice bu nv cu] 52 (0,0)):=by rw [aW];exact World.alloc_heap_new _ _
   obtain ⟨r1,cC⟩:=hJ.lin;have aB:=cC.strs.low;have bB:=hJ.turn (ob':=.loop r0) (W':=W2) rfl (an.mono aB) (fun b hb _=>an.block b hb) ((an.block _ b4).trans a6)
   have ax:=bB.loop;have aU:w.heap.size≤W2.heap.size:=Nat.le_trans aB an.size;refine ⟨_,_,_,_,run_yield a6 (by rw [hpa];rfl),roundIn_of_wpIn trivial ?_⟩
   rw [has,hbo,htm,hpa];simp only [List.zip_toArray,List.zip_cons_cons,List.zip_nil_right];have bb:=bB.turn (ob':=.loop { r0 with state:=.busy }) (W':=W2.putObj (D+1) (.loop { r0 with state:=.busy })) rfl ((Below.refl w.heap.size W2).grown (grownBy_putObj' W2 _ _) aU (fun k e=>by cases e;omega)) (fun b _ hb=>World.putObj_heap_other hb) (World.putObj_heap_same (zF ax))
   have bz:(W2.putObj (D+1) (.loop { r0 with state:=.busy })).heap[J.heap.size]?=some (.cells #[.string (za f.fn),.int .i64 f.line,.slice bu nv cu] 52 (0,0)):=(World.putObj_heap_other (by omega)).trans bZ
   have bl:=run_beginRound (P:=Tryz.prog) ax aE;have bm:Hid ((Instr.beginRound (D+1)).run Tryz.prog W2=.ok () (W2.putObj (D+1) (.loop { r0 with state:=.busy }))):=bl;obtain ⟨Wb,cg⟩:∃Wb,Wb=W2.putObj (D+1) (.loop { r0 with state:=.busy }):=⟨_,rfl⟩;rw [←cg] at bb bz bm;obtain ⟨r9,b6⟩:=bb.lin;have aM:Hid (ZQ w Wb X (Yn B m fault (.slice R frames.length U) out z (.slice bs x.length cs) A n y) (.pointer (some ⟨h,0,none⟩)) r9 ([PL]++zl os z 0 (frames.reverse.take i))):=b6;have cJ:Hid (Vn w X D Bn (Yn B m fault (.slice R frames.length U) out z (.slice bs x.length cs) A n y) (.pointer (some ⟨h,0,none⟩)) (.slice R frames.length U) os z frames PL (.loop { r0 with state:=.busy }) i Wb):=bb;have aV:Hid (Wb.heap[J.heap.size]?=some (.cells #[.string (za f.fn),.int .i64 f.line,.slice bu nv cu] 52 (0,0))):=bz;have de:i≤1048576:=by have:=HS.out.nframes;simp only at this;omega
   have dk:Hid (frames.length=k+1+i):=bD
   have cS:Hid (({ { r0 with state:=.busy } with state:=if (none:Option Code).isNone then .ready else .done,pending:=none }:Loop)=r0):=by
    show _=_
    cases r0;simp_all
   clear ah hP hJ cC bb b6 a6 bB ax bz bZ cg bl aW an bD aB aU b4
   gi_wp2_with fail
   rw [←bL.out];refine ⟨_,bm.out,?_⟩
   gi_wp2_with fail
   have ag:Hid (∀W,ZQ w W X (Yn B m fault (.slice R frames.length U) out z (.slice bs x.length cs) A n y) (.pointer (some ⟨h,0,none⟩)) r9 ([PL]++zl os z 0 (frames.reverse.take i))→W.heap[J.heap.size]?=some (.cells #[.string (za f.fn),.int .i64 f.line,.slice bu nv cu] 52 (0,0))→W.cell? ⟨X,0,none⟩=some r9∧W.cell? ⟨J.heap.size,0,none⟩=some (.string (za f.fn))∧W.cell? ⟨J.heap.size,1,none⟩=some (.int .i64 f.line)∧W.cell? ⟨J.heap.size,2,none⟩=some (.slice bu nv cu)∧W.cell? ⟨w.heap.size,5,none⟩=some (.int .i64 z)∧W.cell? ⟨w.heap.size+1,0,none⟩=some (.pointer (some ⟨h,0,none⟩))):=fun W hL hF=>by
    obtain ⟨a0,a1,a2⟩:=Zf hF;obtain ⟨-,-,-,-,-,b5,-,-,-,-⟩:=zE hL.view;exact ⟨zt hL.box,a0,a1,a2,b5,zt hL.ptr⟩
   have x0:∀c:zD fun W=>W.cell? ⟨X,0,none⟩=some r9∧W.cell? ⟨J.heap.size,0,none⟩=some (.string (za f.fn))∧W.cell? ⟨J.heap.size,1,none⟩=some (.int .i64 f.line)∧W.cell? ⟨J.heap.size,2,none⟩=some (.slice bu nv cu)∧W.cell? ⟨w.heap.size,5,none⟩=some (.int .i64 z)∧W.cell? ⟨w.heap.size+1,0,none⟩=some (.pointer (some ⟨h,0,none⟩)),c.1.cell? ⟨X,0,none⟩=some r9:=fun c=>c.2.1
   have x1:∀c:zD fun W=>W.cell? ⟨X,0,none⟩=some r9∧W.cell? ⟨J.heap.size,0,none⟩=some (.string (za f.fn))∧W.cell? ⟨J.heap.size,1,none⟩=some (.int .i64 f.line)∧W.cell? ⟨J.heap.size,2,none⟩=some (.slice bu nv cu)∧W.cell? ⟨w.heap.size,5,none⟩=some (.int .i64 z)∧W.cell? ⟨w.heap.size+1,0,none⟩=some (.pointer (some ⟨h,0,none⟩)),c.1.cell? ⟨J.heap.size,0,none⟩=some (.string (za f.fn)):=fun c=>c.2.2.1
   have x2:∀c:zD fun W=>W.cell? ⟨X,0,none⟩=some r9∧W.cell? ⟨J.heap.size,0,none⟩=some (.string (za f.fn))∧W.cell? ⟨J.heap.size,1,none⟩=some (.int .i64 f.line)∧W.cell? ⟨J.heap.size,2,none⟩=some (.slice bu nv cu)∧W.cell? ⟨w.heap.size,5,none⟩=some (.int .i64 z)∧W.cell? ⟨w.heap.size+1,0,none⟩=some (.pointer (some ⟨h,0,none⟩)),c.1.cell? ⟨J.heap.size,1,none⟩=some (.int .i64 f.line):=fun c=>c.2.2.2.1
   have x3:∀c:zD fun W=>W.cell? ⟨X,0,none⟩=some r9∧W.cell? ⟨J.heap.size,0,none⟩=some (.string (za f.fn))∧W.cell? ⟨J.heap.size,1,none⟩=some (.int .i64 f.line)∧W.cell? ⟨J.heap.size,2,none⟩=some (.slice bu nv cu)∧W.cell? ⟨w.heap.size,5,none⟩=some (.int .i64 z)∧W.cell? ⟨w.heap.size+1,0,none⟩=some (.pointer (some ⟨h,0,none⟩)),c.1.cell? ⟨J.heap.size,2,none⟩=some (.slice bu nv cu):=fun c=>c.2.2.2.2.1
   have x4:∀c:zD fun W=>W.cell? ⟨X,0,none⟩=some r9∧W.cell? ⟨J.heap.size,0,none⟩=some (.string (za f.fn))∧W.cell? ⟨J.heap.size,1,none⟩=some (.int .i64 f.line)∧W.cell? ⟨J.heap.size,2,none⟩=some (.slice bu nv cu)∧W.cell? ⟨w.heap.size,5,none⟩=some (.int .i64 z)∧W.cell? ⟨w.heap.size+1,0,none⟩=some (.pointer (some ⟨h,0,none⟩)),c.1.cell? ⟨w.heap.size,5,none⟩=some (.int .i64 z):=fun c=>c.2.2.2.2.2.1
   have x5:∀c:zD fun W=>W.cell? ⟨X,0,none⟩=some r9∧W.cell? ⟨J.heap.size,0,none⟩=some (.string (za f.fn))∧W.cell? ⟨J.heap.size,1,none⟩=some (.int .i64 f.line)∧W.cell? ⟨J.heap.size,2,none⟩=some (.slice bu nv cu)∧W.cell? ⟨w.heap.size,5,none⟩=some (.int .i64 z)∧W.cell? ⟨w.heap.size+1,0,none⟩=some (.pointer (some ⟨h,0,none⟩)),c.1.cell? ⟨w.heap.size+1,0,none⟩=some (.pointer (some ⟨h,0,none⟩)):=fun c=>c.2.2.2.2.2.2
   haveI aG:Nonempty (zD fun W=>W.cell? ⟨X,0,none⟩=some r9∧W.cell? ⟨J.heap.size,0,none⟩=some (.string (za f.fn))∧W.cell? ⟨J.heap.size,1,none⟩=some (.int .i64 f.line)∧W.cell? ⟨J.heap.size,2,none⟩=some (.slice bu nv cu)∧W.cell? ⟨w.heap.size,5,none⟩=some (.int .i64 z)∧W.cell? ⟨w.heap.size+1,0,none⟩=some (.pointer (some ⟨h,0,none⟩))):=⟨⟨Wb,ag.out Wb aM.out aV.out⟩⟩
   have af:Hid (Below Wb.heap.size Wb Wb.drew):=(Below.refl _ _).drew;refine XX 10 (n:=11) (S:=fun w'=>∃c:zD fun W=>W.cell? ⟨X,0,none⟩=some r9∧W.cell? ⟨J.heap.size,0,none⟩=some (.string (za f.fn))∧W.cell? ⟨J.heap.size,1,none⟩=some (.int .i64 f.line)∧W.cell? ⟨J.heap.size,2,none⟩=some (.slice bu nv cu)∧W.cell? ⟨w.heap.size,5,none⟩=some (.int .i64 z)∧W.cell? ⟨w.heap.size+1,0,none⟩=some (.pointer (some ⟨h,0,none⟩)),w'=c.1) (by kernel_rfl) (by kernel_rfl) ?hq rfl rfl ?_
   case hq =>
    rintro ⟨a9,w9,h9⟩;exact h9
   refine xc (fuel:=4) (fuel':=11) (idx:=[0,1,2,3,4,5,6]) (by kernel_rfl) rfl rfl rfl (fun _ _ _ _ _ h=>h) ⟨⟨Wb.drew,ag.out _ (aM.out.new af.out) ((af.out.block _ (zc aV.out)).trans aV.out)⟩,rfl⟩ ?_
   show wpQuiet _ _ _ _ [_,_,_,_,_,_,_] _
   iterate 7 (go_big_quiet_step (fail))
   refine wpQuiet_nil ?_;have db:Hid (Below w.heap.size w Wb):=aM.out.strs.below;have cQ:=aM.out.strs.low
   have ck:Hid (∀W,Below w.heap.size w W→Calls Tryz.prog 26 #[VX (.slice bu nv cu) f.fn f.line,.bool (decide ((i:Int)=z)),.pointer (some ⟨h,0,none⟩)] W fun e w'=>e=.returned (.string (za (Zy os f (decide ((i:Int)=z)))))∧Below W.heap.size W w'):=fun W hW =>
    YA f _ _ W (HH.out.below hW) (rowIn.kept HU.out (YQ T) hW.size fun q _ hq=>hW.block q hq) cy.out (HT.out.below hW (Nat.le_refl _))
   obtain ⟨FB,cF⟩:∃FB,FB=Zy os f (decide ((i:Int)=z)):=⟨_,rfl⟩;rw [←cF] at ck bc;clear cF;refine zL (fuel:=3) (fuel':=4) (i:=7) rfl (by kernel_rfl) rfl rfl (by rfl) ?_
   intro K I;go_simp;refine (ck.out Wb.drew (db.out.trans (af.out.mono cQ))).mono ?_;rintro e z1 ⟨rfl,hb⟩;have aJ:Hid (Below Wb.heap.size Wb z1):=af.out.trans (hb.mono af.out.size);clear hb
   (try go_simp)
   have ad:Hid _:=aM.out.new aJ.out;have am:Hid _:=(aJ.out.block _ (zc aV.out)).trans aV.out;refine I.out _ _ (fun _=>⟨⟨z1,ag.out z1 ad.out am.out⟩,rfl⟩) ?_
   clear I K;refine zL (fuel:=2) (fuel':=3) (i:=8) rfl (by kernel_rfl) rfl rfl (by rfl) ?_
   intro K I;go_simp;have aw:Hid (Below z1.heap.size z1 (z1.alloc (.cells #[.string (za FB)] 9))):=(Below.refl _ _).alloc (Nat.le_refl _) _;refine I.out _ _ (fun _=>⟨⟨_,ag.out _ (ad.out.new aw.out) ((aw.out.block _ (zc am.out)).trans am.out)⟩,rfl⟩) ?_
   clear I K;refine xd (fuel:=1) (fuel':=2) (i:=9) rfl (by kernel_rfl) rfl rfl (by rfl) ?_
   intro K I;refine zY (.tmp 33) (.tmp 41) rfl (by rfl) w.heap.size r9 ([PL]++zl os z 0 (frames.reverse.take i)) [FB] rfl z1 w ad.out.strs rfl rfl (by rw [List.length_append,ZV,List.length_take];simp;omega) ?_
   intro v9 z3 ai O;obtain ⟨n9,b9,c9,rfl⟩:=Z0 ai.row;have az:Hid (ZQ w (z3.setCell ⟨X,0,none⟩ (.slice b9 n9 c9)) X (Yn B m fault (.slice R frames.length U) out z (.slice bs x.length cs) A n y) (.pointer (some ⟨h,0,none⟩)) (.slice b9 n9 c9) ([PL]++zl os z 0 (frames.reverse.take i)++[FB])):=ad.out.put ai O;have bQ:Hid _:=zk (ad.out.strs.row.alloc _) O ((Below.heap_alloc _ _ _ (zc ad.out.view)).trans ad.out.view) (by decide)
   have cX:Hid _:=zk (ad.out.strs.row.alloc _) O ((Below.heap_alloc _ _ _ (zc ad.out.ptr)).trans ad.out.ptr) (by decide)
   have aj:Hid _:=zk (ad.out.strs.row.alloc _) O ((Below.heap_alloc _ _ _ (zc ad.out.box)).trans ad.out.box) (by decide)
   have bp:Hid _:=zk (ad.out.strs.row.alloc _) O ((Below.heap_alloc _ _ _ (zc am.out)).trans am.out) (by decide)
   have ay:Hid (z3.cell? ⟨X,0,none⟩=some r9∧z3.cell? ⟨J.heap.size,0,none⟩=some (.string (za f.fn))∧z3.cell? ⟨J.heap.size,1,none⟩=some (.int .i64 f.line)∧z3.cell? ⟨J.heap.size,2,none⟩=some (.slice bu nv cu)∧z3.cell? ⟨w.heap.size,5,none⟩=some (.int .i64 z)∧z3.cell? ⟨w.heap.size+1,0,none⟩=some (.pointer (some ⟨h,0,none⟩))):=by
    obtain ⟨a0,a1,a2⟩:=Zf bp.out;obtain ⟨-,-,-,-,-,b5,-,-,-,-⟩:=zE bQ.out;exact ⟨zt aj.out,a0,a1,a2,b5,zt cX.out⟩
   refine I.out _ _ (fun _=>⟨⟨z3,ay.out⟩,rfl⟩) ?_
   clear I K
   (try simp only [Act.put,List.setIfInBounds_toArray,List.set_cons_zero,List.set_cons_succ])
   refine zL (fuel:=0) (fuel':=1) (i:=10) rfl (by kernel_rfl) rfl rfl (by rfl) ?_
   intro K I;have au:=ay.out.1;have aQ:=Y3 aj.out 0;go_simp;refine I.out _ _ (fun h=>absurd rfl h) ?_
   clear I K;refine Yi (by kernel_rfl) ?_
   clear x0 x1 x2 x3 x4 x5 au aQ;rw [List.append_assoc,←bc.out] at az;have bU:=cJ.out.step rfl aJ.out ad.out O az.out;have bR:=bU.loop;have bq:=az.out.strs.low;show ∃v w',_
   refine ⟨_,_,run_endRound none bR,rfl,?_⟩;rw [cS.out];exact bU.turn rfl ((Below.refl w.heap.size _).grown (grownBy_putObj' _ _ _) bq (fun k e=>by cases e;omega)) (fun b _ hb=>World.putObj_heap_other hb) (World.putObj_heap_same (zF bR))
  rintro e W3 ⟨⟨u3,rfl⟩,aO⟩;have ax:=aO.loop;have bP:=aO.wD;obtain ⟨r3,cA⟩:=aO.lin;refine ⟨r0.pending,_,run_endLoop (P:=Tryz.prog) ax (by rw [aE];simp),?_⟩
  have aY:=aO.turn (ob':=.loop { r0 with state:=.exhausted }) (W':=W3.putObj (D+1) (.loop { r0 with state:=.exhausted })) rfl ((Below.refl w.heap.size W3).grown (grownBy_putObj' W3 _ _) cA.strs.low (fun k e=>by cases e;omega)) (fun b _ hb=>World.putObj_heap_other hb) (World.putObj_heap_same (zF ax))
  generalize W3.putObj (D+1) (.loop { r0 with state:=.exhausted })=W4 at aY ⊢;obtain ⟨r4,aH⟩:=aY.lin;rw [show frames.reverse.take frames.length=frames.reverse by rw [←List.length_reverse,List.take_length]] at aH
  obtain ⟨L1,a5⟩:∃L1,L1=[PL]++zl os z 0 frames.reverse:=⟨_,rfl⟩;rw [←a5] at aH;have ad:Hid (L1=[PL]++zl os z 0 frames.reverse):=a5
  have bj:Hid (L1.length≤1048577):=by
   have:=HS.out.nframes
   simp only at this;show _≤_
   rw [a5,List.length_append,ZV,List.length_reverse]
   simp
   omega
  have aK:Hid (ZQ w W4 X (Yn B m fault (.slice R frames.length U) out z (.slice bs x.length cs) A n y) (.pointer (some ⟨h,0,none⟩)) r4 L1):=aH;have aD:Hid (W4.heap[D]?=some (.deferred (some []))):=aY.dfr;have c6:Hid (w.heap.size≤D):=bP;obtain ⟨p0,p1,p2,p3,p4,p5,p6,p7,p8,p9⟩:=zE aH.view;have co:=YC out W4 HS.out.out (HT.out.below aH.strs.below (Nat.le_refl _));obtain ⟨E,ao⟩:∃E,E=Yx out:=⟨_,rfl⟩;have di:E.length≤4:=by rw [ao];exact vK out
  rw [←ao] at co;have aR:Hid (E=Yx out):=ao;clear aO aY cA aH ax a5 ao bP bC;rw [hpe];show Exit.inBlock 1 _ Exit.normal _ W4
  clear hpe aE htm hpa has hbo;go_wp2_with fail
  refine co.mono ?_;clear co p0 p1 p2 p3 p4 p5 p6 p7 p8 p9;rintro e w8 ⟨df,rfl,bI⟩;have ce:=bI.in.at;obtain ⟨bo,co,rfl,b1,b3,be⟩:=ce;have cz:Hid (∀i (hi:i<E.length),∃b o,bo=some ⟨b,o,none⟩∧W4.heap.size≤b∧b<w8.heap.size∧xE w8 b (o+i*1) E[i]):=be;have aq:=bI.below
  have bJ:YD w w8 w8 X (fun q=>(∃o,bo=some ⟨q,o,none⟩∧W4.heap.size≤q∧q<w8.heap.size)∨q=D) (Yn B m fault (.slice R frames.length U) out z (.slice bs x.length cs) A n y) (.pointer (some ⟨h,0,none⟩)) r4 L1:=by
   have c7:w8.heap[D]?=some (.deferred (some [])):=(aq.block _ (zF aD.out)).trans aD.out;refine ⟨aK.out.new aq,fun _ _=>rfl,?_,Nat.le_refl _,?_,?_⟩
   ·rintro q (⟨o,-,-,hq⟩ | rfl)
    ·exact hq
    ·exact zF c7
   ·intro q e hq
    rcases hq with ⟨o,-,hq,-⟩ | rfl
    ·have:=(aK.out.strs.row.lt q e).2
     omega
    ·obtain ⟨dj,hc⟩:=Zg aK.out.strs.row e
     rw [aD.out] at hc;cases hc
   ·rintro (⟨o,-,hq,-⟩ | e)
    ·have:=zc aK.out.box
     omega
    ·have hc:=aK.out.box
     rw [e,aD.out] at hc;cases hc
  obtain ⟨G,hG⟩:∃G:Nat→Prop,G=fun q=>(∃o,bo=some ⟨q,o,none⟩∧W4.heap.size≤q∧q<w8.heap.size)∨q=D:=⟨_,rfl⟩
  have da:Hid (∀b o,bo=some ⟨b,o,none⟩→W4.heap.size≤b→b<w8.heap.size→G b):=fun b o e h1 h2=>by rw [hG];exact .inl ⟨o,e,h1,h2⟩
  have cn:Hid (G D):=by show G D;rw [hG];exact .inr rfl
  rw [←hG] at bJ;have dc:Hid _:=bJ;have cZ:Hid (w8.heap[D]?=some (.deferred (some []))):=(aq.block _ (zF aD.out)).trans aD.out;clear hG;clear bI be aq bJ b1 b3;go_wp2
  go_loopw [48] (fun vi wr=>∃(i:Nat) (r:Value),i≤E.length∧vi=.int .i64 (i:Int)∧YD w w8 wr X G (Yn B m fault (.slice R frames.length U) out z (.slice bs x.length cs) A n y) (.pointer (some ⟨h,0,none⟩)) r (L1++(E.take i).map fun s=>zB ([124,32]++s))) (fun vi _=>E.length-(intOf vi).toNat)
  case atStart=>exact ⟨0,r4,Nat.zero_le _,rfl,by simpa using dc.out⟩
  case round =>
   obtain ⟨i,r9,hi,rfl,hj⟩:=hrel;have HJ:Hid (YD w w8 wr X G (Yn B m fault (.slice R frames.length U) out z (.slice bs x.length cs) A n y) (.pointer (some ⟨h,0,none⟩)) r9 (L1++(E.take i).map fun s=>zB ([124,32]++s))):=hj
   clear hj
   by_cases hlt:i<E.length
   ·have bN:(i:Int)<E.length:=by omega
    obtain ⟨b,o,bk,c3,dd,hc⟩:=cz.out i hlt;have cR:=da.out b o bk c3 dd;subst bk
    have aL:wr.cell? ⟨b,o+i,none⟩=some (.string (za E[i])):=by
     have h1:wr.cell? ⟨b,o+i*1,none⟩=some (.string (za E[i])):=(World.cell?_of_block (HJ.out.kept b cR)).trans hc
     simpa only [Nat.mul_one] using h1
    have cW:=vJ out E[i] (by rw [←aR.out];exact List.getElem_mem hlt)
    have ah:Hid ((E.take (i+1)).map (fun s=>zB ([124,32]++s))=(E.take i).map (fun s=>zB ([124,32]++s))++[zB ([124,32]++E[i])]):=xP _ E hlt
    obtain ⟨s,hs⟩:∃s,s=E[i]:=⟨_,rfl⟩;rw [←hs] at aL cW ah;have bT:=HS.out.out;simp only at bT
    have aA:Hid ((L1++(E.take i).map fun s=>zB ([124,32]++s)).length≤2000000):=by
     have:=bj.out
     show _≤_
     rw [List.length_append,List.length_map,List.length_take];omega
    obtain ⟨LB,aI⟩:∃LB,LB=zB ([124,32]++s):=⟨_,rfl⟩;rw [←aI] at ah
    have cT:Hid (LB=zB ([[124,32],s]:List (List UInt8)).flatten):=by
     show _=_
     rw [aI];simp
    obtain ⟨PR,ak⟩:∃PR,PR=(L1++(E.take i).map fun s=>zB ([124,32]++s)):=⟨_,rfl⟩
    have aT:Hid (L1++(E.take (i+1)).map (fun s=>zB ([124,32]++s))=PR++[LB]):=by
     show _=_
     rw [ah.out,ak,List.append_assoc]
    rw [←ak] at HJ aA;clear hs aI ak hc ah
    go_upto_region 13 with fail
    clear aL;have au:=zt HJ.out.lin.box;have x0:∀c:zD fun W=>W.cell? ⟨X,0,none⟩=some r9,c.1.cell? ⟨X,0,none⟩=some r9:=fun c=>c.2
    haveI aG:Nonempty (zD fun W=>W.cell? ⟨X,0,none⟩=some r9):=⟨⟨wr,au⟩⟩
    refine YR 6 (n:=7) (S:=fun w'=>∃c:zD fun W=>W.cell? ⟨X,0,none⟩=some r9,w'=c.1) (by kernel_rfl) rfl rfl ?_
    have af:Hid (Below wr.heap.size wr wr.drew):=(Below.refl _ _).drew;obtain ⟨zd,ar⟩:∃zd,zd=wr.drew:=⟨_,rfl⟩;rw [←ar] at af ⊢;have al:Hid (YD w w8 zd X G (Yn B m fault (.slice R frames.length U) out z (.slice bs x.length cs) A n y) (.pointer (some ⟨h,0,none⟩)) r9 PR):=HJ.out.new af.out;clear ar au;refine xc (fuel:=5) (fuel':=7) (idx:=[0,1]) (by kernel_rfl) rfl rfl rfl (fun _ _ _ _ _ h=>h) ⟨⟨zd,zt al.out.lin.box⟩,rfl⟩ ?_
    show wpQuiet _ _ _ _ [_,_] _
    iterate 2 (go_big_quiet_step (fail))
    refine wpQuiet_nil ?_;refine zL (fuel:=4) (fuel':=5) (i:=2) rfl (by kernel_rfl) rfl rfl (by rfl) ?_
    intro K I;go_simp;have cP:Hid (YD w w8 (zd.alloc (.cells #[.string ⟨#[124,32]⟩,.string (za s)] 9)) X G (Yn B m fault (.slice R frames.length U) out z (.slice bs x.length cs) A n y) (.pointer (some ⟨h,0,none⟩)) r9 PR):=al.out.new ((Below.refl _ _).alloc (Nat.le_refl _) _);refine I.out _ _ (fun _=>⟨⟨_,zt cP.out.lin.box⟩,rfl⟩) ?_
    clear I K;refine zL (fuel:=3) (fuel':=4) (i:=3) rfl (by kernel_rfl) rfl rfl (by rfl) ?_
    intro K I;go_simp;have cl:=yn [[124,32],s] zd (by simp) (by simp;omega)
    rw [←cT.out] at cl;refine cl.mono ?_;clear cl;rintro e z1 ⟨rfl,hb⟩;have F:Hid (YD w w8 z1 X G (Yn B m fault (.slice R frames.length U) out z (.slice bs x.length cs) A n y) (.pointer (some ⟨h,0,none⟩)) r9 PR):=al.out.new hb;clear hb
    (try go_simp)
    refine I.out _ _ (fun _=>⟨⟨z1,zt F.out.lin.box⟩,rfl⟩) ?_
    clear I K;refine zL (fuel:=2) (fuel':=3) (i:=4) rfl (by kernel_rfl) rfl rfl (by rfl) ?_
    intro K I;go_simp;have c5:Hid (YD w w8 (z1.alloc (.cells #[.string (za LB)] 9)) X G (Yn B m fault (.slice R frames.length U) out z (.slice bs x.length cs) A n y) (.pointer (some ⟨h,0,none⟩)) r9 PR):=F.out.new ((Below.refl _ _).alloc (Nat.le_refl _) _);refine I.out _ _ (fun _=>⟨⟨_,zt c5.out.lin.box⟩,rfl⟩) ?_
    clear I K;refine xd (fuel:=1) (fuel':=2) (i:=5) rfl (by kernel_rfl) rfl rfl (by rfl) ?_
    intro K I;refine zO (.tmp 52) (.tmp 56) rfl (by rfl) w.heap.size r9 PR [LB] rfl z1 w F.out.lin.strs rfl rfl (by have:=aA.out;simp;omega) ?_
    intro v9 z3 ai O ae;obtain ⟨n9,b9,c9,rfl⟩:=Z0 ai.row;have az:Hid (YD w w8 (z3.setCell ⟨X,0,none⟩ (.slice b9 n9 c9)) X G (Yn B m fault (.slice R frames.length U) out z (.slice bs x.length cs) A n y) (.pointer (some ⟨h,0,none⟩)) (.slice b9 n9 c9) (PR++[LB])):=F.out.put ai O ae;have aj:Hid _:=zk (F.out.lin.strs.row.alloc _) O ((Below.heap_alloc _ _ _ (zc F.out.lin.box)).trans F.out.lin.box) (by decide)
    refine I.out _ _ (fun _=>⟨⟨z3,zt aj.out⟩,rfl⟩) ?_
    clear I K ai O ae
    (try simp only [Act.put,List.setIfInBounds_toArray,List.set_cons_zero,List.set_cons_succ])
    refine zL (fuel:=0) (fuel':=1) (i:=6) rfl (by kernel_rfl) rfl rfl (by rfl) ?_
    intro K I;have au:=zt aj.out;have aQ:=Y3 aj.out 0;go_simp;refine I.out _ _ (fun h=>absurd rfl h) ?_
    clear I K;refine Yi (by kernel_rfl) ?_
    clear x0 au aQ aG;go_wp2
    exact ⟨⟨i+1,_,by omega,by go_num,by rw [aT.out];exact az.out⟩,by simp [intOf];omega⟩
   ·have bN:¬ (i:Int)<E.length:=by omega
    obtain rfl:i=E.length:=by omega
    rw [List.take_length] at HJ;obtain ⟨L2,a8⟩:∃L2,L2=L1++E.map fun s=>zB ([124,32]++s):=⟨_,rfl⟩
    rw [←a8] at HJ;have c8:Hid (L2=L1++E.map fun s=>zB ([124,32]++s)):=a8
    have bd:Hid (L2.length≤2000000):=by
     have:=bj.out
     show _≤_
     rw [a8,List.length_append,List.length_map];omega
    clear a8;obtain ⟨p0,p1,p2,p3,p4,p5,p6,p7,p8,p9⟩:=zE HJ.out.lin.view
    go_upto_region 15 with fail
    have cK:Hid (YD w w8 wr X G (Yn B m fault (.slice R frames.length U) out z (.slice bs x.length cs) A n y) (.pointer (some ⟨h,0,none⟩)) r9 L2):=HJ.out;clear HJ
    go_upto_region 16 with fail
    clear p0 p1 p2 p3 p4 p5 p6 p7 p8 p9;have cY:=HS.out.nstops;simp only at cY
    go_loopw [62] (fun vi wr=>∃(i:Nat) (r:Value),i≤x.length∧vi=.int .i64 (i:Int)∧YD w w8 wr X G (Yn B m fault (.slice R frames.length U) out z (.slice bs x.length cs) A n y) (.pointer (some ⟨h,0,none⟩)) r (L2++(x.take i).map Za)) (fun vi _=>x.length-(intOf vi).toNat)
    case atStart=>exact ⟨0,r9,Nat.zero_le _,rfl,by simpa using cK.out⟩
    case round =>
     obtain ⟨i,r9,hi,rfl,hj⟩:=hrel;have HJ:Hid (YD w w8 wr X G (Yn B m fault (.slice R frames.length U) out z (.slice bs x.length cs) A n y) (.pointer (some ⟨h,0,none⟩)) r9 (L2++(x.take i).map Za)):=hj;clear hj
     by_cases hlt:i<x.length
     ·have bN:(i:Int)<x.length:=by omega
      obtain ⟨b,o,rfl,-,bG,e0,e1,e2,e3,e4⟩:=bW.out i hlt;have cM:Hid (Below w.heap.size w wr):=HJ.out.lin.strs.below;have aF:∀q,wr.cell? ⟨b,q,none⟩=w.cell? ⟨b,q,none⟩:=fun q=>zh cM.out bG
      rw [←aF] at e0 e1 e2 e3 e4;have cj:Hid (Y5 x[i]):=HS.out.stops _ (List.getElem_mem hlt);have ah:Hid ((x.take (i+1)).map Za=(x.take i).map Za++[Za x[i]]):=xP _ x hlt;obtain ⟨st,bn⟩:∃st,st=x[i]:=⟨_,rfl⟩;rw [←bn] at e0 e1 e2 e3 e4 cj ah;obtain ⟨Z,ab,V,aa,Y⟩:=st;simp only at e0 e1 e2 e3 e4;have cx:Hid (∀W,Below w.heap.size w W→Calls Tryz.prog 29 #[V0 ⟨Z,ab,V,aa,Y⟩] W fun e w'=>e=.returned (.string (za (Za ⟨Z,ab,V,aa,Y⟩)))∧Below W.heap.size W w'):=fun W hW=>xe _ W cj.out (HT.out.below hW (Nat.le_refl _))
      obtain ⟨LB,aI⟩:∃LB,LB=Za ⟨Z,ab,V,aa,Y⟩:=⟨_,rfl⟩;rw [←aI] at ah cx
      have aA:Hid ((L2++(x.take i).map Za).length≤4000000):=by
       have:=bd.out
       show _≤_
       rw [List.length_append,List.length_map,List.length_take];omega
      obtain ⟨PR,ak⟩:∃PR,PR=L2++(x.take i).map Za:=⟨_,rfl⟩
      have aT:Hid (L2++(x.take (i+1)).map Za=PR++[LB]):=by
       show _=_
       rw [ah.out,ak,List.append_assoc]
      rw [←ak] at HJ aA;obtain ⟨ap,ct,av,cN,h5⟩:=yl wr (.cells #[.int .i64 Z,.int .i64 ab,.string (za V),.string (za aa),.bool Y] 82);have cH:Hid (ap=wr.alloc (.cells #[.int .i64 Z,.int .i64 ab,.string (za V),.string (za aa),.bool Y] 82)):=ct;have bF:Hid (ap.heap[wr.heap.size]?=some (.cells #[.int .i64 Z,.int .i64 ab,.string (za V),.string (za aa),.bool Y] 82 (0,0))):=h5;have cc:Hid (YD w w8 ap X G (Yn B m fault (.slice R frames.length U) out z (.slice (some ⟨b,o,none⟩) x.length cs) A n y) (.pointer (some ⟨h,0,none⟩)) r9 PR):=HJ.out.new av;clear bn aI ak ah ct av h5 cN aF
      go_upto_region 18 with fail
      rw [←cH.out];clear e0 e1 e2 e3 e4
      have ag:Hid (∀W,YD w w8 W X G (Yn B m fault (.slice R frames.length U) out z (.slice (some ⟨b,o,none⟩) x.length cs) A n y) (.pointer (some ⟨h,0,none⟩)) r9 PR→W.heap[wr.heap.size]?=some (.cells #[.int .i64 Z,.int .i64 ab,.string (za V),.string (za aa),.bool Y] 82 (0,0))→W.cell? ⟨X,0,none⟩=some r9∧W.cell? ⟨wr.heap.size,0,none⟩=some (.int .i64 Z)∧W.cell? ⟨wr.heap.size,1,none⟩=some (.int .i64 ab)∧W.cell? ⟨wr.heap.size,2,none⟩=some (.string (za V))∧W.cell? ⟨wr.heap.size,3,none⟩=some (.string (za aa))∧W.cell? ⟨wr.heap.size,4,none⟩=some (.bool Y)):=fun W hL hF=>by
       obtain ⟨a0,a1,a2,a3,a4⟩:=zU hF;exact ⟨zt hL.lin.box,a0,a1,a2,a3,a4⟩
      have x0:∀c:zD fun W=>W.cell? ⟨X,0,none⟩=some r9∧W.cell? ⟨wr.heap.size,0,none⟩=some (.int .i64 Z)∧W.cell? ⟨wr.heap.size,1,none⟩=some (.int .i64 ab)∧W.cell? ⟨wr.heap.size,2,none⟩=some (.string (za V))∧W.cell? ⟨wr.heap.size,3,none⟩=some (.string (za aa))∧W.cell? ⟨wr.heap.size,4,none⟩=some (.bool Y),c.1.cell? ⟨X,0,none⟩=some r9:=fun c=>c.2.1
      have x1:∀c:zD fun W=>W.cell? ⟨X,0,none⟩=some r9∧W.cell? ⟨wr.heap.size,0,none⟩=some (.int .i64 Z)∧W.cell? ⟨wr.heap.size,1,none⟩=some (.int .i64 ab)∧W.cell? ⟨wr.heap.size,2,none⟩=some (.string (za V))∧W.cell? ⟨wr.heap.size,3,none⟩=some (.string (za aa))∧W.cell? ⟨wr.heap.size,4,none⟩=some (.bool Y),c.1.cell? ⟨wr.heap.size,0,none⟩=some (.int .i64 Z):=fun c=>c.2.2.1
      have x2:∀c:zD fun W=>W.cell? ⟨X,0,none⟩=some r9∧W.cell? ⟨wr.heap.size,0,none⟩=some (.int .i64 Z)∧W.cell? ⟨wr.heap.size,1,none⟩=some (.int .i64 ab)∧W.cell? ⟨wr.heap.size,2,none⟩=some (.string (za V))∧W.cell? ⟨wr.heap.size,3,none⟩=some (.string (za aa))∧W.cell? ⟨wr.heap.size,4,none⟩=some (.bool Y),c.1.cell? ⟨wr.heap.size,1,none⟩=some (.int .i64 ab):=fun c=>c.2.2.2.1
      have x3:∀c:zD fun W=>W.cell? ⟨X,0,none⟩=some r9∧W.cell? ⟨wr.heap.size,0,none⟩=some (.int .i64 Z)∧W.cell? ⟨wr.heap.size,1,none⟩=some (.int .i64 ab)∧W.cell? ⟨wr.heap.size,2,none⟩=some (.string (za V))∧W.cell? ⟨wr.heap.size,3,none⟩=some (.string (za aa))∧W.cell? ⟨wr.heap.size,4,none⟩=some (.bool Y),c.1.cell? ⟨wr.heap.size,2,none⟩=some (.string (za V)):=fun c=>c.2.2.2.2.1
      have x4:∀c:zD fun W=>W.cell? ⟨X,0,none⟩=some r9∧W.cell? ⟨wr.heap.size,0,none⟩=some (.int .i64 Z)∧W.cell? ⟨wr.heap.size,1,none⟩=some (.int .i64 ab)∧W.cell? ⟨wr.heap.size,2,none⟩=some (.string (za V))∧W.cell? ⟨wr.heap.size,3,none⟩=some (.string (za aa))∧W.cell? ⟨wr.heap.size,4,none⟩=some (.bool Y),c.1.cell? ⟨wr.heap.size,3,none⟩=some (.string (za aa)):=fun c=>c.2.2.2.2.2.1
      have x5:∀c:zD fun W=>W.cell? ⟨X,0,none⟩=some r9∧W.cell? ⟨wr.heap.size,0,none⟩=some (.int .i64 Z)∧W.cell? ⟨wr.heap.size,1,none⟩=some (.int .i64 ab)∧W.cell? ⟨wr.heap.size,2,none⟩=some (.string (za V))∧W.cell? ⟨wr.heap.size,3,none⟩=some (.string (za aa))∧W.cell? ⟨wr.heap.size,4,none⟩=some (.bool Y),c.1.cell? ⟨wr.heap.size,4,none⟩=some (.bool Y):=fun c=>c.2.2.2.2.2.2
      haveI aG:Nonempty (zD fun W=>W.cell? ⟨X,0,none⟩=some r9∧W.cell? ⟨wr.heap.size,0,none⟩=some (.int .i64 Z)∧W.cell? ⟨wr.heap.size,1,none⟩=some (.int .i64 ab)∧W.cell? ⟨wr.heap.size,2,none⟩=some (.string (za V))∧W.cell? ⟨wr.heap.size,3,none⟩=some (.string (za aa))∧W.cell? ⟨wr.heap.size,4,none⟩=some (.bool Y)):=⟨⟨ap,ag.out _ cc.out bF.out⟩⟩
      refine YR 5 (n:=6) (S:=fun w'=>∃c:zD fun W=>W.cell? ⟨X,0,none⟩=some r9∧W.cell? ⟨wr.heap.size,0,none⟩=some (.int .i64 Z)∧W.cell? ⟨wr.heap.size,1,none⟩=some (.int .i64 ab)∧W.cell? ⟨wr.heap.size,2,none⟩=some (.string (za V))∧W.cell? ⟨wr.heap.size,3,none⟩=some (.string (za aa))∧W.cell? ⟨wr.heap.size,4,none⟩=some (.bool Y),w'=c.1) (by kernel_rfl) rfl rfl ?_
      have af:Hid (Below ap.heap.size ap ap.drew):=(Below.refl _ _).drew;obtain ⟨zd,ar⟩:∃zd,zd=ap.drew:=⟨_,rfl⟩;rw [←ar] at af ⊢;have al:Hid _:=cc.out.new af.out;have br:Hid _:=(af.out.block _ (zc bF.out)).trans bF.out;clear ar;refine xc (fuel:=4) (fuel':=6) (idx:=[0,1]) (by kernel_rfl) rfl rfl rfl (fun _ _ _ _ _ h=>h) ⟨⟨zd,ag.out _ al.out br.out⟩,rfl⟩ ?_
      show wpQuiet _ _ _ _ [_,_] _
      iterate 2 (go_big_quiet_step (fail))
      refine wpQuiet_nil ?_;refine zL (fuel:=3) (fuel':=4) (i:=2) rfl (by kernel_rfl) rfl rfl (by rfl) ?_
      intro K I;go_simp;refine (cx.out zd al.out.lin.strs.below).mono ?_;rintro e z1 ⟨rfl,hb⟩;have F:Hid _:=al.out.new hb;have am:Hid _:=(hb.block _ (zc br.out)).trans br.out;clear hb
      (try go_simp)
      refine I.out _ _ (fun _=>⟨⟨z1,ag.out _ F.out am.out⟩,rfl⟩) ?_
      clear I K;refine zL (fuel:=2) (fuel':=3) (i:=3) rfl (by kernel_rfl) rfl rfl (by rfl) ?_
      intro K I;go_simp;have aw:Hid (Below z1.heap.size z1 (z1.alloc (.cells #[.string (za LB)] 9))):=(Below.refl _ _).alloc (Nat.le_refl _) _;refine I.out _ _ (fun _=>⟨⟨_,ag.out _ (F.out.new aw.out) ((aw.out.block _ (zc am.out)).trans am.out)⟩,rfl⟩) ?_
      clear I K;refine xd (fuel:=1) (fuel':=2) (i:=4) rfl (by kernel_rfl) rfl rfl (by rfl) ?_
      intro K I;refine zO (.tmp 66) (.tmp 69) rfl (by rfl) w.heap.size r9 PR [LB] rfl z1 w F.out.lin.strs rfl rfl (by have:=aA.out;simp;omega) ?_
      intro v9 z3 ai O ae;obtain ⟨n9,b9,c9,rfl⟩:=Z0 ai.row;have az:Hid (YD w w8 (z3.setCell ⟨X,0,none⟩ (.slice b9 n9 c9)) X G (Yn B m fault (.slice R frames.length U) out z (.slice (some ⟨b,o,none⟩) x.length cs) A n y) (.pointer (some ⟨h,0,none⟩)) (.slice b9 n9 c9) (PR++[LB])):=F.out.put ai O ae;have aj:Hid _:=zk (F.out.lin.strs.row.alloc _) O ((Below.heap_alloc _ _ _ (zc F.out.lin.box)).trans F.out.lin.box) (by decide)
      have bp:Hid _:=zk (F.out.lin.strs.row.alloc _) O ((Below.heap_alloc _ _ _ (zc am.out)).trans am.out) (by decide)
      have ay:Hid (z3.cell? ⟨X,0,none⟩=some r9∧z3.cell? ⟨wr.heap.size,0,none⟩=some (.int .i64 Z)∧z3.cell? ⟨wr.heap.size,1,none⟩=some (.int .i64 ab)∧z3.cell? ⟨wr.heap.size,2,none⟩=some (.string (za V))∧z3.cell? ⟨wr.heap.size,3,none⟩=some (.string (za aa))∧z3.cell? ⟨wr.heap.size,4,none⟩=some (.bool Y)):=by
       obtain ⟨a0,a1,a2,a3,a4⟩:=zU bp.out;exact ⟨zt aj.out,a0,a1,a2,a3,a4⟩
      refine I.out _ _ (fun _=>⟨⟨z3,ay.out⟩,rfl⟩) ?_
      clear I K ai O ae
      (try simp only [Act.put,List.setIfInBounds_toArray,List.set_cons_zero,List.set_cons_succ])
      refine zL (fuel:=0) (fuel':=1) (i:=5) rfl (by kernel_rfl) rfl rfl (by rfl) ?_
      intro K I;have au:=zt aj.out;have aQ:=Y3 aj.out 0;go_simp;refine I.out _ _ (fun h=>absurd rfl h) ?_
      clear I K;refine Yi (by kernel_rfl) ?_
      clear x0 x1 x2 x3 x4 x5 au aQ aG;go_wp2
      exact ⟨⟨i+1,_,by omega,by go_num,by rw [aT.out];exact az.out⟩,by simp [intOf];omega⟩
     ·have bN:¬ (i:Int)<x.length:=by omega
      obtain rfl:i=x.length:=by omega
      rw [List.take_length] at HJ;obtain ⟨PR,ak⟩:∃PR,PR=L2++x.map Za:=⟨_,rfl⟩;rw [←ak] at HJ;have aT:Hid (PR=L2++x.map Za):=ak
      have aA:Hid (PR.length≤4000000):=by
       have:=bd.out
       show _≤_
       rw [ak,List.length_append,List.length_map];omega
      clear ak
      go_upto_region 20 with fail
      have ag:Hid (∀W,YD w w8 W X G (Yn B m fault (.slice R frames.length U) out z (.slice bs x.length cs) A n y) (.pointer (some ⟨h,0,none⟩)) r9 PR→W.cell? ⟨X,0,none⟩=some r9∧W.cell? ⟨w.heap.size,7,none⟩=some (.int .i64 A)∧W.cell? ⟨w.heap.size,8,none⟩=some (.int .i64 n)∧W.cell? ⟨w.heap.size,9,none⟩=some (.string (za y))):=fun W hL=>by
       obtain ⟨-,-,-,-,-,-,-,b7,b8,b9⟩:=zE hL.lin.view;exact ⟨zt hL.lin.box,b7,b8,b9⟩
      have x0:∀c:zD fun W=>W.cell? ⟨X,0,none⟩=some r9∧W.cell? ⟨w.heap.size,7,none⟩=some (.int .i64 A)∧W.cell? ⟨w.heap.size,8,none⟩=some (.int .i64 n)∧W.cell? ⟨w.heap.size,9,none⟩=some (.string (za y)),c.1.cell? ⟨X,0,none⟩=some r9:=fun c=>c.2.1
      have x1:∀c:zD fun W=>W.cell? ⟨X,0,none⟩=some r9∧W.cell? ⟨w.heap.size,7,none⟩=some (.int .i64 A)∧W.cell? ⟨w.heap.size,8,none⟩=some (.int .i64 n)∧W.cell? ⟨w.heap.size,9,none⟩=some (.string (za y)),c.1.cell? ⟨w.heap.size,7,none⟩=some (.int .i64 A):=fun c=>c.2.2.1
      have x2:∀c:zD fun W=>W.cell? ⟨X,0,none⟩=some r9∧W.cell? ⟨w.heap.size,7,none⟩=some (.int .i64 A)∧W.cell? ⟨w.heap.size,8,none⟩=some (.int .i64 n)∧W.cell? ⟨w.heap.size,9,none⟩=some (.string (za y)),c.1.cell? ⟨w.heap.size,8,none⟩=some (.int .i64 n):=fun c=>c.2.2.2.1
      have x3:∀c:zD fun W=>W.cell? ⟨X,0,none⟩=some r9∧W.cell? ⟨w.heap.size,7,none⟩=some (.int .i64 A)∧W.cell? ⟨w.heap.size,8,none⟩=some (.int .i64 n)∧W.cell? ⟨w.heap.size,9,none⟩=some (.string (za y)),c.1.cell? ⟨w.heap.size,9,none⟩=some (.string (za y)):=fun c=>c.2.2.2.2
      haveI aG:Nonempty (zD fun W=>W.cell? ⟨X,0,none⟩=some r9∧W.cell? ⟨w.heap.size,7,none⟩=some (.int .i64 A)∧W.cell? ⟨w.heap.size,8,none⟩=some (.int .i64 n)∧W.cell? ⟨w.heap.size,9,none⟩=some (.string (za y))):=⟨⟨wr,ag.out _ HJ.out⟩⟩
      refine ZY (n:=8) (S:=fun w'=>∃c:zD fun W=>W.cell? ⟨X,0,none⟩=some r9∧W.cell? ⟨w.heap.size,7,none⟩=some (.int .i64 A)∧W.cell? ⟨w.heap.size,8,none⟩=some (.int .i64 n)∧W.cell? ⟨w.heap.size,9,none⟩=some (.string (za y)),w'=c.1) (by kernel_rfl) rfl rfl ?_
      have af:Hid (Below wr.heap.size wr wr.drew):=(Below.refl _ _).drew;obtain ⟨zd,ar⟩:∃zd,zd=wr.drew:=⟨_,rfl⟩;rw [←ar] at af ⊢;have al:Hid _:=HJ.out.new af.out;clear ar;refine Zt (fuel:=5) (fuel':=8) (idx:=[0,1,2]) (by kernel_rfl) rfl rfl rfl (fun _ _ _ _ _ h=>h) ⟨⟨zd,ag.out _ al.out⟩,rfl⟩ ?_
      show wpQuiet _ _ _ _ [_,_,_] _
      iterate 3 (go_big_quiet_step (fail))
      refine wpQuiet_nil ?_;refine zR (fuel:=4) (fuel':=5) (i:=3) rfl (by kernel_rfl) rfl rfl (by rfl) ?_
      intro K I;go_simp;refine (YB A n y zd HS.out.err HS.out.n HS.out.says (HT.out.below al.out.lin.strs.below (Nat.le_refl _))).mono ?_;rintro e z1 ⟨rfl,hb⟩;have F:Hid _:=al.out.new hb;clear hb
      (try go_simp)
      refine I.out _ _ ⟨⟨z1,ag.out _ F.out⟩,rfl⟩ ?_;clear I K;refine zR (fuel:=3) (fuel':=4) (i:=4) rfl (by kernel_rfl) rfl rfl (by rfl) ?_
      intro K I;go_simp;have aw:Hid (Below z1.heap.size z1 (z1.alloc (.cells #[.string (za (Zz A n y))] 9))):=(Below.refl _ _).alloc (Nat.le_refl _) _;refine I.out _ _ ⟨⟨_,ag.out _ (F.out.new aw.out)⟩,rfl⟩ ?_;clear I K;refine Y2 (fuel:=2) (fuel':=3) (i:=5) rfl (by kernel_rfl) rfl rfl (by rfl) ?_
      intro K I;refine zO (.tmp 72) (.tmp 76) rfl (by rfl) w.heap.size r9 PR [Zz A n y] rfl z1 w F.out.lin.strs rfl rfl (by have:=aA.out;simp;omega) ?_
      intro v9 z3 ai O ae;have cU:Hid (zj w.heap.size w z3 v9 (PR++[Zz A n y])):=ai;have bQ:Hid _:=zk (F.out.lin.strs.row.alloc _) O ((Below.heap_alloc _ _ _ (zc F.out.lin.view)).trans F.out.lin.view) (by decide)
      have aj:Hid _:=zk (F.out.lin.strs.row.alloc _) O ((Below.heap_alloc _ _ _ (zc F.out.lin.box)).trans F.out.lin.box) (by decide)
      have ay:Hid (z3.cell? ⟨X,0,none⟩=some r9∧z3.cell? ⟨w.heap.size,7,none⟩=some (.int .i64 A)∧z3.cell? ⟨w.heap.size,8,none⟩=some (.int .i64 n)∧z3.cell? ⟨w.heap.size,9,none⟩=some (.string (za y))):=by
       obtain ⟨-,-,-,-,-,-,-,b7,b8,b9⟩:=zE bQ.out;exact ⟨zt aj.out,b7,b8,b9⟩
      have cO:Hid (z3.heap[D]?=some (.deferred (some []))):=by
       have bS:z1.heap[D]?=some (.deferred (some [])):=(F.out.kept D cn.out).trans cZ.out;have cG:(z1.alloc (.cells #[.string (za (Zz A n y))] 9)).heap[D]?=some (.deferred (some [])):=(Below.heap_alloc _ _ _ (zF bS)).trans bS;exact (O.block D (zF cG) (fun e=>F.out.away D e.symm cn.out)).trans cG
      refine I.out _ _ ⟨⟨z3,ay.out⟩,rfl⟩ ?_;clear I K ai O ae
      (try simp only [Act.put,List.setIfInBounds_toArray,List.set_cons_zero,List.set_cons_succ])
      refine Zt (fuel:=0) (fuel':=2) (idx:=[6,7]) (by kernel_rfl) rfl rfl rfl (fun _ _ _ _ _ h=>h) ⟨⟨z3,ay.out⟩,rfl⟩ ?_
      show wpQuiet _ _ _ _ [_,_] _
      iterate 2 (go_big_quiet_step (fail))
      refine wpQuiet_nil ?_;refine yk (by kernel_rfl) ?_
      clear x0 x1 x2 x3 aG;go_wp2
      have I:=cO.out;refine ⟨by simp,.inl ⟨_,_,rfl,run_takeDeferred I,?_⟩⟩
      refine ⟨_,results_tmp2 rfl _ _ _,.inr ⟨HM.out,v9,rfl,?_⟩⟩;have ca:=cU.out.putObj (o':=.deferred none) I rfl c6.out
      have e:Y6 os ⟨⟨B,m,fault,frames,out⟩,z,x,⟨A,n,y⟩⟩=PR++[Zz A n y]:=by
       rw [aT.out,c8.out,ad.out,cL.out,aR.out];rfl
      rw [e];exact ca
end Go.Proofs.YtbjndgachcdbcaaGreatDoor
