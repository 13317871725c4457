import Derived.Test.YtbjndgachcdbcaaGreatDoorVIter
import Derived.Test.YtbjndgachcdbcaaGreatDoorVMixL
import Derived.Test.YtbjndgachcdbcaaGreatDoorVFrame
import Derived.Test.YtbjndgachcdbcaaGreatDoorVStop
import Derived.Test.YtbjndgachcdbcaaGreatDoorVReply
import Derived.Test.YtbjndgachcdbcaaGreatDoorVOut
import Derived.Test.YtbjndgachcdbcaaGreatDoorVMay
import Derived.Deep.DeepCutAuto
namespace Go.Proofs.YtbjndgachcdbcaaGreatDoor
open Go.RowKit Go.Shelf
set_option maxHeartbeats 16000000
set_option maxRecDepth 100000
attribute [local go_sem] Oper.semAt_some
structure ZR (w W:World) (X:Nat) (xs:Array Value) (hp r:Value) (l:List (List UInt8)):Prop where
 view:W.heap[w.heap.size]?=some (.cells xs 35 (0,0))
 ptr:W.heap[w.heap.size+1]?=some (.cells #[hp] 37 (0,0))
 box:W.heap[X]?=some (.cells #[r] 41 (0,0))
 low:w.heap.size≤X
 strs:zj w.heap.size w W r l
theorem ZR.new {w W W':World} {X:Nat} {xs:Array Value} {hp r:Value} {l:List (List UInt8)} (h:ZR w W X xs hp r l) (hb:Below W.heap.size W W'):ZR w W' X xs hp r l :=
 ⟨(hb.block _ (zc h.view)).trans h.view,(hb.block _ (zc h.ptr)).trans h.ptr,(hb.block _ (zc h.box)).trans h.box,h.low,h.strs.new hb⟩
theorem zq {w:World} {N:Nat} {x0:Value} {ty:TypeId} (h:w.heap[N]?=some (.cells #[x0] ty (0,0))):w.cell? ⟨N,0,none⟩=some x0:=by
 simp only [World.cell?,h];rfl
theorem ZR.put {w W W3:World} {X:Nat} {xs:Array Value} {hp r v:Value} {l m:List (List UInt8)} {o:Obj} (h:ZR w W X xs hp r l) (hj:zj w.heap.size w W3 v m) (hg:(W.alloc o).grownBy W3 r.ownBlock):ZR w (W3.setCell ⟨X,0,none⟩ v) X xs hp v m:=by
 have c:=zk (h.strs.row.alloc _) hg ((Below.heap_alloc _ _ _ (zc h.view)).trans h.view) (by decide)
 have q:=zk (h.strs.row.alloc _) hg ((Below.heap_alloc _ _ _ (zc h.ptr)).trans h.ptr) (by decide)
 have b:=zk (h.strs.row.alloc _) hg ((Below.heap_alloc _ _ _ (zc h.box)).trans h.box) (by decide)
 have z:w.heap.size≠X:=fun e=>by rw [e,b] at c;simp at c
 have x:w.heap.size+1≠X:=fun e=>by rw [e,b] at q;simp at q
 refine ⟨(Below.heap_setCell _ _ _ _ (by simpa using z)).trans c,(Below.heap_setCell _ _ _ _ (by simpa using x)).trans q,?_,h.low,⟨?_,hj.below.setCell (p:=⟨X,0,none⟩) h.low _,by simpa using hj.low⟩⟩
 ·have:=heap_setCell_same W3 X 0 #[r] 41 v b
  simpa using this
 ·refine ownsRow_setCell_other hj.row (a:=⟨X,0,none⟩) (fun e=>?_) _
  obtain ⟨y,u⟩:=Zh hj.row e;rw [b] at u
  simp at u
theorem zu {w:World} {N:Nat} {x0 x1 x2 x3 x4 x5 x6 x7 x8 x9:Value} {ty:TypeId} (h:w.heap[N]?=some (.cells #[x0,x1,x2,x3,x4,x5,x6,x7,x8,x9] ty (0,0))):w.cell? ⟨N,0,none⟩=some x0∧w.cell? ⟨N,1,none⟩=some x1∧w.cell? ⟨N,2,none⟩=some x2∧w.cell? ⟨N,3,none⟩=some x3∧w.cell? ⟨N,4,none⟩=some x4∧w.cell? ⟨N,5,none⟩=some x5∧w.cell? ⟨N,6,none⟩=some x6∧w.cell? ⟨N,7,none⟩=some x7∧w.cell? ⟨N,8,none⟩=some x8∧w.cell? ⟨N,9,none⟩=some x9:=by
 refine ⟨?_,?_,?_,?_,?_,?_,?_,?_,?_,?_⟩ <;> (simp only [World.cell?,h];rfl)
theorem zE {w:World} {N:Nat} {o:Obj} (h:w.heap[N]?=some o):N<w.heap.size:=(Array.getElem?_eq_some_iff.1 h).1
theorem yT (os:List Ob) (sel:Int):∀(k:Nat) (l:List Fr) (f:Fr),zl os sel k (l++[f])=zl os sel k l++[ZA os f (decide (((k+l.length:Nat):Int)=sel))]
 | k,[],f=>by simp [zl]
 | k,x::t,f=>by
  rw [List.cons_append,zl,yT os sel (k+1) t f,zl,List.cons_append,List.length_cons,show k+1+t.length=k+(t.length+1) by omega]
theorem ZW (os:List Ob) (sel:Int):∀(k:Nat) (l:List Fr),(zl os sel k l).length=l.length
 | _,[]=>rfl
 | k,_::t=>by rw [zl,List.length_cons,ZW os sel (k+1) t,List.length_cons]
theorem xw (os:List Ob) (sel:Int) (frames:List Fr) {i k:Nat} (hk:k<frames.length) (h:frames.length=k+1+i):zl os sel 0 (frames.reverse.take (i+1))=zl os sel 0 (frames.reverse.take i)++[ZA os frames[k] (decide ((i:Int)=sel))]:=by
 have c:i<frames.reverse.length:=by rw [List.length_reverse];omega
 have e:frames.reverse.take i++[frames.reverse[i]]=frames.reverse.take (i+1):=List.take_append_getElem c
 have m:frames.reverse[i]=frames[k]:=by
  rw [List.getElem_reverse]
  congr 1
  omega
 have b:(frames.reverse.take i).length=i:=by rw [List.length_take];omega
 rw [←e,yT,m,b,Nat.zero_add]
abbrev Yz (pos status fault:Int) (vf:Value) (out:List UInt8) (sel:Int) (vs:Value) (err n:Int) (says:List UInt8):Array Value:=#[.int .i64 pos,.int .i64 status,.int .i64 fault,vf,.string (za out),.int .i64 sel,vs,.int .i64 err,.int .i64 n,.string (za says)]
theorem ZR.turn {w W W':World} {X:Nat} {xs:Array Value} {hp r:Value} {l:List (List UInt8)} (h:ZR w W X xs hp r l) (hB:Below w.heap.size W W') (hk:∀(b:Nat) (c:Array Value) (ty:TypeId) (z:Nat × Nat),W.heap[b]?=some (.cells c ty z)→W'.heap[b]?=W.heap[b]?):ZR w W' X xs hp r l :=
 ⟨(hk _ _ _ _ h.view).trans h.view,(hk _ _ _ _ h.ptr).trans h.ptr,(hk _ _ _ _ h.box).trans h.box,h.low,
  ⟨zm h.strs.row fun k e _=>by obtain ⟨c,m⟩:=Zh h.strs.row e;exact hk _ _ _ _ m,h.strs.below.trans hB,Nat.le_trans h.strs.low hB.size⟩⟩
structure VV (w:World) (X D Bn:Nat) (xs:Array Value) (hp sl:Value) (os:List Ob) (sel:Int) (frames:List Fr) (pl:List UInt8) (ob:Obj) (i:Nat) (W:World):Prop where
 lin:∃r,ZR w W X xs hp r ([pl]++zl os sel 0 (frames.reverse.take i))
 dfr:W.heap[D]?=some (.deferred (some []))
 loop:W.heap[D+1]?=some ob
 itr:W.heap[Bn]?=some (.cells #[sl] 27 (0,0))
 wD:w.heap.size≤D
theorem VV.turn {w:World} {X D Bn:Nat} {xs:Array Value} {hp sl:Value} {os:List Ob} {sel:Int} {frames:List Fr} {pl:List UInt8} {ob ob':Obj} {i:Nat} {W W':World} (h:VV w X D Bn xs hp sl os sel frames pl ob i W) (hob:ob.isCells=false)
  (hB:Below w.heap.size W W') (hk:∀b,b<W.heap.size→b≠D+1→W'.heap[b]?=W.heap[b]?) (h4:W'.heap[D+1]?=some ob'):VV w X D Bn xs hp sl os sel frames pl ob' i W':=by
 have c:∀(k:Nat) (cur:Array Value) (e:TypeId) (z:Nat × Nat),W.heap[k]?=some (Obj.cells cur e z)→W'.heap[k]?=W.heap[k]?:=fun k cur e z hh=>by
  refine hk k (Array.getElem?_eq_some_iff.1 hh).1 (fun e'=>?_)
  have m:=h.loop;subst e';rw [hh] at m;cases m
  cases hob
 obtain ⟨r,o⟩:=h.lin;exact ⟨⟨r,o.turn hB c⟩,(hk _ (Array.getElem?_eq_some_iff.1 h.dfr).1 (by omega)).trans h.dfr,h4,(c _ _ _ _ h.itr).trans h.itr,h.wD⟩
theorem VV.step {w:World} {X D Bn:Nat} {xs:Array Value} {hp sl r v:Value} {os:List Ob} {sel:Int} {frames:List Fr} {pl:List UInt8} {ob o:Obj} {i:Nat} {Wb z1 z3:World} {l:List (List UInt8)} (h:VV w X D Bn xs hp sl os sel frames pl ob i Wb) (hob:ob.isCells=false)
  (hb:Below Wb.heap.size Wb z1) (hL:ZR w z1 X xs hp r l) (hg:(z1.alloc o).grownBy z3 r.ownBlock) (hN:ZR w (z3.setCell ⟨X,0,none⟩ v) X xs hp v ([pl]++zl os sel 0 (frames.reverse.take (i+1)))):VV w X D Bn xs hp sl os sel frames pl ob (i+1) (z3.setCell ⟨X,0,none⟩ v):=by
 have u:=zk (hL.strs.row.alloc _) hg ((Below.heap_alloc _ _ _ (zc hL.box)).trans hL.box) (by decide)
 have c:∀(q:Nat) (o':Obj),Wb.heap[q]?=some o'→(∀b z,o'≠.cells b 9 z)→(∀b z,o'≠.cells b 41 z)→(z3.setCell ⟨X,0,none⟩ v).heap[q]?=some o':=by
  intro q o' x E G;have B:z1.heap[q]?=some o':=(hb.block _ (zE x)).trans x;have m:(z1.alloc o).heap[q]?=some o':=(Below.heap_alloc _ _ _ (zE B)).trans B
  have A:z3.heap[q]?=some o':=(hg.block q (zE m) (fun e=>by
   obtain ⟨b,y⟩:=Zh (hL.strs.row.alloc o) e.symm;rw [m] at y
   exact E _ _ (Option.some.inj y))).trans m
  have F:q≠X:=fun e=>by
   subst e;rw [A] at u;exact G _ _ (Option.some.inj u)
  exact (Below.heap_setCell _ _ _ _ (by simpa using F)).trans A
 exact ⟨⟨_,hN⟩,c _ _ h.dfr (fun _ _ e=>by cases e) (fun _ _ e=>by cases e),c _ _ h.loop (fun _ _ e=>by rw [e] at hob;cases hob) (fun _ _ e=>by rw [e] at hob;cases hob),c _ _ h.itr (fun _ _ e=>by simp at e) (fun _ _ e=>by simp at e),h.wD⟩
structure YN (w W0 W:World) (X:Nat) (G:Nat→Prop) (xs:Array Value) (hp r:Value) (l:List (List UInt8)):Prop where
 lin:ZR w W X xs hp r l
 kept:∀q,G q→W.heap[q]?=W0.heap[q]?
 gs:∀q,G q→q<W0.heap.size
 size:W0.heap.size≤W.heap.size
 away:∀q,r.ownBlock=some q→¬ G q
 far:¬ G X
theorem YN.new {w W0 W W':World} {X:Nat} {G:Nat→Prop} {xs:Array Value} {hp r:Value} {l:List (List UInt8)} (h:YN w W0 W X G xs hp r l) (hb:Below W.heap.size W W'):YN w W0 W' X G xs hp r l :=
 ⟨h.lin.new hb,fun q hq=>(hb.block q (by have:=h.gs q hq;have:=h.size;omega)).trans (h.kept q hq),h.gs,Nat.le_trans h.size hb.size,h.away,h.far⟩
theorem YN.put {w W0 z1 z3:World} {X:Nat} {G:Nat→Prop} {xs:Array Value} {hp r v:Value} {l m:List (List UInt8)} {o:Obj} (h:YN w W0 z1 X G xs hp r l) (hj:zj w.heap.size w z3 v m) (hg:(z1.alloc o).grownBy z3 r.ownBlock) (hloc:v.ownBlock=r.ownBlock∨∃k,v.ownBlock=some k∧(z1.alloc o).heap.size≤k):YN w W0 (z3.setCell ⟨X,0,none⟩ v) X G xs hp v m:=by
 have x:=hg.size;have z:=h.size;refine ⟨h.lin.put hj hg,fun q hq=>?_,h.gs,by simp;simp at x;omega,fun q e hq=>?_,h.far⟩
 ·have c:=h.gs q hq
  have y:q≠X:=fun e=>h.far (by rw [←e];exact hq)
  rw [Below.heap_setCell _ _ _ _ (by simpa using y),hg.block q (by simp;omega) (fun e=>h.away q e.symm hq),Below.heap_alloc _ _ _ (by omega)]
  exact h.kept q hq
 ·have c:=h.gs q hq
  rcases hloc with b | ⟨k,b,u⟩
  ·exact h.away q (b.symm.trans e) hq
  ·rw [b] at e
   have A:k=q:=Option.some.inj e
   simp at u
   omega
theorem zO {ops:Array Oper} {o:Oper} {a:Act} {w:World} {K:Act→World→Prop} {Q:Exit→Act→World→Prop} {E:Prop} (s x:Operand)
  (ho:o.op=.call { callee:=.builtin .append,args:=#[s,x],argTypes:=#[41,41] }) (hw:Region.wanted o (yielded ops a.tmps)=true)
  (B:Nat) (v:Value) (l m:List (List UInt8)) (hs:a.eval s=v) (w1:World) (w0:World) (hj:zj B w0 w1 v l) (hw1:w=w1.alloc (.cells (strC m).toArray 9)) (hx:a.eval x=.slice (some ⟨w1.heap.size,0,none⟩) m.length m.length)
  (hb:l.length+m.length≤4294967296)
  (h:∀b u,zj B w0 u b (l++m)→w.grownBy u v.ownBlock→(b.ownBlock=v.ownBlock∨∃k,b.ownBlock=some k∧w.heap.size≤k)→K (a.put o.dst b) u) :
  if Region.wanted o (yielded ops a.tmps)=true then Oper.wp Tryz.prog o a w K Q else E:=by
 obtain ⟨G,H,z,D,A⟩:=info_parts Yp;subst hw1;have F:=hj.low;refine ZQ s x 41 ho hw B 9 G (.string ⟨#[]⟩) 1 16 Tryz.underlying41 H z D A rfl (by decide) v l.length _ hs (hj.row.alloc _) ⟨w1.heap.size,0,none⟩ m.length m.length (strC m) hx (by rw [ZJ,Nat.mul_one]) (yd _ _ _) (Yo m) (by unfold maxLen;omega) (by omega) (by simp;omega) ?_
 intro b u y c q;exact h b u (hj.app ((Below.refl _ _).alloc (Nat.le_refl _) _) y c) c (q.imp id fun e=>⟨_,e,Nat.le_refl _⟩)
theorem Y5:∀(ls:List (List UInt8)) (s:List UInt8),s∈ls→s.length≤(zi ls).length
 | [],_,h=>by cases h
 | x::t,s,h=>by
  have e:zi (x::t)=(x++[10])++zi t:=rfl;rw [e,List.length_append,List.length_append];rcases List.mem_cons.1 h with rfl | h
  ·omega
  ·have:=Y5 t s h;omega
theorem Vj (out s:List UInt8) (h:s∈YH out):s.length≤out.length:=by
 obtain ⟨rest,-,b,-⟩:=Zw out [] (fun _ h=>by cases h)
 have e:=Y5 _ s (List.mem_of_mem_drop h);rw [List.nil_append] at b;have c:=congrArg List.length b;rw [List.length_append] at c;omega
theorem Vk (out:List UInt8):(YH out).length≤4:=by unfold YH Vd;rw [List.length_drop];omega
theorem Xd {α β:Type} (f:α→β) (l:List α) {i:Nat} (h:i<l.length):(l.take (i+1)).map f=(l.take i).map f++[f l[i]]:=by
 have e:l.take i++[l[i]]=l.take (i+1):=List.take_append_getElem h;rw [←e,List.map_append];rfl
theorem zj.putObj {B D:Nat} {w0 w:World} {v:Value} {l:List (List UInt8)} {o o':Obj} (h:zj B w0 w v l) (hd:w.heap[D]?=some o) (ho:o.isCells=false) (hD:B≤D):zj B w0 (w.putObj D o') v l:=by
 refine ⟨zm h.row fun k e _=>?_,h.below.grown (grownBy_putObj' _ _ _) h.low (fun k e=>by cases e;omega),?_⟩
 ·obtain ⟨c,b⟩:=Zh h.row e
  refine World.putObj_heap_other fun e'=>?_
  rw [e',hd] at b;cases b
  cases ho
 ·have:=(grownBy_putObj' w D o').size
  exact Nat.le_trans h.low this
theorem vC {S T:Nat→Prop} {most:Nat} {os:List Ob} {h:Nat} {vo vc:Value} (v:Vw) (vf vs:Value) (w:World) (H:zA S w most os h vo vc) (hv:Zn T w v vf vs) (hs:Xy v) (ht:Yc w) :
  Calls Tryz.prog 13 #[VO vf vs v,.pointer (some ⟨h,0,none⟩)] w fun e w'=>(VP os.length v=false∧e=.returned (.tuple #[.slice none 0 0,.int .i64 2])∧Below w.heap.size w w')∨(VP os.length v=true∧∃r,e=.returned (.tuple #[r,.int .i64 0])∧zj w.heap.size w w' r (xj os v)):=by
 have HH:Hid (zA S w most os h vo vc):=H;have HV:Hid (Zn T w v vf vs):=hv;have HS:Hid (Xy v):=hs;have HT:Hid (Yc w):=ht;obtain ⟨R,U,rfl,bk,ca,aT⟩:=hv.frames.at;obtain ⟨bs,cs,rfl,bn,bU,aL⟩:=hv.stops.at;obtain ⟨⟨E,m,fault,frames,out⟩,z,x,⟨A,n,y⟩⟩:=v;simp only at aT aL bk bn;have cn:Hid (∀i (hi:i<frames.length),∃b o,R=some ⟨b,o,none⟩∧T b∧b<w.heap.size∧ux T w b (o+i*3) frames[i]):=aT;have cG:Hid (∀i (hi:i<x.length),∃b o,bs=some ⟨b,o,none⟩∧T b∧b<w.heap.size∧uA w b (o+i*5) x[i]):=aL;obtain ⟨w2,cz,an,cX,h0,h1⟩:=uj w (.cells #[.int .i64 E,.int .i64 m,.int .i64 fault,.slice R frames.length U,.string (za out),.int .i64 z,.slice bs x.length cs,.int .i64 A,.int .i64 n,.string (za y)] 35) (.cells #[.pointer (some ⟨h,0,none⟩)] 37);have bB:Hid (w2=(w.alloc (.cells #[.int .i64 E,.int .i64 m,.int .i64 fault,.slice R frames.length U,.string (za out),.int .i64 z,.slice bs x.length cs,.int .i64 A,.int .i64 n,.string (za y)] 35)).alloc (.cells #[.pointer (some ⟨h,0,none⟩)] 37)):=cz;have ck:Hid (Below w.heap.size w w2):=an;have cc:Hid (w2.heap[w.heap.size]?=some (.cells #[.int .i64 E,.int .i64 m,.int .i64 fault,.slice R frames.length U,.string (za out),.int .i64 z,.slice bs x.length cs,.int .i64 A,.int .i64 n,.string (za y)] 35 (0,0))):=h0;have bY:Hid (w2.heap[w.heap.size+1]?=some (.cells #[.pointer (some ⟨h,0,none⟩)] 37 (0,0))):=h1;have ci:=vv w2 (H.below an) (ht.below an (Nat.le_refl _)).tabs;obtain ⟨p0,p1,p2,p3,p4,p5,p6,p7,p8,p9⟩:=zu h0;have pp:=zq h1
 have cg:Hid (∀W,Below w.heap.size w W→Calls Tryz.prog 23 #[.agg #[.int .i64 E,.int .i64 m,.int .i64 fault,.slice R frames.length U,.string (za out)],.pointer (some ⟨h,0,none⟩)] W fun e w'=>e=.returned (.bool (Xa os.length m fault frames))∧Below W.heap.size W w'):=fun W hW =>
  Xc _ E m fault out frames W (HH.out.below hW) (HV.out.below hW).frames HS.out.frames HS.out.nframes (HT.out.below hW (Nat.le_refl _))
 have HM:Hid (VP os.length ⟨⟨E,m,fault,frames,out⟩,z,x,⟨A,n,y⟩⟩=Xa os.length m fault frames):=rfl
 have cF:Hid (Xa os.length m fault frames=true→0≤m∧m≤2):=fun h=>by
  unfold Xa at h
  simp only [Bool.and_eq_true,decide_eq_true_eq] at h;exact h.1.1
 obtain ⟨M,hM⟩:∃M,M=Xa os.length m fault frames:=⟨_,rfl⟩;rw [←hM] at HM cg cF;clear cz an h0 h1 cX H hv hs ht aT aL bk ca bn bU hM;refine (callsIn_wide (n:=5)).1 ?_;refine callsIn_of_wp_marks Tryz.func13 rfl trivial ?_ rfl;simp only [Tryz.ntmps13,List.size_toArray,List.length_cons,List.length_nil,Nat.reduceAdd,Nat.reduceSub,Array.replicate_succ,Array.replicate_zero,List.push_toArray,List.append_toArray,List.nil_append,List.cons_append];refine wpIn_wide.2 ?_;go_wp2_with fail
 rw [←bB.out];refine ci.mono ?_;clear ci p0 p1 p2 p3 p4 p5 p6 p7 p8 p9 pp;rintro e w3 ⟨rfl,aZ⟩;have bO:Hid (Below w.heap.size w w3):=ck.out.trans (aZ.mono ck.out.size);have bq:Hid (w3.heap[w.heap.size]?=some (.cells #[.int .i64 E,.int .i64 m,.int .i64 fault,.slice R frames.length U,.string (za out),.int .i64 z,.slice bs x.length cs,.int .i64 A,.int .i64 n,.string (za y)] 35 (0,0))):=(aZ.block _ (zc cc.out)).trans cc.out;have bH:Hid (w3.heap[w.heap.size+1]?=some (.cells #[.pointer (some ⟨h,0,none⟩)] 37 (0,0))):=(aZ.block _ (zc bY.out)).trans bY.out;obtain ⟨p0,p1,p2,p3,p4,p5,p6,p7,p8,p9⟩:=zu bq.out;have pp:=zq bH.out;have cm:=cg.out w3 bO.out;clear aZ;go_wp2_with fail
 refine cm.mono ?_;clear cm p0 p1 p2 p3 p4 p5 p6 p7 p8 p9 pp;rintro e w4 ⟨rfl,aX⟩;have ba:Hid (Below w.heap.size w w4):=bO.out.trans (aX.mono bO.out.size);have bG:Hid (w4.heap[w.heap.size]?=some (.cells #[.int .i64 E,.int .i64 m,.int .i64 fault,.slice R frames.length U,.string (za out),.int .i64 z,.slice bs x.length cs,.int .i64 A,.int .i64 n,.string (za y)] 35 (0,0))):=(aX.block _ (zc bq.out)).trans bq.out;have aH:Hid (w4.heap[w.heap.size+1]?=some (.cells #[.pointer (some ⟨h,0,none⟩)] 37 (0,0))):=(aX.block _ (zc bH.out)).trans bH.out;clear aX;cases M with
 | false =>
  go_wp2_with fail
  exact ⟨_,results_tmp2 rfl _ _ _,.inl ⟨HM.out,rfl,ba.out⟩⟩
 | true =>
  obtain ⟨p0,p1,p2,p3,p4,p5,p6,p7,p8,p9⟩:=zu bG.out;have aG:=cF.out rfl;have cp:=YJ (.slice R frames.length U) E m fault out w4 HS.out.pos (HT.out.below ba.out (Nat.le_refl _)) aG;clear aG;go_wp2_with fail
  refine cp.mono ?_;clear cp p0 p1 p2 p3 p4 p5 p6 p7 p8 p9;rintro e w5 ⟨rfl,az⟩;have bI:Hid (Below w.heap.size w w5):=ba.out.trans (az.mono ba.out.size);have aW:Hid (w5.heap[w.heap.size]?=some (.cells #[.int .i64 E,.int .i64 m,.int .i64 fault,.slice R frames.length U,.string (za out),.int .i64 z,.slice bs x.length cs,.int .i64 A,.int .i64 n,.string (za y)] 35 (0,0))):=(az.block _ (zc bG.out)).trans bG.out;have bx:Hid (w5.heap[w.heap.size+1]?=some (.cells #[.pointer (some ⟨h,0,none⟩)] 37 (0,0))):=(az.block _ (zc aH.out)).trans aH.out;obtain ⟨p0,p1,p2,p3,p4,p5,p6,p7,p8,p9⟩:=zu aW.out;clear az
  go_upto_region 6 with fail
  have aM:ZR w ((w5.alloc (.cells #[.string (za (Zc E m fault))] 9)).alloc (.cells #[.slice (some ⟨w5.heap.size,0,none⟩) 1 1] 41)) (w5.heap.size+1) (Yz E m fault (.slice R frames.length U) out z (.slice bs x.length cs) A n y) (.pointer (some ⟨h,0,none⟩)) (.slice (some ⟨w5.heap.size,0,none⟩) 1 1) [Zc E m fault]:=by
   have dk:=bI.out.size;have hl:=zj.lit w.heap.size w w5 [Zc E m fault] bI.out bI.out.size (by simp [maxLen])
   refine ⟨?_,?_,?_,by omega,hl.new ((Below.refl _ _).alloc (Nat.le_refl _) _)⟩
   ·exact (Below.heap_alloc _ _ _ (by have:=zc aW.out;simp;omega)).trans ((Below.heap_alloc _ _ _ (zc aW.out)).trans aW.out)
   ·exact (Below.heap_alloc _ _ _ (by have:=zc bx.out;simp;omega)).trans ((Below.heap_alloc _ _ _ (zc bx.out)).trans bx.out)
   ·have:=World.alloc_heap_new (w5.alloc (.cells #[.string (za (Zc E m fault))] 9)) (.cells #[.slice (some ⟨w5.heap.size,0,none⟩) 1 1] 41)
    simpa using this
  obtain ⟨X,hX⟩:∃X,X=w5.heap.size+1:=⟨_,rfl⟩;obtain ⟨r6,b0⟩:∃r6,r6=Value.slice (some ⟨w5.heap.size,0,none⟩) 1 1:=⟨_,rfl⟩;obtain ⟨w6,b6⟩:∃w6,w6=(w5.alloc (.cells #[.string (za (Zc E m fault))] 9)).alloc (.cells #[.slice (some ⟨w5.heap.size,0,none⟩) 1 1] 41):=⟨_,rfl⟩;obtain ⟨PL,bM⟩:∃PL,PL=Zc E m fault:=⟨_,rfl⟩;rw [←b6,←hX] at aM ⊢;rw [←bM] at aM;rw [←b0] at aM;have c8:Hid (PL=Zc E m fault):=bM;have bS:Hid _:=aM;clear p0 p1 p2 p3 p4 p5 p6 p7 p8 p9 bM;obtain ⟨p0,p1,p2,p3,p4,p5,p6,p7,p8,p9⟩:=zu bS.out.view;clear aM hX b0 b6;go_wp2_with fail
  refine (callsIn_wide.1 (YI (.slice R frames.length U) R frames.length U rfl w6)).mono ?_;rintro e w7 ⟨rfl,bK⟩;clear p0 p1 p2 p3 p4 p5 p6 p7 p8 p9;have be:Below w6.heap.size w6 w7:=by rw [bK];exact (Below.refl _ _).alloc (Nat.le_refl _) _
  have aC:w7.heap[w6.heap.size]?=some (.cells #[.slice R frames.length U] 27 (0,0)):=by rw [bK];exact World.alloc_heap_new _ _
  have bA:=bS.out.new be;clear bK;go_wp2_with fail
  refine (wpIn_wide (n:=5)).1 (xl rfl (enters_of Tryz.func39 (by kernel_rfl) rfl) (fun r0 aG hpe htm hpa has hbo=>?_))
  obtain ⟨D,hD⟩:∃D,D=w7.heap.size:=⟨_,rfl⟩;obtain ⟨Bn,bX⟩:∃Bn,Bn=w6.heap.size:=⟨_,rfl⟩;rw [←hD];rw [←bX] at htm aC ⊢;have cZ:=bA.strs.low;have aq:Below w7.heap.size w7 ((w7.alloc (.deferred (some []))).alloc (.loop r0)):=((Below.refl _ _).alloc (Nat.le_refl _) _).alloc (by simp) _
  have cv:((w7.alloc (.deferred (some []))).alloc (.loop r0)).heap[D]?=some (.deferred (some [])):=by
   rw [hD];exact (Below.heap_alloc _ _ _ (by simp)).trans (World.alloc_heap_new w7 _)
  have b4:((w7.alloc (.deferred (some []))).alloc (.loop r0)).heap[D+1]?=some (.loop r0):=by
   have:=World.alloc_heap_new (w7.alloc (.deferred (some []))) (.loop r0)
   rwa [World.size_alloc,←hD] at this
  have bz:VV w X D Bn (Yz E m fault (.slice R frames.length U) out z (.slice bs x.length cs) A n y) (.pointer (some ⟨h,0,none⟩)) (.slice R frames.length U) os z frames PL (.loop r0) 0 ((w7.alloc (.deferred (some []))).alloc (.loop r0)) :=
   ⟨⟨r6,by simpa [zl] using bA.new aq⟩,cv,b4,(aq.block _ (zc aC)).trans aC,by omega⟩
  generalize (w7.alloc (.deferred (some []))).alloc (.loop r0)=W0 at bz ⊢;clear cv b4 aq cZ bA aC be hD bX;refine (vr (D+1) Bn R U frames HS.out.nframes (fun i W=>VV w X D Bn (Yz E m fault (.slice R frames.length U) out z (.slice bs x.length cs) A n y) (.pointer (some ⟨h,0,none⟩)) (.slice R frames.length U) os z frames PL (.loop r0) i W) (fun k u=>∀hk:k<frames.length,Yr T w u (frames[k]).vars) ?hJc ?hJe ?hY _ bz).mono ?_
  case hJc =>
   intro i W hJ;exact zq hJ.itr
  case hJe =>
   intro i W hJ k hk;obtain ⟨b,o,e,-,bQ,c0,c1,u,c2,cV⟩:=cn.out k hk;obtain ⟨r,hr⟩:=hJ.lin;have aF:∀q,W.cell? ⟨b,q,none⟩=w.cell? ⟨b,q,none⟩:=fun q=>zh hr.strs.below bQ
   exact ⟨b,o,u,e,(aF _).trans c0,(aF _).trans c1,(aF _).trans c2,fun _=>cV⟩
  case hY =>
   intro i J u k hk bp hJ hP;have bb:=hJ.loop;have bN:=hJ.wD;have cq:=zE bb;obtain ⟨bu,cu,rfl,-⟩:=(hP hk).at;have HU:Hid (Yr T w (.slice bu (frames[k]).vars.length cu) (frames[k]).vars):=hP hk;have ch:Hid (yC frames[k]):=HS.out.frames _ (List.getElem_mem hk);have ah:=xw os z frames hk bp;obtain ⟨f,hf⟩:∃f,f=frames[k]:=⟨_,rfl⟩;rw [←hf] at HU ch ah;simp only [←hf];obtain ⟨nv,bF⟩:∃nv,nv=f.vars.length:=⟨_,rfl⟩;rw [←bF] at HU ⊢;have dh:Hid (nv=f.vars.length):=bF;clear hf bF;have bj:Hid (zl os z 0 (frames.reverse.take (i+1))=zl os z 0 (frames.reverse.take i)++[ZA os f (decide ((i:Int)=z))]):=ah;obtain ⟨W2,aY⟩:∃W2,W2=J.alloc (.cells #[.string (za f.fn),.int .i64 f.line,.slice bu nv cu] 52):=⟨_,rfl⟩;have bB:Hid (W2=J.alloc (.cells #[.string (za f.fn),.int .i64 f.line,.slice bu nv cu] 52)):=aY;have an:Below J.heap.size J W2:=by rw [aY];exact (Below.refl _ _).alloc (Nat.le_refl _) _
   have ct:W2.heap[J.heap.size]?=some (.cells #[.string (za f.fn),.int .i64 f.line,.slice bu nv cu] 52 (0,0)):=by rw [aY];exact World.alloc_heap_new _ _
   obtain ⟨r1,bV⟩:=hJ.lin;have av:=bV.strs.low;have bL:=hJ.turn (ob':=.loop r0) (W':=W2) rfl (an.mono av) (fun b hb _=>an.block b hb) ((an.block _ cq).trans bb)
   have aw:=bL.loop;have aK:w.heap.size≤W2.heap.size:=Nat.le_trans av an.size;refine ⟨_,_,_,_,run_yield bb (by rw [hpa];rfl),roundIn_of_wpIn trivial ?_⟩
   rw [has,hbo,htm,hpa];simp only [List.zip_toArray,List.zip_cons_cons,List.zip_nil_right];have a8:=bL.turn (ob':=.loop { r0 with state:=.busy }) (W':=W2.putObj (D+1) (.loop { r0 with state:=.busy })) rfl ((Below.refl w.heap.size W2).grown (grownBy_putObj' W2 _ _) aK (fun k e=>by cases e;omega)) (fun b _ hb=>World.putObj_heap_other hb) (World.putObj_heap_same (zE aw))
   have br:(W2.putObj (D+1) (.loop { r0 with state:=.busy })).heap[J.heap.size]?=some (.cells #[.string (za f.fn),.int .i64 f.line,.slice bu nv cu] 52 (0,0)):=(World.putObj_heap_other (by omega)).trans ct
   have bl:=run_beginRound (P:=Tryz.prog) aw aG;have bd:Hid ((Instr.beginRound (D+1)).run Tryz.prog W2=.ok () (W2.putObj (D+1) (.loop { r0 with state:=.busy }))):=bl;obtain ⟨Wb,b2⟩:∃Wb,Wb=W2.putObj (D+1) (.loop { r0 with state:=.busy }):=⟨_,rfl⟩;rw [←b2] at a8 br bd;obtain ⟨r9,b3⟩:=a8.lin;have aV:Hid (ZR w Wb X (Yz E m fault (.slice R frames.length U) out z (.slice bs x.length cs) A n y) (.pointer (some ⟨h,0,none⟩)) r9 ([PL]++zl os z 0 (frames.reverse.take i))):=b3;have c7:Hid (VV w X D Bn (Yz E m fault (.slice R frames.length U) out z (.slice bs x.length cs) A n y) (.pointer (some ⟨h,0,none⟩)) (.slice R frames.length U) os z frames PL (.loop { r0 with state:=.busy }) i Wb):=a8;have aN:Hid (Wb.heap[J.heap.size]?=some (.cells #[.string (za f.fn),.int .i64 f.line,.slice bu nv cu] 52 (0,0))):=br;have de:i≤1048576:=by have:=HS.out.nframes;simp only at this;omega
   have dj:Hid (frames.length=k+1+i):=bp
   have c4:Hid (({ { r0 with state:=.busy } with state:=if (none:Option Code).isNone then .ready else .done,pending:=none }:Loop)=r0):=by
    show _=_
    cases r0;simp_all
   clear ah hP hJ bV a8 b3 bb bL aw br ct b2 bl aY an bp av aK cq
   gi_wp2_with fail
   rw [←bB.out];refine ⟨_,bd.out,?_⟩
   gi_wp2_with fail
   have ag:Hid (∀W,ZR w W X (Yz E m fault (.slice R frames.length U) out z (.slice bs x.length cs) A n y) (.pointer (some ⟨h,0,none⟩)) r9 ([PL]++zl os z 0 (frames.reverse.take i))→W.heap[J.heap.size]?=some (.cells #[.string (za f.fn),.int .i64 f.line,.slice bu nv cu] 52 (0,0))→W.cell? ⟨X,0,none⟩=some r9∧W.cell? ⟨J.heap.size,0,none⟩=some (.string (za f.fn))∧W.cell? ⟨J.heap.size,1,none⟩=some (.int .i64 f.line)∧W.cell? ⟨J.heap.size,2,none⟩=some (.slice bu nv cu)∧W.cell? ⟨w.heap.size,5,none⟩=some (.int .i64 z)∧W.cell? ⟨w.heap.size+1,0,none⟩=some (.pointer (some ⟨h,0,none⟩))):=fun W hL hF=>by
    obtain ⟨a0,a1,a2⟩:=Zg hF;obtain ⟨-,-,-,-,-,b5,-,-,-,-⟩:=zu hL.view;exact ⟨zq hL.box,a0,a1,a2,b5,zq hL.ptr⟩
   have x0:∀c:zD fun W=>W.cell? ⟨X,0,none⟩=some r9∧W.cell? ⟨J.heap.size,0,none⟩=some (.string (za f.fn))∧W.cell? ⟨J.heap.size,1,none⟩=some (.int .i64 f.line)∧W.cell? ⟨J.heap.size,2,none⟩=some (.slice bu nv cu)∧W.cell? ⟨w.heap.size,5,none⟩=some (.int .i64 z)∧W.cell? ⟨w.heap.size+1,0,none⟩=some (.pointer (some ⟨h,0,none⟩)),c.1.cell? ⟨X,0,none⟩=some r9:=fun c=>c.2.1
   have x1:∀c:zD fun W=>W.cell? ⟨X,0,none⟩=some r9∧W.cell? ⟨J.heap.size,0,none⟩=some (.string (za f.fn))∧W.cell? ⟨J.heap.size,1,none⟩=some (.int .i64 f.line)∧W.cell? ⟨J.heap.size,2,none⟩=some (.slice bu nv cu)∧W.cell? ⟨w.heap.size,5,none⟩=some (.int .i64 z)∧W.cell? ⟨w.heap.size+1,0,none⟩=some (.pointer (some ⟨h,0,none⟩)),c.1.cell? ⟨J.heap.size,0,none⟩=some (.string (za f.fn)):=fun c=>c.2.2.1
   have x2:∀c:zD fun W=>W.cell? ⟨X,0,none⟩=some r9∧W.cell? ⟨J.heap.size,0,none⟩=some (.string (za f.fn))∧W.cell? ⟨J.heap.size,1,none⟩=some (.int .i64 f.line)∧W.cell? ⟨J.heap.size,2,none⟩=some (.slice bu nv cu)∧W.cell? ⟨w.heap.size,5,none⟩=some (.int .i64 z)∧W.cell? ⟨w.heap.size+1,0,none⟩=some (.pointer (some ⟨h,0,none⟩)),c.1.cell? ⟨J.heap.size,1,none⟩=some (.int .i64 f.line):=fun c=>c.2.2.2.1
   have x3:∀c:zD fun W=>W.cell? ⟨X,0,none⟩=some r9∧W.cell? ⟨J.heap.size,0,none⟩=some (.string (za f.fn))∧W.cell? ⟨J.heap.size,1,none⟩=some (.int .i64 f.line)∧W.cell? ⟨J.heap.size,2,none⟩=some (.slice bu nv cu)∧W.cell? ⟨w.heap.size,5,none⟩=some (.int .i64 z)∧W.cell? ⟨w.heap.size+1,0,none⟩=some (.pointer (some ⟨h,0,none⟩)),c.1.cell? ⟨J.heap.size,2,none⟩=some (.slice bu nv cu):=fun c=>c.2.2.2.2.1
   have x4:∀c:zD fun W=>W.cell? ⟨X,0,none⟩=some r9∧W.cell? ⟨J.heap.size,0,none⟩=some (.string (za f.fn))∧W.cell? ⟨J.heap.size,1,none⟩=some (.int .i64 f.line)∧W.cell? ⟨J.heap.size,2,none⟩=some (.slice bu nv cu)∧W.cell? ⟨w.heap.size,5,none⟩=some (.int .i64 z)∧W.cell? ⟨w.heap.size+1,0,none⟩=some (.pointer (some ⟨h,0,none⟩)),c.1.cell? ⟨w.heap.size,5,none⟩=some (.int .i64 z):=fun c=>c.2.2.2.2.2.1
   have x5:∀c:zD fun W=>W.cell? ⟨X,0,none⟩=some r9∧W.cell? ⟨J.heap.size,0,none⟩=some (.string (za f.fn))∧W.cell? ⟨J.heap.size,1,none⟩=some (.int .i64 f.line)∧W.cell? ⟨J.heap.size,2,none⟩=some (.slice bu nv cu)∧W.cell? ⟨w.heap.size,5,none⟩=some (.int .i64 z)∧W.cell? ⟨w.heap.size+1,0,none⟩=some (.pointer (some ⟨h,0,none⟩)),c.1.cell? ⟨w.heap.size+1,0,none⟩=some (.pointer (some ⟨h,0,none⟩)):=fun c=>c.2.2.2.2.2.2
   haveI aJ:Nonempty (zD fun W=>W.cell? ⟨X,0,none⟩=some r9∧W.cell? ⟨J.heap.size,0,none⟩=some (.string (za f.fn))∧W.cell? ⟨J.heap.size,1,none⟩=some (.int .i64 f.line)∧W.cell? ⟨J.heap.size,2,none⟩=some (.slice bu nv cu)∧W.cell? ⟨w.heap.size,5,none⟩=some (.int .i64 z)∧W.cell? ⟨w.heap.size+1,0,none⟩=some (.pointer (some ⟨h,0,none⟩))):=⟨⟨Wb,ag.out Wb aV.out aN.out⟩⟩
   have ae:Hid (Below Wb.heap.size Wb Wb.drew):=(Below.refl _ _).drew;refine vt 10 (n:=11) (S:=fun w'=>∃c:zD fun W=>W.cell? ⟨X,0,none⟩=some r9∧W.cell? ⟨J.heap.size,0,none⟩=some (.string (za f.fn))∧W.cell? ⟨J.heap.size,1,none⟩=some (.int .i64 f.line)∧W.cell? ⟨J.heap.size,2,none⟩=some (.slice bu nv cu)∧W.cell? ⟨w.heap.size,5,none⟩=some (.int .i64 z)∧W.cell? ⟨w.heap.size+1,0,none⟩=some (.pointer (some ⟨h,0,none⟩)),w'=c.1) (by kernel_rfl) (by kernel_rfl) ?hq rfl rfl ?_
   case hq =>
    rintro ⟨a9,w9,h9⟩;exact h9
   refine xr (fuel:=4) (fuel':=11) (idx:=[0,1,2,3,4,5,6]) (by kernel_rfl) rfl rfl rfl (fun _ _ _ _ _ h=>h) ⟨⟨Wb.drew,ag.out _ (aV.out.new ae.out) ((ae.out.block _ (zc aN.out)).trans aN.out)⟩,rfl⟩ ?_
   show wpQuiet _ _ _ _ [_,_,_,_,_,_,_] _
   iterate 7 (go_big_quiet_step (fail))
   refine wpQuiet_nil ?_;have cT:Hid (Below w.heap.size w Wb):=aV.out.strs.below;have cY:=aV.out.strs.low
   have cj:Hid (∀W,Below w.heap.size w W→Calls Tryz.prog 26 #[uB (.slice bu nv cu) f.fn f.line,.bool (decide ((i:Int)=z)),.pointer (some ⟨h,0,none⟩)] W fun e w'=>e=.returned (.string (za (ZA os f (decide ((i:Int)=z)))))∧Below W.heap.size W w'):=fun W hW =>
    YK f _ _ W (HH.out.below hW) (rowIn.kept HU.out (Y0 T) hW.size fun q _ hq=>hW.block q hq) ch.out (HT.out.below hW (Nat.le_refl _))
   obtain ⟨FB,cx⟩:∃FB,FB=ZA os f (decide ((i:Int)=z)):=⟨_,rfl⟩;rw [←cx] at cj bj;clear cx;refine zK (fuel:=3) (fuel':=4) (i:=7) rfl (by kernel_rfl) rfl rfl (by rfl) ?_
   intro K I;go_simp;refine (cj.out Wb.drew (cT.out.trans (ae.out.mono cY))).mono ?_;rintro e z1 ⟨rfl,hb⟩;have aH:Hid (Below Wb.heap.size Wb z1):=ae.out.trans (hb.mono ae.out.size);clear hb
   (try go_simp)
   have ad:Hid _:=aV.out.new aH.out;have am:Hid _:=(aH.out.block _ (zc aN.out)).trans aN.out;refine I.out _ _ (fun _=>⟨⟨z1,ag.out z1 ad.out am.out⟩,rfl⟩) ?_
   clear I K;refine zK (fuel:=2) (fuel':=3) (i:=8) rfl (by kernel_rfl) rfl rfl (by rfl) ?_
   intro K I;go_simp;have aA:Hid (Below z1.heap.size z1 (z1.alloc (.cells #[.string (za FB)] 9))):=(Below.refl _ _).alloc (Nat.le_refl _) _;refine I.out _ _ (fun _=>⟨⟨_,ag.out _ (ad.out.new aA.out) ((aA.out.block _ (zc am.out)).trans am.out)⟩,rfl⟩) ?_
   clear I K;refine xt (fuel:=1) (fuel':=2) (i:=9) rfl (by kernel_rfl) rfl rfl (by rfl) ?_
   intro K I;refine zY (.tmp 33) (.tmp 41) rfl (by rfl) w.heap.size r9 ([PL]++zl os z 0 (frames.reverse.take i)) [FB] rfl z1 w ad.out.strs rfl rfl (by rw [List.length_append,ZW,List.length_take];simp;omega) ?_
   intro v9 z3 ai O;obtain ⟨n9,b9,c9,rfl⟩:=Z1 ai.row;have ax:Hid (ZR w (z3.setCell ⟨X,0,none⟩ (.slice b9 n9 c9)) X (Yz E m fault (.slice R frames.length U) out z (.slice bs x.length cs) A n y) (.pointer (some ⟨h,0,none⟩)) (.slice b9 n9 c9) ([PL]++zl os z 0 (frames.reverse.take i)++[FB])):=ad.out.put ai O;have bw:Hid _:=zk (ad.out.strs.row.alloc _) O ((Below.heap_alloc _ _ _ (zc ad.out.view)).trans ad.out.view) (by decide)
   have cJ:Hid _:=zk (ad.out.strs.row.alloc _) O ((Below.heap_alloc _ _ _ (zc ad.out.ptr)).trans ad.out.ptr) (by decide)
   have ak:Hid _:=zk (ad.out.strs.row.alloc _) O ((Below.heap_alloc _ _ _ (zc ad.out.box)).trans ad.out.box) (by decide)
   have bJ:Hid _:=zk (ad.out.strs.row.alloc _) O ((Below.heap_alloc _ _ _ (zc am.out)).trans am.out) (by decide)
   have ay:Hid (z3.cell? ⟨X,0,none⟩=some r9∧z3.cell? ⟨J.heap.size,0,none⟩=some (.string (za f.fn))∧z3.cell? ⟨J.heap.size,1,none⟩=some (.int .i64 f.line)∧z3.cell? ⟨J.heap.size,2,none⟩=some (.slice bu nv cu)∧z3.cell? ⟨w.heap.size,5,none⟩=some (.int .i64 z)∧z3.cell? ⟨w.heap.size+1,0,none⟩=some (.pointer (some ⟨h,0,none⟩))):=by
    obtain ⟨a0,a1,a2⟩:=Zg bJ.out;obtain ⟨-,-,-,-,-,b5,-,-,-,-⟩:=zu bw.out;exact ⟨zq ak.out,a0,a1,a2,b5,zq cJ.out⟩
   refine I.out _ _ (fun _=>⟨⟨z3,ay.out⟩,rfl⟩) ?_
   clear I K
   (try simp only [Act.put,List.setIfInBounds_toArray,List.set_cons_zero,List.set_cons_succ])
   refine zK (fuel:=0) (fuel':=1) (i:=10) rfl (by kernel_rfl) rfl rfl (by rfl) ?_
   intro K I;have au:=ay.out.1;have aS:=xg ak.out 0;go_simp;refine I.out _ _ (fun h=>absurd rfl h) ?_
   clear I K;refine Yu (by kernel_rfl) ?_
   clear x0 x1 x2 x3 x4 x5 au aS;rw [List.append_assoc,←bj.out] at ax;have ce:=c7.out.step rfl aH.out ad.out O ax.out;have bW:=ce.loop;have bC:=ax.out.strs.low;show ∃v w',_
   refine ⟨_,_,run_endRound none bW,rfl,?_⟩;rw [c4.out];exact ce.turn rfl ((Below.refl w.heap.size _).grown (grownBy_putObj' _ _ _) bC (fun k e=>by cases e;omega)) (fun b _ hb=>World.putObj_heap_other hb) (World.putObj_heap_same (zE bW))
  rintro e W3 ⟨⟨u3,rfl⟩,aU⟩;have aw:=aU.loop;have bN:=aU.wD;obtain ⟨r3,cd⟩:=aU.lin;refine ⟨r0.pending,_,run_endLoop (P:=Tryz.prog) aw (by rw [aG];simp),?_⟩
  have a6:=aU.turn (ob':=.loop { r0 with state:=.exhausted }) (W':=W3.putObj (D+1) (.loop { r0 with state:=.exhausted })) rfl ((Below.refl w.heap.size W3).grown (grownBy_putObj' W3 _ _) cd.strs.low (fun k e=>by cases e;omega)) (fun b _ hb=>World.putObj_heap_other hb) (World.putObj_heap_same (zE aw))
  generalize W3.putObj (D+1) (.loop { r0 with state:=.exhausted })=W4 at a6 ⊢;obtain ⟨r4,aI⟩:=a6.lin;rw [show frames.reverse.take frames.length=frames.reverse by rw [←List.length_reverse,List.take_length]] at aI
  obtain ⟨L1,a5⟩:∃L1,L1=[PL]++zl os z 0 frames.reverse:=⟨_,rfl⟩;rw [←a5] at aI;have ad:Hid (L1=[PL]++zl os z 0 frames.reverse):=a5
  have bc:Hid (L1.length≤1048577):=by
   have:=HS.out.nframes
   simp only at this;show _≤_
   rw [a5,List.length_append,ZW,List.length_reverse]
   simp
   omega
  have aQ:Hid (ZR w W4 X (Yz E m fault (.slice R frames.length U) out z (.slice bs x.length cs) A n y) (.pointer (some ⟨h,0,none⟩)) r4 L1):=aI;have aE:Hid (W4.heap[D]?=some (.deferred (some []))):=a6.dfr;have cP:Hid (w.heap.size≤D):=bN;obtain ⟨p0,p1,p2,p3,p4,p5,p6,p7,p8,p9⟩:=zu aI.view;have co:=YM out W4 HS.out.out (HT.out.below aI.strs.below (Nat.le_refl _));obtain ⟨B,ao⟩:∃B,B=YH out:=⟨_,rfl⟩;have di:B.length≤4:=by rw [ao];exact Vk out
  rw [←ao] at co;have aO:Hid (B=YH out):=ao;clear aU a6 cd aI aw a5 ao bN bz;rw [hpe];show Exit.inBlock 1 _ Exit.normal _ W4
  clear hpe aG htm hpa has hbo;go_wp2_with fail
  refine co.mono ?_;clear co p0 p1 p2 p3 p4 p5 p6 p7 p8 p9;rintro e w8 ⟨df,rfl,bP⟩;have cA:=bP.in.at;obtain ⟨bo,co,rfl,cy,cw,bi⟩:=cA;have cr:Hid (∀i (hi:i<B.length),∃b o,bo=some ⟨b,o,none⟩∧W4.heap.size≤b∧b<w8.heap.size∧xS w8 b (o+i*1) B[i]):=bi;have aq:=bP.below
  have bD:YN w w8 w8 X (fun q=>(∃o,bo=some ⟨q,o,none⟩∧W4.heap.size≤q∧q<w8.heap.size)∨q=D) (Yz E m fault (.slice R frames.length U) out z (.slice bs x.length cs) A n y) (.pointer (some ⟨h,0,none⟩)) r4 L1:=by
   have cI:w8.heap[D]?=some (.deferred (some [])):=(aq.block _ (zE aE.out)).trans aE.out;refine ⟨aQ.out.new aq,fun _ _=>rfl,?_,Nat.le_refl _,?_,?_⟩
   ·rintro q (⟨o,-,-,hq⟩ | rfl)
    ·exact hq
    ·exact zE cI
   ·intro q e hq
    rcases hq with ⟨o,-,hq,-⟩ | rfl
    ·have:=(aQ.out.strs.row.lt q e).2
     omega
    ·obtain ⟨dg,hc⟩:=Zh aQ.out.strs.row e
     rw [aE.out] at hc;cases hc
   ·rintro (⟨o,-,hq,-⟩ | e)
    ·have:=zc aQ.out.box
     omega
    ·have hc:=aQ.out.box
     rw [e,aE.out] at hc;cases hc
  obtain ⟨G,hG⟩:∃G:Nat→Prop,G=fun q=>(∃o,bo=some ⟨q,o,none⟩∧W4.heap.size≤q∧q<w8.heap.size)∨q=D:=⟨_,rfl⟩
  have cM:Hid (∀b o,bo=some ⟨b,o,none⟩→W4.heap.size≤b→b<w8.heap.size→G b):=fun b o e h1 h2=>by rw [hG];exact .inl ⟨o,e,h1,h2⟩
  have b1:Hid (G D):=by show G D;rw [hG];exact .inr rfl
  rw [←hG] at bD;have cL:Hid _:=bD;have cQ:Hid (w8.heap[D]?=some (.deferred (some []))):=(aq.block _ (zE aE.out)).trans aE.out;clear hG;clear bP bi aq bD cy cw;go_wp2
  go_loopw [48] (fun vi wr=>∃(i:Nat) (r:Value),i≤B.length∧vi=.int .i64 (i:Int)∧YN w w8 wr X G (Yz E m fault (.slice R frames.length U) out z (.slice bs x.length cs) A n y) (.pointer (some ⟨h,0,none⟩)) r (L1++(B.take i).map fun s=>zB ([124,32]++s))) (fun vi _=>B.length-(intOf vi).toNat)
  case atStart=>exact ⟨0,r4,Nat.zero_le _,rfl,by simpa using cL.out⟩
  case round =>
   obtain ⟨i,r9,hi,rfl,hj⟩:=hrel;have HJ:Hid (YN w w8 wr X G (Yz E m fault (.slice R frames.length U) out z (.slice bs x.length cs) A n y) (.pointer (some ⟨h,0,none⟩)) r9 (L1++(B.take i).map fun s=>zB ([124,32]++s))):=hj
   clear hj
   by_cases hlt:i<B.length
   ·have bt:(i:Int)<B.length:=by omega
    obtain ⟨b,o,bh,c5,cO,hc⟩:=cr.out i hlt;have db:=cM.out b o bh c5 cO;subst bh
    have aP:wr.cell? ⟨b,o+i,none⟩=some (.string (za B[i])):=by
     have h1:wr.cell? ⟨b,o+i*1,none⟩=some (.string (za B[i])):=(World.cell?_of_block (HJ.out.kept b db)).trans hc
     simpa only [Nat.mul_one] using h1
    have cR:=Vj out B[i] (by rw [←aO.out];exact List.getElem_mem hlt)
    have ah:Hid ((B.take (i+1)).map (fun s=>zB ([124,32]++s))=(B.take i).map (fun s=>zB ([124,32]++s))++[zB ([124,32]++B[i])]):=Xd _ B hlt
    obtain ⟨s,hs⟩:∃s,s=B[i]:=⟨_,rfl⟩;rw [←hs] at aP cR ah;have cE:=HS.out.out;simp only at cE
    have aB:Hid ((L1++(B.take i).map fun s=>zB ([124,32]++s)).length≤2000000):=by
     have:=bc.out
     show _≤_
     rw [List.length_append,List.length_map,List.length_take];omega
    obtain ⟨LB,aD⟩:∃LB,LB=zB ([124,32]++s):=⟨_,rfl⟩;rw [←aD] at ah
    have cW:Hid (LB=zB ([[124,32],s]:List (List UInt8)).flatten):=by
     show _=_
     rw [aD];simp
    obtain ⟨PR,aj⟩:∃PR,PR=(L1++(B.take i).map fun s=>zB ([124,32]++s)):=⟨_,rfl⟩
    have aR:Hid (L1++(B.take (i+1)).map (fun s=>zB ([124,32]++s))=PR++[LB]):=by
     show _=_
     rw [ah.out,aj,List.append_assoc]
    rw [←aj] at HJ aB;clear hs aD aj hc ah
    go_upto_region 13 with fail
    clear aP;have au:=zq HJ.out.lin.box;have x0:∀c:zD fun W=>W.cell? ⟨X,0,none⟩=some r9,c.1.cell? ⟨X,0,none⟩=some r9:=fun c=>c.2
    haveI aJ:Nonempty (zD fun W=>W.cell? ⟨X,0,none⟩=some r9):=⟨⟨wr,au⟩⟩
    refine Y1 6 (n:=7) (S:=fun w'=>∃c:zD fun W=>W.cell? ⟨X,0,none⟩=some r9,w'=c.1) (by kernel_rfl) rfl rfl ?_
    have ae:Hid (Below wr.heap.size wr wr.drew):=(Below.refl _ _).drew;obtain ⟨zd,ap⟩:∃zd,zd=wr.drew:=⟨_,rfl⟩;rw [←ap] at ae ⊢;have al:Hid (YN w w8 zd X G (Yz E m fault (.slice R frames.length U) out z (.slice bs x.length cs) A n y) (.pointer (some ⟨h,0,none⟩)) r9 PR):=HJ.out.new ae.out;clear ap au;refine xr (fuel:=5) (fuel':=7) (idx:=[0,1]) (by kernel_rfl) rfl rfl rfl (fun _ _ _ _ _ h=>h) ⟨⟨zd,zq al.out.lin.box⟩,rfl⟩ ?_
    show wpQuiet _ _ _ _ [_,_] _
    iterate 2 (go_big_quiet_step (fail))
    refine wpQuiet_nil ?_;refine zK (fuel:=4) (fuel':=5) (i:=2) rfl (by kernel_rfl) rfl rfl (by rfl) ?_
    intro K I;go_simp;have da:Hid (YN w w8 (zd.alloc (.cells #[.string ⟨#[124,32]⟩,.string (za s)] 9)) X G (Yz E m fault (.slice R frames.length U) out z (.slice bs x.length cs) A n y) (.pointer (some ⟨h,0,none⟩)) r9 PR):=al.out.new ((Below.refl _ _).alloc (Nat.le_refl _) _);refine I.out _ _ (fun _=>⟨⟨_,zq da.out.lin.box⟩,rfl⟩) ?_
    clear I K;refine zK (fuel:=3) (fuel':=4) (i:=3) rfl (by kernel_rfl) rfl rfl (by rfl) ?_
    intro K I;go_simp;have cl:=yq [[124,32],s] zd (by simp) (by simp;omega)
    rw [←cW.out] at cl;refine cl.mono ?_;clear cl;rintro e z1 ⟨rfl,hb⟩;have F:Hid (YN w w8 z1 X G (Yz E m fault (.slice R frames.length U) out z (.slice bs x.length cs) A n y) (.pointer (some ⟨h,0,none⟩)) r9 PR):=al.out.new hb;clear hb
    (try go_simp)
    refine I.out _ _ (fun _=>⟨⟨z1,zq F.out.lin.box⟩,rfl⟩) ?_
    clear I K;refine zK (fuel:=2) (fuel':=3) (i:=4) rfl (by kernel_rfl) rfl rfl (by rfl) ?_
    intro K I;go_simp;have cS:Hid (YN w w8 (z1.alloc (.cells #[.string (za LB)] 9)) X G (Yz E m fault (.slice R frames.length U) out z (.slice bs x.length cs) A n y) (.pointer (some ⟨h,0,none⟩)) r9 PR):=F.out.new ((Below.refl _ _).alloc (Nat.le_refl _) _);refine I.out _ _ (fun _=>⟨⟨_,zq cS.out.lin.box⟩,rfl⟩) ?_
    clear I K;refine xt (fuel:=1) (fuel':=2) (i:=5) rfl (by kernel_rfl) rfl rfl (by rfl) ?_
    intro K I;refine zO (.tmp 52) (.tmp 56) rfl (by rfl) w.heap.size r9 PR [LB] rfl z1 w F.out.lin.strs rfl rfl (by have:=aB.out;simp;omega) ?_
    intro v9 z3 ai O af;obtain ⟨n9,b9,c9,rfl⟩:=Z1 ai.row;have ax:Hid (YN w w8 (z3.setCell ⟨X,0,none⟩ (.slice b9 n9 c9)) X G (Yz E m fault (.slice R frames.length U) out z (.slice bs x.length cs) A n y) (.pointer (some ⟨h,0,none⟩)) (.slice b9 n9 c9) (PR++[LB])):=F.out.put ai O af;have ak:Hid _:=zk (F.out.lin.strs.row.alloc _) O ((Below.heap_alloc _ _ _ (zc F.out.lin.box)).trans F.out.lin.box) (by decide)
    refine I.out _ _ (fun _=>⟨⟨z3,zq ak.out⟩,rfl⟩) ?_
    clear I K ai O af
    (try simp only [Act.put,List.setIfInBounds_toArray,List.set_cons_zero,List.set_cons_succ])
    refine zK (fuel:=0) (fuel':=1) (i:=6) rfl (by kernel_rfl) rfl rfl (by rfl) ?_
    intro K I;have au:=zq ak.out;have aS:=xg ak.out 0;go_simp;refine I.out _ _ (fun h=>absurd rfl h) ?_
    clear I K;refine Yu (by kernel_rfl) ?_
    clear x0 au aS aJ;go_wp2
    exact ⟨⟨i+1,_,by omega,by go_num,by rw [aR.out];exact ax.out⟩,by simp [intOf];omega⟩
   ·have bt:¬ (i:Int)<B.length:=by omega
    obtain rfl:i=B.length:=by omega
    rw [List.take_length] at HJ;obtain ⟨L2,a7⟩:∃L2,L2=L1++B.map fun s=>zB ([124,32]++s):=⟨_,rfl⟩
    rw [←a7] at HJ;have cK:Hid (L2=L1++B.map fun s=>zB ([124,32]++s)):=a7
    have bg:Hid (L2.length≤2000000):=by
     have:=bc.out
     show _≤_
     rw [a7,List.length_append,List.length_map];omega
    clear a7;obtain ⟨p0,p1,p2,p3,p4,p5,p6,p7,p8,p9⟩:=zu HJ.out.lin.view
    go_upto_region 15 with fail
    have c6:Hid (YN w w8 wr X G (Yz E m fault (.slice R frames.length U) out z (.slice bs x.length cs) A n y) (.pointer (some ⟨h,0,none⟩)) r9 L2):=HJ.out;clear HJ
    go_upto_region 16 with fail
    clear p0 p1 p2 p3 p4 p5 p6 p7 p8 p9;have dd:=HS.out.nstops;simp only at dd
    go_loopw [62] (fun vi wr=>∃(i:Nat) (r:Value),i≤x.length∧vi=.int .i64 (i:Int)∧YN w w8 wr X G (Yz E m fault (.slice R frames.length U) out z (.slice bs x.length cs) A n y) (.pointer (some ⟨h,0,none⟩)) r (L2++(x.take i).map Zb)) (fun vi _=>x.length-(intOf vi).toNat)
    case atStart=>exact ⟨0,r9,Nat.zero_le _,rfl,by simpa using c6.out⟩
    case round =>
     obtain ⟨i,r9,hi,rfl,hj⟩:=hrel;have HJ:Hid (YN w w8 wr X G (Yz E m fault (.slice R frames.length U) out z (.slice bs x.length cs) A n y) (.pointer (some ⟨h,0,none⟩)) r9 (L2++(x.take i).map Zb)):=hj;clear hj
     by_cases hlt:i<x.length
     ·have bt:(i:Int)<x.length:=by omega
      obtain ⟨b,o,rfl,-,bQ,e0,e1,e2,e3,e4⟩:=cG.out i hlt;have dc:Hid (Below w.heap.size w wr):=HJ.out.lin.strs.below;have aF:∀q,wr.cell? ⟨b,q,none⟩=w.cell? ⟨b,q,none⟩:=fun q=>zh dc.out bQ
      rw [←aF] at e0 e1 e2 e3 e4;have cB:Hid (xi x[i]):=HS.out.stops _ (List.getElem_mem hlt);have ah:Hid ((x.take (i+1)).map Zb=(x.take i).map Zb++[Zb x[i]]):=Xd _ x hlt;obtain ⟨st,bm⟩:∃st,st=x[i]:=⟨_,rfl⟩;rw [←bm] at e0 e1 e2 e3 e4 cB ah;obtain ⟨aa,Y,V,Z,ab⟩:=st;simp only at e0 e1 e2 e3 e4;have cC:Hid (∀W,Below w.heap.size w W→Calls Tryz.prog 29 #[uE ⟨aa,Y,V,Z,ab⟩] W fun e w'=>e=.returned (.string (za (Zb ⟨aa,Y,V,Z,ab⟩)))∧Below W.heap.size W w'):=fun W hW=>xu _ W cB.out (HT.out.below hW (Nat.le_refl _))
      obtain ⟨LB,aD⟩:∃LB,LB=Zb ⟨aa,Y,V,Z,ab⟩:=⟨_,rfl⟩;rw [←aD] at ah cC
      have aB:Hid ((L2++(x.take i).map Zb).length≤4000000):=by
       have:=bg.out
       show _≤_
       rw [List.length_append,List.length_map,List.length_take];omega
      obtain ⟨PR,aj⟩:∃PR,PR=L2++(x.take i).map Zb:=⟨_,rfl⟩
      have aR:Hid (L2++(x.take (i+1)).map Zb=PR++[LB]):=by
       show _=_
       rw [ah.out,aj,List.append_assoc]
      rw [←aj] at HJ aB;obtain ⟨ar,bR,az,cH,h5⟩:=Z5 wr (.cells #[.int .i64 aa,.int .i64 Y,.string (za V),.string (za Z),.bool ab] 82);have cU:Hid (ar=wr.alloc (.cells #[.int .i64 aa,.int .i64 Y,.string (za V),.string (za Z),.bool ab] 82)):=bR;have bv:Hid (ar.heap[wr.heap.size]?=some (.cells #[.int .i64 aa,.int .i64 Y,.string (za V),.string (za Z),.bool ab] 82 (0,0))):=h5;have bT:Hid (YN w w8 ar X G (Yz E m fault (.slice R frames.length U) out z (.slice (some ⟨b,o,none⟩) x.length cs) A n y) (.pointer (some ⟨h,0,none⟩)) r9 PR):=HJ.out.new az;clear bm aD aj ah bR az h5 cH aF
      go_upto_region 18 with fail
      rw [←cU.out];clear e0 e1 e2 e3 e4
      have ag:Hid (∀W,YN w w8 W X G (Yz E m fault (.slice R frames.length U) out z (.slice (some ⟨b,o,none⟩) x.length cs) A n y) (.pointer (some ⟨h,0,none⟩)) r9 PR→W.heap[wr.heap.size]?=some (.cells #[.int .i64 aa,.int .i64 Y,.string (za V),.string (za Z),.bool ab] 82 (0,0))→W.cell? ⟨X,0,none⟩=some r9∧W.cell? ⟨wr.heap.size,0,none⟩=some (.int .i64 aa)∧W.cell? ⟨wr.heap.size,1,none⟩=some (.int .i64 Y)∧W.cell? ⟨wr.heap.size,2,none⟩=some (.string (za V))∧W.cell? ⟨wr.heap.size,3,none⟩=some (.string (za Z))∧W.cell? ⟨wr.heap.size,4,none⟩=some (.bool ab)):=fun W hL hF=>by
       obtain ⟨a0,a1,a2,a3,a4⟩:=zU hF;exact ⟨zq hL.lin.box,a0,a1,a2,a3,a4⟩
      have x0:∀c:zD fun W=>W.cell? ⟨X,0,none⟩=some r9∧W.cell? ⟨wr.heap.size,0,none⟩=some (.int .i64 aa)∧W.cell? ⟨wr.heap.size,1,none⟩=some (.int .i64 Y)∧W.cell? ⟨wr.heap.size,2,none⟩=some (.string (za V))∧W.cell? ⟨wr.heap.size,3,none⟩=some (.string (za Z))∧W.cell? ⟨wr.heap.size,4,none⟩=some (.bool ab),c.1.cell? ⟨X,0,none⟩=some r9:=fun c=>c.2.1
      have x1:∀c:zD fun W=>W.cell? ⟨X,0,none⟩=some r9∧W.cell? ⟨wr.heap.size,0,none⟩=some (.int .i64 aa)∧W.cell? ⟨wr.heap.size,1,none⟩=some (.int .i64 Y)∧W.cell? ⟨wr.heap.size,2,none⟩=some (.string (za V))∧W.cell? ⟨wr.heap.size,3,none⟩=some (.string (za Z))∧W.cell? ⟨wr.heap.size,4,none⟩=some (.bool ab),c.1.cell? ⟨wr.heap.size,0,none⟩=some (.int .i64 aa):=fun c=>c.2.2.1
      have x2:∀c:zD fun W=>W.cell? ⟨X,0,none⟩=some r9∧W.cell? ⟨wr.heap.size,0,none⟩=some (.int .i64 aa)∧W.cell? ⟨wr.heap.size,1,none⟩=some (.int .i64 Y)∧W.cell? ⟨wr.heap.size,2,none⟩=some (.string (za V))∧W.cell? ⟨wr.heap.size,3,none⟩=some (.string (za Z))∧W.cell? ⟨wr.heap.size,4,none⟩=some (.bool ab),c.1.cell? ⟨wr.heap.size,1,none⟩=some (.int .i64 Y):=fun c=>c.2.2.2.1
      have x3:∀c:zD fun W=>W.cell? ⟨X,0,none⟩=some r9∧W.cell? ⟨wr.heap.size,0,none⟩=some (.int .i64 aa)∧W.cell? ⟨wr.heap.size,1,none⟩=some (.int .i64 Y)∧W.cell? ⟨wr.heap.size,2,none⟩=some (.string (za V))∧W.cell? ⟨wr.heap.size,3,none⟩=some (.string (za Z))∧W.cell? ⟨wr.heap.size,4,none⟩=some (.bool ab),c.1.cell? ⟨wr.heap.size,2,none⟩=some (.string (za V)):=fun c=>c.2.2.2.2.1
      have x4:∀c:zD fun W=>W.cell? ⟨X,0,none⟩=some r9∧W.cell? ⟨wr.heap.size,0,none⟩=some (.int .i64 aa)∧W.cell? ⟨wr.heap.size,1,none⟩=some (.int .i64 Y)∧W.cell? ⟨wr.heap.size,2,none⟩=some (.string (za V))∧W.cell? ⟨wr.heap.size,3,none⟩=some (.string (za Z))∧W.cell? ⟨wr.heap.size,4,none⟩=some (.bool ab),c.1.cell? ⟨wr.heap.size,3,none⟩=some (.string (za Z)):=fun c=>c.2.2.2.2.2.1
      have x5:∀c:zD fun W=>W.cell? ⟨X,0,none⟩=some r9∧W.cell? ⟨wr.heap.size,0,none⟩=some (.int .i64 aa)∧W.cell? ⟨wr.heap.size,1,none⟩=some (.int .i64 Y)∧W.cell? ⟨wr.heap.size,2,none⟩=some (.string (za V))∧W.cell? ⟨wr.heap.size,3,none⟩=some (.string (za Z))∧W.cell? ⟨wr.heap.size,4,none⟩=some (.bool ab),c.1.cell? ⟨wr.heap.size,4,none⟩=some (.bool ab):=fun c=>c.2.2.2.2.2.2
      haveI aJ:Nonempty (zD fun W=>W.cell? ⟨X,0,none⟩=some r9∧W.cell? ⟨wr.heap.size,0,none⟩=some (.int .i64 aa)∧W.cell? ⟨wr.heap.size,1,none⟩=some (.int .i64 Y)∧W.cell? ⟨wr.heap.size,2,none⟩=some (.string (za V))∧W.cell? ⟨wr.heap.size,3,none⟩=some (.string (za Z))∧W.cell? ⟨wr.heap.size,4,none⟩=some (.bool ab)):=⟨⟨ar,ag.out _ bT.out bv.out⟩⟩
      refine Y1 5 (n:=6) (S:=fun w'=>∃c:zD fun W=>W.cell? ⟨X,0,none⟩=some r9∧W.cell? ⟨wr.heap.size,0,none⟩=some (.int .i64 aa)∧W.cell? ⟨wr.heap.size,1,none⟩=some (.int .i64 Y)∧W.cell? ⟨wr.heap.size,2,none⟩=some (.string (za V))∧W.cell? ⟨wr.heap.size,3,none⟩=some (.string (za Z))∧W.cell? ⟨wr.heap.size,4,none⟩=some (.bool ab),w'=c.1) (by kernel_rfl) rfl rfl ?_
      have ae:Hid (Below ar.heap.size ar ar.drew):=(Below.refl _ _).drew;obtain ⟨zd,ap⟩:∃zd,zd=ar.drew:=⟨_,rfl⟩;rw [←ap] at ae ⊢;have al:Hid _:=bT.out.new ae.out;have bE:Hid _:=(ae.out.block _ (zc bv.out)).trans bv.out;clear ap;refine xr (fuel:=4) (fuel':=6) (idx:=[0,1]) (by kernel_rfl) rfl rfl rfl (fun _ _ _ _ _ h=>h) ⟨⟨zd,ag.out _ al.out bE.out⟩,rfl⟩ ?_
      show wpQuiet _ _ _ _ [_,_] _
      iterate 2 (go_big_quiet_step (fail))
      refine wpQuiet_nil ?_;refine zK (fuel:=3) (fuel':=4) (i:=2) rfl (by kernel_rfl) rfl rfl (by rfl) ?_
      intro K I;go_simp;refine (cC.out zd al.out.lin.strs.below).mono ?_;rintro e z1 ⟨rfl,hb⟩;have F:Hid _:=al.out.new hb;have am:Hid _:=(hb.block _ (zc bE.out)).trans bE.out;clear hb
      (try go_simp)
      refine I.out _ _ (fun _=>⟨⟨z1,ag.out _ F.out am.out⟩,rfl⟩) ?_
      clear I K;refine zK (fuel:=2) (fuel':=3) (i:=3) rfl (by kernel_rfl) rfl rfl (by rfl) ?_
      intro K I;go_simp;have aA:Hid (Below z1.heap.size z1 (z1.alloc (.cells #[.string (za LB)] 9))):=(Below.refl _ _).alloc (Nat.le_refl _) _;refine I.out _ _ (fun _=>⟨⟨_,ag.out _ (F.out.new aA.out) ((aA.out.block _ (zc am.out)).trans am.out)⟩,rfl⟩) ?_
      clear I K;refine xt (fuel:=1) (fuel':=2) (i:=4) rfl (by kernel_rfl) rfl rfl (by rfl) ?_
      intro K I;refine zO (.tmp 66) (.tmp 69) rfl (by rfl) w.heap.size r9 PR [LB] rfl z1 w F.out.lin.strs rfl rfl (by have:=aB.out;simp;omega) ?_
      intro v9 z3 ai O af;obtain ⟨n9,b9,c9,rfl⟩:=Z1 ai.row;have ax:Hid (YN w w8 (z3.setCell ⟨X,0,none⟩ (.slice b9 n9 c9)) X G (Yz E m fault (.slice R frames.length U) out z (.slice (some ⟨b,o,none⟩) x.length cs) A n y) (.pointer (some ⟨h,0,none⟩)) (.slice b9 n9 c9) (PR++[LB])):=F.out.put ai O af;have ak:Hid _:=zk (F.out.lin.strs.row.alloc _) O ((Below.heap_alloc _ _ _ (zc F.out.lin.box)).trans F.out.lin.box) (by decide)
      have bJ:Hid _:=zk (F.out.lin.strs.row.alloc _) O ((Below.heap_alloc _ _ _ (zc am.out)).trans am.out) (by decide)
      have ay:Hid (z3.cell? ⟨X,0,none⟩=some r9∧z3.cell? ⟨wr.heap.size,0,none⟩=some (.int .i64 aa)∧z3.cell? ⟨wr.heap.size,1,none⟩=some (.int .i64 Y)∧z3.cell? ⟨wr.heap.size,2,none⟩=some (.string (za V))∧z3.cell? ⟨wr.heap.size,3,none⟩=some (.string (za Z))∧z3.cell? ⟨wr.heap.size,4,none⟩=some (.bool ab)):=by
       obtain ⟨a0,a1,a2,a3,a4⟩:=zU bJ.out;exact ⟨zq ak.out,a0,a1,a2,a3,a4⟩
      refine I.out _ _ (fun _=>⟨⟨z3,ay.out⟩,rfl⟩) ?_
      clear I K ai O af
      (try simp only [Act.put,List.setIfInBounds_toArray,List.set_cons_zero,List.set_cons_succ])
      refine zK (fuel:=0) (fuel':=1) (i:=5) rfl (by kernel_rfl) rfl rfl (by rfl) ?_
      intro K I;have au:=zq ak.out;have aS:=xg ak.out 0;go_simp;refine I.out _ _ (fun h=>absurd rfl h) ?_
      clear I K;refine Yu (by kernel_rfl) ?_
      clear x0 x1 x2 x3 x4 x5 au aS aJ;go_wp2
      exact ⟨⟨i+1,_,by omega,by go_num,by rw [aR.out];exact ax.out⟩,by simp [intOf];omega⟩
     ·have bt:¬ (i:Int)<x.length:=by omega
      obtain rfl:i=x.length:=by omega
      rw [List.take_length] at HJ;obtain ⟨PR,aj⟩:∃PR,PR=L2++x.map Zb:=⟨_,rfl⟩;rw [←aj] at HJ;have aR:Hid (PR=L2++x.map Zb):=aj
      have aB:Hid (PR.length≤4000000):=by
       have:=bg.out
       show _≤_
       rw [aj,List.length_append,List.length_map];omega
      clear aj
      go_upto_region 20 with fail
      have ag:Hid (∀W,YN w w8 W X G (Yz E m fault (.slice R frames.length U) out z (.slice bs x.length cs) A n y) (.pointer (some ⟨h,0,none⟩)) r9 PR→W.cell? ⟨X,0,none⟩=some r9∧W.cell? ⟨w.heap.size,7,none⟩=some (.int .i64 A)∧W.cell? ⟨w.heap.size,8,none⟩=some (.int .i64 n)∧W.cell? ⟨w.heap.size,9,none⟩=some (.string (za y))):=fun W hL=>by
       obtain ⟨-,-,-,-,-,-,-,b7,b8,b9⟩:=zu hL.lin.view;exact ⟨zq hL.lin.box,b7,b8,b9⟩
      have x0:∀c:zD fun W=>W.cell? ⟨X,0,none⟩=some r9∧W.cell? ⟨w.heap.size,7,none⟩=some (.int .i64 A)∧W.cell? ⟨w.heap.size,8,none⟩=some (.int .i64 n)∧W.cell? ⟨w.heap.size,9,none⟩=some (.string (za y)),c.1.cell? ⟨X,0,none⟩=some r9:=fun c=>c.2.1
      have x1:∀c:zD fun W=>W.cell? ⟨X,0,none⟩=some r9∧W.cell? ⟨w.heap.size,7,none⟩=some (.int .i64 A)∧W.cell? ⟨w.heap.size,8,none⟩=some (.int .i64 n)∧W.cell? ⟨w.heap.size,9,none⟩=some (.string (za y)),c.1.cell? ⟨w.heap.size,7,none⟩=some (.int .i64 A):=fun c=>c.2.2.1
      have x2:∀c:zD fun W=>W.cell? ⟨X,0,none⟩=some r9∧W.cell? ⟨w.heap.size,7,none⟩=some (.int .i64 A)∧W.cell? ⟨w.heap.size,8,none⟩=some (.int .i64 n)∧W.cell? ⟨w.heap.size,9,none⟩=some (.string (za y)),c.1.cell? ⟨w.heap.size,8,none⟩=some (.int .i64 n):=fun c=>c.2.2.2.1
      have x3:∀c:zD fun W=>W.cell? ⟨X,0,none⟩=some r9∧W.cell? ⟨w.heap.size,7,none⟩=some (.int .i64 A)∧W.cell? ⟨w.heap.size,8,none⟩=some (.int .i64 n)∧W.cell? ⟨w.heap.size,9,none⟩=some (.string (za y)),c.1.cell? ⟨w.heap.size,9,none⟩=some (.string (za y)):=fun c=>c.2.2.2.2
      haveI aJ:Nonempty (zD fun W=>W.cell? ⟨X,0,none⟩=some r9∧W.cell? ⟨w.heap.size,7,none⟩=some (.int .i64 A)∧W.cell? ⟨w.heap.size,8,none⟩=some (.int .i64 n)∧W.cell? ⟨w.heap.size,9,none⟩=some (.string (za y))):=⟨⟨wr,ag.out _ HJ.out⟩⟩
      refine ZZ (n:=8) (S:=fun w'=>∃c:zD fun W=>W.cell? ⟨X,0,none⟩=some r9∧W.cell? ⟨w.heap.size,7,none⟩=some (.int .i64 A)∧W.cell? ⟨w.heap.size,8,none⟩=some (.int .i64 n)∧W.cell? ⟨w.heap.size,9,none⟩=some (.string (za y)),w'=c.1) (by kernel_rfl) rfl rfl ?_
      have ae:Hid (Below wr.heap.size wr wr.drew):=(Below.refl _ _).drew;obtain ⟨zd,ap⟩:∃zd,zd=wr.drew:=⟨_,rfl⟩;rw [←ap] at ae ⊢;have al:Hid _:=HJ.out.new ae.out;clear ap;refine Zv (fuel:=5) (fuel':=8) (idx:=[0,1,2]) (by kernel_rfl) rfl rfl rfl (fun _ _ _ _ _ h=>h) ⟨⟨zd,ag.out _ al.out⟩,rfl⟩ ?_
      show wpQuiet _ _ _ _ [_,_,_] _
      iterate 3 (go_big_quiet_step (fail))
      refine wpQuiet_nil ?_;refine zR (fuel:=4) (fuel':=5) (i:=3) rfl (by kernel_rfl) rfl rfl (by rfl) ?_
      intro K I;go_simp;refine (YL A n y zd HS.out.err HS.out.n HS.out.says (HT.out.below al.out.lin.strs.below (Nat.le_refl _))).mono ?_;rintro e z1 ⟨rfl,hb⟩;have F:Hid _:=al.out.new hb;clear hb
      (try go_simp)
      refine I.out _ _ ⟨⟨z1,ag.out _ F.out⟩,rfl⟩ ?_;clear I K;refine zR (fuel:=3) (fuel':=4) (i:=4) rfl (by kernel_rfl) rfl rfl (by rfl) ?_
      intro K I;go_simp;have aA:Hid (Below z1.heap.size z1 (z1.alloc (.cells #[.string (za (ZB A n y))] 9))):=(Below.refl _ _).alloc (Nat.le_refl _) _;refine I.out _ _ ⟨⟨_,ag.out _ (F.out.new aA.out)⟩,rfl⟩ ?_;clear I K;refine xf (fuel:=2) (fuel':=3) (i:=5) rfl (by kernel_rfl) rfl rfl (by rfl) ?_
      intro K I;refine zO (.tmp 72) (.tmp 76) rfl (by rfl) w.heap.size r9 PR [ZB A n y] rfl z1 w F.out.lin.strs rfl rfl (by have:=aB.out;simp;omega) ?_
      intro v9 z3 ai O af;have cN:Hid (zj w.heap.size w z3 v9 (PR++[ZB A n y])):=ai;have bw:Hid _:=zk (F.out.lin.strs.row.alloc _) O ((Below.heap_alloc _ _ _ (zc F.out.lin.view)).trans F.out.lin.view) (by decide)
      have ak:Hid _:=zk (F.out.lin.strs.row.alloc _) O ((Below.heap_alloc _ _ _ (zc F.out.lin.box)).trans F.out.lin.box) (by decide)
      have ay:Hid (z3.cell? ⟨X,0,none⟩=some r9∧z3.cell? ⟨w.heap.size,7,none⟩=some (.int .i64 A)∧z3.cell? ⟨w.heap.size,8,none⟩=some (.int .i64 n)∧z3.cell? ⟨w.heap.size,9,none⟩=some (.string (za y))):=by
       obtain ⟨-,-,-,-,-,-,-,b7,b8,b9⟩:=zu bw.out;exact ⟨zq ak.out,b7,b8,b9⟩
      have c3:Hid (z3.heap[D]?=some (.deferred (some []))):=by
       have cb:z1.heap[D]?=some (.deferred (some [])):=(F.out.kept D b1.out).trans cQ.out;have cD:(z1.alloc (.cells #[.string (za (ZB A n y))] 9)).heap[D]?=some (.deferred (some [])):=(Below.heap_alloc _ _ _ (zE cb)).trans cb;exact (O.block D (zE cD) (fun e=>F.out.away D e.symm b1.out)).trans cD
      refine I.out _ _ ⟨⟨z3,ay.out⟩,rfl⟩ ?_;clear I K ai O af
      (try simp only [Act.put,List.setIfInBounds_toArray,List.set_cons_zero,List.set_cons_succ])
      refine Zv (fuel:=0) (fuel':=2) (idx:=[6,7]) (by kernel_rfl) rfl rfl rfl (fun _ _ _ _ _ h=>h) ⟨⟨z3,ay.out⟩,rfl⟩ ?_
      show wpQuiet _ _ _ _ [_,_] _
      iterate 2 (go_big_quiet_step (fail))
      refine wpQuiet_nil ?_;refine yo (by kernel_rfl) ?_
      clear x0 x1 x2 x3 aJ;go_wp2
      have I:=c3.out;refine ⟨by simp,.inl ⟨_,_,rfl,run_takeDeferred I,?_⟩⟩
      refine ⟨_,results_tmp2 rfl _ _ _,.inr ⟨HM.out,v9,rfl,?_⟩⟩;have bZ:=cN.out.putObj (o':=.deferred none) I rfl cP.out
      have e:xj os ⟨⟨E,m,fault,frames,out⟩,z,x,⟨A,n,y⟩⟩=PR++[ZB A n y]:=by
       rw [aR.out,cK.out,ad.out,c8.out,aO.out];rfl
      rw [e];exact bZ
end Go.Proofs.YtbjndgachcdbcaaGreatDoor
