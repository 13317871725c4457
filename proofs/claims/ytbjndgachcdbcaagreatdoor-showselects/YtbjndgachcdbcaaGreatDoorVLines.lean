import Derived.Test.YtbjndgachcdbcaaGreatDoorMC18
import Derived.Test.YtbjndgachcdbcaaGreatDoorVMixL
import Derived.Test.YtbjndgachcdbcaaGreatDoorVFrame
import Derived.Test.YtbjndgachcdbcaaGreatDoorVStop
import Derived.Test.YtbjndgachcdbcaaGreatDoorVReply
import Derived.Test.YtbjndgachcdbcaaGreatDoorVOut
import Derived.Test.YtbjndgachcdbcaaGreatDoorVMay
import Derived.Deep.DeepCutAuto
namespace Go.Proofs.YtbjndgachcdbcaaGreatDoor
open Go.RowKit Go.Shelf
set_option maxHeartbeats 16000000
set_option maxRecDepth 100000
attribute [local go_sem] Oper.semAt_some
structure Z1 (w W:World) (X:Nat) (xs:Array Value) (hp r:Value) (l:List (List UInt8)):Prop where
 view:W.heap[w.heap.size]?=some (.cells xs 35 (0,0))
 ptr:W.heap[w.heap.size+1]?=some (.cells #[hp] 37 (0,0))
 box:W.heap[X]?=some (.cells #[r] 41 (0,0))
 low:w.heap.size≤X
 strs:zm w.heap.size w W r l
theorem Z1.new {w W W':World} {X:Nat} {xs:Array Value} {hp r:Value} {l:List (List UInt8)} (h:Z1 w W X xs hp r l) (hb:Below W.heap.size W W'):Z1 w W' X xs hp r l :=
 ⟨(hb.block _ (zc h.view)).trans h.view,(hb.block _ (zc h.ptr)).trans h.ptr,(hb.block _ (zc h.box)).trans h.box,h.low,h.strs.new hb⟩
theorem zz {w:World} {N:Nat} {x0:Value} {ty:TypeId} (h:w.heap[N]?=some (.cells #[x0] ty (0,0))):w.cell? ⟨N,0,none⟩=some x0:=by
 simp only [World.cell?,h];rfl
theorem Z1.put {w W W3:World} {X:Nat} {xs:Array Value} {hp r v:Value} {l m:List (List UInt8)} {o:Obj} (h:Z1 w W X xs hp r l) (hj:zm w.heap.size w W3 v m) (hg:(W.alloc o).grownBy W3 r.ownBlock):Z1 w (W3.setCell ⟨X,0,none⟩ v) X xs hp v m:=by
 have q:=zn (h.strs.row.alloc _) hg ((Below.heap_alloc _ _ _ (zc h.view)).trans h.view) (by decide)
 have c:=zn (h.strs.row.alloc _) hg ((Below.heap_alloc _ _ _ (zc h.ptr)).trans h.ptr) (by decide)
 have b:=zn (h.strs.row.alloc _) hg ((Below.heap_alloc _ _ _ (zc h.box)).trans h.box) (by decide)
 have y:w.heap.size≠X:=fun e=>by rw [e,b] at q;simp at q
 have A:w.heap.size+1≠X:=fun e=>by rw [e,b] at c;simp at c
 refine ⟨(Below.heap_setCell _ _ _ _ (by simpa using y)).trans q,(Below.heap_setCell _ _ _ _ (by simpa using A)).trans c,?_,h.low,⟨?_,hj.below.setCell (p:=⟨X,0,none⟩) h.low _,by simpa using hj.low⟩⟩
 ·have:=heap_setCell_same W3 X 0 #[r] 41 v b
  simpa using this
 ·refine ownsRow_setCell_other hj.row (a:=⟨X,0,none⟩) (fun e=>?_) _
  obtain ⟨z,u⟩:=Zt hj.row e;rw [b] at u
  simp at u
theorem zs {w:World} {N:Nat} {x0 x1 x2 x3 x4 x5 x6 x7 x8 x9:Value} {ty:TypeId} (h:w.heap[N]?=some (.cells #[x0,x1,x2,x3,x4,x5,x6,x7,x8,x9] ty (0,0))):w.cell? ⟨N,0,none⟩=some x0∧w.cell? ⟨N,1,none⟩=some x1∧w.cell? ⟨N,2,none⟩=some x2∧w.cell? ⟨N,3,none⟩=some x3∧w.cell? ⟨N,4,none⟩=some x4∧w.cell? ⟨N,5,none⟩=some x5∧w.cell? ⟨N,6,none⟩=some x6∧w.cell? ⟨N,7,none⟩=some x7∧w.cell? ⟨N,8,none⟩=some x8∧w.cell? ⟨N,9,none⟩=some x9:=by
 refine ⟨?_,?_,?_,?_,?_,?_,?_,?_,?_,?_⟩ <;> (simp only [World.cell?,h];rfl)
theorem zH {w:World} {N:Nat} {o:Obj} (h:w.heap[N]?=some o):N<w.heap.size:=(Array.getElem?_eq_some_iff.1 h).1
theorem Yl (os:List Ob) (sel:Int):∀(k:Nat) (l:List Fr) (f:Fr),zl os sel k (l++[f])=zl os sel k l++[zL os f (decide (((k+l.length:Nat):Int)=sel))]
 | k,[],f=>by simp [zl]
 | k,x::t,f=>by
  rw [List.cons_append,zl,Yl os sel (k+1) t f,zl,List.cons_append,List.length_cons,show k+1+t.length=k+(t.length+1) by omega]
theorem Zi (os:List Ob) (sel:Int):∀(k:Nat) (l:List Fr),(zl os sel k l).length=l.length
 | _,[]=>rfl
 | k,_::t=>by rw [zl,List.length_cons,Zi os sel (k+1) t,List.length_cons]
theorem xO (os:List Ob) (sel:Int) (frames:List Fr) {i k:Nat} (hk:k<frames.length) (h:frames.length=k+1+i):zl os sel 0 (frames.reverse.take (i+1))=zl os sel 0 (frames.reverse.take i)++[zL os frames[k] (decide ((i:Int)=sel))]:=by
 have c:i<frames.reverse.length:=by rw [List.length_reverse];omega
 have e:frames.reverse.take i++[frames.reverse[i]]=frames.reverse.take (i+1):=List.take_append_getElem c
 have m:frames.reverse[i]=frames[k]:=by
  rw [List.getElem_reverse]
  congr 1
  omega
 have b:(frames.reverse.take i).length=i:=by rw [List.length_take];omega
 rw [←e,Yl,m,b,Nat.zero_add]
abbrev yN (pos status fault:Int) (vf:Value) (out:List UInt8) (sel:Int) (vs:Value) (err n:Int) (says:List UInt8):Array Value:=#[.int .i64 pos,.int .i64 status,.int .i64 fault,vf,.string (za out),.int .i64 sel,vs,.int .i64 err,.int .i64 n,.string (za says)]
theorem Z1.turn {w W W':World} {X:Nat} {xs:Array Value} {hp r:Value} {l:List (List UInt8)} (h:Z1 w W X xs hp r l) (hB:Below w.heap.size W W') (hk:∀(b:Nat) (c:Array Value) (ty:TypeId) (z:Nat × Nat),W.heap[b]?=some (.cells c ty z)→W'.heap[b]?=W.heap[b]?):Z1 w W' X xs hp r l :=
 ⟨(hk _ _ _ _ h.view).trans h.view,(hk _ _ _ _ h.ptr).trans h.ptr,(hk _ _ _ _ h.box).trans h.box,h.low,
  ⟨zh h.strs.row fun k e _=>by obtain ⟨c,m⟩:=Zt h.strs.row e;exact hk _ _ _ _ m,h.strs.below.trans hB,Nat.le_trans h.strs.low hB.size⟩⟩
structure uH (w:World) (X D Bn:Nat) (xs:Array Value) (hp sl:Value) (os:List Ob) (sel:Int) (frames:List Fr) (pl:List UInt8) (ob:Obj) (i:Nat) (W:World):Prop where
 lin:∃r,Z1 w W X xs hp r ([pl]++zl os sel 0 (frames.reverse.take i))
 dfr:W.heap[D]?=some (.deferred (some []))
 loop:W.heap[D+1]?=some ob
 itr:W.heap[Bn]?=some (.cells #[sl] 27 (0,0))
 wD:w.heap.size≤D
theorem uH.turn {w:World} {X D Bn:Nat} {xs:Array Value} {hp sl:Value} {os:List Ob} {sel:Int} {frames:List Fr} {pl:List UInt8} {ob ob':Obj} {i:Nat} {W W':World} (h:uH w X D Bn xs hp sl os sel frames pl ob i W) (hob:ob.isCells=false)
  (hB:Below w.heap.size W W') (hk:∀b,b<W.heap.size→b≠D+1→W'.heap[b]?=W.heap[b]?) (h4:W'.heap[D+1]?=some ob'):uH w X D Bn xs hp sl os sel frames pl ob' i W':=by
 have c:∀(k:Nat) (cur:Array Value) (e:TypeId) (z:Nat × Nat),W.heap[k]?=some (Obj.cells cur e z)→W'.heap[k]?=W.heap[k]?:=fun k cur e z hh=>by
  refine hk k (Array.getElem?_eq_some_iff.1 hh).1 (fun e'=>?_)
  have m:=h.loop;subst e';rw [hh] at m;cases m
  cases hob
 obtain ⟨r,o⟩:=h.lin;exact ⟨⟨r,o.turn hB c⟩,(hk _ (Array.getElem?_eq_some_iff.1 h.dfr).1 (by omega)).trans h.dfr,h4,(c _ _ _ _ h.itr).trans h.itr,h.wD⟩
theorem uH.step {w:World} {X D Bn:Nat} {xs:Array Value} {hp sl r v:Value} {os:List Ob} {sel:Int} {frames:List Fr} {pl:List UInt8} {ob o:Obj} {i:Nat} {Wb z1 z3:World} {l:List (List UInt8)} (h:uH w X D Bn xs hp sl os sel frames pl ob i Wb) (hob:ob.isCells=false)
  (hb:Below Wb.heap.size Wb z1) (hL:Z1 w z1 X xs hp r l) (hg:(z1.alloc o).grownBy z3 r.ownBlock) (hN:Z1 w (z3.setCell ⟨X,0,none⟩ v) X xs hp v ([pl]++zl os sel 0 (frames.reverse.take (i+1)))):uH w X D Bn xs hp sl os sel frames pl ob (i+1) (z3.setCell ⟨X,0,none⟩ v):=by
 have y:=zn (hL.strs.row.alloc _) hg ((Below.heap_alloc _ _ _ (zc hL.box)).trans hL.box) (by decide)
 have c:∀(q:Nat) (o':Obj),Wb.heap[q]?=some o'→(∀b z,o'≠.cells b 9 z)→(∀b z,o'≠.cells b 41 z)→(z3.setCell ⟨X,0,none⟩ v).heap[q]?=some o':=by
  intro q o' B H F;have u:z1.heap[q]?=some o':=(hb.block _ (zH B)).trans B;have m:(z1.alloc o).heap[q]?=some o':=(Below.heap_alloc _ _ _ (zH u)).trans u
  have E:z3.heap[q]?=some o':=(hg.block q (zH m) (fun e=>by
   obtain ⟨b,A⟩:=Zt (hL.strs.row.alloc o) e.symm;rw [m] at A
   exact H _ _ (Option.some.inj A))).trans m
  have G:q≠X:=fun e=>by
   subst e;rw [E] at y;exact F _ _ (Option.some.inj y)
  exact (Below.heap_setCell _ _ _ _ (by simpa using G)).trans E
 exact ⟨⟨_,hN⟩,c _ _ h.dfr (fun _ _ e=>by cases e) (fun _ _ e=>by cases e),c _ _ h.loop (fun _ _ e=>by rw [e] at hob;cases hob) (fun _ _ e=>by rw [e] at hob;cases hob),c _ _ h.itr (fun _ _ e=>by simp at e) (fun _ _ e=>by simp at e),h.wD⟩
structure Y9 (w W0 W:World) (X:Nat) (G:Nat→Prop) (xs:Array Value) (hp r:Value) (l:List (List UInt8)):Prop where
 lin:Z1 w W X xs hp r l
 kept:∀q,G q→W.heap[q]?=W0.heap[q]?
 gs:∀q,G q→q<W0.heap.size
 size:W0.heap.size≤W.heap.size
 away:∀q,r.ownBlock=some q→¬ G q
 far:¬ G X
theorem Y9.new {w W0 W W':World} {X:Nat} {G:Nat→Prop} {xs:Array Value} {hp r:Value} {l:List (List UInt8)} (h:Y9 w W0 W X G xs hp r l) (hb:Below W.heap.size W W'):Y9 w W0 W' X G xs hp r l :=
 ⟨h.lin.new hb,fun q hq=>(hb.block q (by have:=h.gs q hq;have:=h.size;omega)).trans (h.kept q hq),h.gs,Nat.le_trans h.size hb.size,h.away,h.far⟩
theorem Y9.put {w W0 z1 z3:World} {X:Nat} {G:Nat→Prop} {xs:Array Value} {hp r v:Value} {l m:List (List UInt8)} {o:Obj} (h:Y9 w W0 z1 X G xs hp r l) (hj:zm w.heap.size w z3 v m) (hg:(z1.alloc o).grownBy z3 r.ownBlock) (hloc:v.ownBlock=r.ownBlock∨∃k,v.ownBlock=some k∧(z1.alloc o).heap.size≤k):Y9 w W0 (z3.setCell ⟨X,0,none⟩ v) X G xs hp v m:=by
 have z:=hg.size;have B:=h.size;refine ⟨h.lin.put hj hg,fun q hq=>?_,h.gs,by simp;simp at z;omega,fun q e hq=>?_,h.far⟩
 ·have b:=h.gs q hq
  have y:q≠X:=fun e=>h.far (by rw [←e];exact hq)
  rw [Below.heap_setCell _ _ _ _ (by simpa using y),hg.block q (by simp;omega) (fun e=>h.away q e.symm hq),Below.heap_alloc _ _ _ (by omega)]
  exact h.kept q hq
 ·have b:=h.gs q hq
  rcases hloc with c | ⟨k,c,u⟩
  ·exact h.away q (c.symm.trans e) hq
  ·rw [c] at e
   have A:k=q:=Option.some.inj e
   simp at u
   omega
theorem zT {ops:Array Oper} {o:Oper} {a:Act} {w:World} {K:Act→World→Prop} {Q:Exit→Act→World→Prop} {E:Prop} (s x:Operand)
  (ho:o.op=.call { callee:=.builtin .append,args:=#[s,x],argTypes:=#[41,41] }) (hw:Region.wanted o (yielded ops a.tmps)=true)
  (B:Nat) (v:Value) (l m:List (List UInt8)) (hs:a.eval s=v) (w1:World) (w0:World) (hj:zm B w0 w1 v l) (hw1:w=w1.alloc (.cells (strC m).toArray 9)) (hx:a.eval x=.slice (some ⟨w1.heap.size,0,none⟩) m.length m.length)
  (hb:l.length+m.length≤4294967296)
  (h:∀b u,zm B w0 u b (l++m)→w.grownBy u v.ownBlock→(b.ownBlock=v.ownBlock∨∃k,b.ownBlock=some k∧w.heap.size≤k)→K (a.put o.dst b) u) :
  if Region.wanted o (yielded ops a.tmps)=true then Oper.wp Tryz.prog o a w K Q else E:=by
 obtain ⟨G,H,y,A,D⟩:=info_parts YO;subst hw1;have F:=hj.low;refine Z0 s x 41 ho hw B 9 G (.string ⟨#[]⟩) 1 16 Tryz.underlying41 H y A D rfl (by decide) v l.length _ hs (hj.row.alloc _) ⟨w1.heap.size,0,none⟩ m.length m.length (strC m) hx (by rw [ZQ,Nat.mul_one]) (yy _ _ _) (YN m) (by unfold maxLen;omega) (by omega) (by simp;omega) ?_
 intro b u z c q;exact h b u (hj.app ((Below.refl _ _).alloc (Nat.le_refl _) _) z c) c (q.imp id fun e=>⟨_,e,Nat.le_refl _⟩)
theorem xp:∀(ls:List (List UInt8)) (s:List UInt8),s∈ls→s.length≤(zk ls).length
 | [],_,h=>by cases h
 | x::t,s,h=>by
  have e:zk (x::t)=(x++[10])++zk t:=rfl;rw [e,List.length_append,List.length_append];rcases List.mem_cons.1 h with rfl | h
  ·omega
  ·have:=xp t s h;omega
theorem VW (out s:List UInt8) (h:s∈y6 out):s.length≤out.length:=by
 obtain ⟨rest,-,b,-⟩:=ZF out [] (fun _ h=>by cases h)
 have e:=xp _ s (List.mem_of_mem_drop h);rw [List.nil_append] at b;have c:=congrArg List.length b;rw [List.length_append] at c;omega
theorem Xz (out:List UInt8):(y6 out).length≤4:=by unfold y6 VS;rw [List.length_drop];omega
theorem XA {α β:Type} (f:α→β) (l:List α) {i:Nat} (h:i<l.length):(l.take (i+1)).map f=(l.take i).map f++[f l[i]]:=by
 have e:l.take i++[l[i]]=l.take (i+1):=List.take_append_getElem h;rw [←e,List.map_append];rfl
theorem zm.putObj {B D:Nat} {w0 w:World} {v:Value} {l:List (List UInt8)} {o o':Obj} (h:zm B w0 w v l) (hd:w.heap[D]?=some o) (ho:o.isCells=false) (hD:B≤D):zm B w0 (w.putObj D o') v l:=by
 refine ⟨zh h.row fun k e _=>?_,h.below.grown (grownBy_putObj' _ _ _) h.low (fun k e=>by cases e;omega),?_⟩
 ·obtain ⟨c,b⟩:=Zt h.row e
  refine World.putObj_heap_other fun e'=>?_
  rw [e',hd] at b;cases b
  cases ho
 ·have:=(grownBy_putObj' w D o').size
  exact Nat.le_trans h.low this
theorem xq {S T:Nat→Prop} {most:Nat} {os:List Ob} {h:Nat} {vo vc:Value} (v:Vw) (vf vs:Value) (w:World) (H:zx S w most os h vo vc) (hv:zR T w v vf vs) (hs:yz v) (ht:YB w) :
  Calls Tryz.prog 13 #[uS vf vs v,.pointer (some ⟨h,0,none⟩)] w fun e w'=>(uC os.length v=false∧e=.returned (.tuple #[.slice none 0 0,.int .i64 2])∧Below w.heap.size w w')∨(uC os.length v=true∧∃r,e=.returned (.tuple #[r,.int .i64 0])∧zm w.heap.size w w' r (Zx os v)):=by
 have HH:Hid (zx S w most os h vo vc):=H;have HV:Hid (zR T w v vf vs):=hv;have HS:Hid (yz v):=hs;have HT:Hid (YB w):=ht;obtain ⟨U,V,rfl,bd,cE,aQ⟩:=hv.frames.at;obtain ⟨bs,cs,rfl,bm,cg,aS⟩:=hv.stops.at;obtain ⟨⟨E,m,fault,frames,out⟩,A,y,⟨B,n,z⟩⟩:=v;simp only at aQ aS bd bm;have b2:Hid (∀i (hi:i<frames.length),∃b o,U=some ⟨b,o,none⟩∧T b∧b<w.heap.size∧Uk T w b (o+i*3) frames[i]):=aQ;have bZ:Hid (∀i (hi:i<y.length),∃b o,bs=some ⟨b,o,none⟩∧T b∧b<w.heap.size∧Ur w b (o+i*5) y[i]):=aS;obtain ⟨w2,ce,ao,c6,h0,h1⟩:=Ut w (.cells #[.int .i64 E,.int .i64 m,.int .i64 fault,.slice U frames.length V,.string (za out),.int .i64 A,.slice bs y.length cs,.int .i64 B,.int .i64 n,.string (za z)] 35) (.cells #[.pointer (some ⟨h,0,none⟩)] 37);have bx:Hid (w2=(w.alloc (.cells #[.int .i64 E,.int .i64 m,.int .i64 fault,.slice U frames.length V,.string (za out),.int .i64 A,.slice bs y.length cs,.int .i64 B,.int .i64 n,.string (za z)] 35)).alloc (.cells #[.pointer (some ⟨h,0,none⟩)] 37)):=ce;have bW:Hid (Below w.heap.size w w2):=ao;have b1:Hid (w2.heap[w.heap.size]?=some (.cells #[.int .i64 E,.int .i64 m,.int .i64 fault,.slice U frames.length V,.string (za out),.int .i64 A,.slice bs y.length cs,.int .i64 B,.int .i64 n,.string (za z)] 35 (0,0))):=h0;have cv:Hid (w2.heap[w.heap.size+1]?=some (.cells #[.pointer (some ⟨h,0,none⟩)] 37 (0,0))):=h1;have ci:=Ve w2 (H.below ao) (ht.below ao (Nat.le_refl _)).tabs;obtain ⟨p0,p1,p2,p3,p4,p5,p6,p7,p8,p9⟩:=zs h0;have pp:=zz h1
 have cq:Hid (∀W,Below w.heap.size w W→Calls Tryz.prog 23 #[.agg #[.int .i64 E,.int .i64 m,.int .i64 fault,.slice U frames.length V,.string (za out)],.pointer (some ⟨h,0,none⟩)] W fun e w'=>e=.returned (.bool (Xw os.length m fault frames))∧Below W.heap.size W w'):=fun W hW =>
  Xy _ E m fault out frames W (HH.out.below hW) (HV.out.below hW).frames HS.out.frames HS.out.nframes (HT.out.below hW (Nat.le_refl _))
 have HM:Hid (uC os.length ⟨⟨E,m,fault,frames,out⟩,A,y,⟨B,n,z⟩⟩=Xw os.length m fault frames):=rfl
 have bT:Hid (Xw os.length m fault frames=true→0≤m∧m≤2):=fun h=>by
  unfold Xw at h
  simp only [Bool.and_eq_true,decide_eq_true_eq] at h;exact h.1.1
 obtain ⟨M,hM⟩:∃M,M=Xw os.length m fault frames:=⟨_,rfl⟩;rw [←hM] at HM cq bT;clear ce ao h0 h1 c6 H hv hs ht aQ aS bd cE bm cg hM;refine (callsIn_wide (n:=5)).1 ?_;refine callsIn_of_wp_marks Tryz.func13 rfl trivial ?_ rfl;simp only [Tryz.ntmps13,List.size_toArray,List.length_cons,List.length_nil,Nat.reduceAdd,Nat.reduceSub,Array.replicate_succ,Array.replicate_zero,List.push_toArray,List.append_toArray,List.nil_append,List.cons_append];refine wpIn_wide.2 ?_;go_wp2_with fail
 rw [←bx.out];refine ci.mono ?_;clear ci p0 p1 p2 p3 p4 p5 p6 p7 p8 p9 pp;rintro e w3 ⟨rfl,a5⟩;have bR:Hid (Below w.heap.size w w3):=bW.out.trans (a5.mono bW.out.size);have bD:Hid (w3.heap[w.heap.size]?=some (.cells #[.int .i64 E,.int .i64 m,.int .i64 fault,.slice U frames.length V,.string (za out),.int .i64 A,.slice bs y.length cs,.int .i64 B,.int .i64 n,.string (za z)] 35 (0,0))):=(a5.block _ (zc b1.out)).trans b1.out;have bA:Hid (w3.heap[w.heap.size+1]?=some (.cells #[.pointer (some ⟨h,0,none⟩)] 37 (0,0))):=(a5.block _ (zc cv.out)).trans cv.out;obtain ⟨p0,p1,p2,p3,p4,p5,p6,p7,p8,p9⟩:=zs bD.out;have pp:=zz bA.out;have cm:=cq.out w3 bR.out;clear a5;go_wp2_with fail
 refine cm.mono ?_;clear cm p0 p1 p2 p3 p4 p5 p6 p7 p8 p9 pp;rintro e w4 ⟨rfl,aX⟩;have bc:Hid (Below w.heap.size w w4):=bR.out.trans (aX.mono bR.out.size);have bH:Hid (w4.heap[w.heap.size]?=some (.cells #[.int .i64 E,.int .i64 m,.int .i64 fault,.slice U frames.length V,.string (za out),.int .i64 A,.slice bs y.length cs,.int .i64 B,.int .i64 n,.string (za z)] 35 (0,0))):=(aX.block _ (zc bD.out)).trans bD.out;have aK:Hid (w4.heap[w.heap.size+1]?=some (.cells #[.pointer (some ⟨h,0,none⟩)] 37 (0,0))):=(aX.block _ (zc bA.out)).trans bA.out;clear aX;cases M with
 | false =>
  go_wp2_with fail
  exact ⟨_,results_tmp2 rfl _ _ _,.inl ⟨HM.out,rfl,bc.out⟩⟩
 | true =>
  obtain ⟨p0,p1,p2,p3,p4,p5,p6,p7,p8,p9⟩:=zs bH.out;have aG:=bT.out rfl;have cp:=Y5 (.slice U frames.length V) E m fault out w4 HS.out.pos (HT.out.below bc.out (Nat.le_refl _)) aG;clear aG;go_wp2_with fail
  refine cp.mono ?_;clear cp p0 p1 p2 p3 p4 p5 p6 p7 p8 p9;rintro e w5 ⟨rfl,ax⟩;have bM:Hid (Below w.heap.size w w5):=bc.out.trans (ax.mono bc.out.size);have bb:Hid (w5.heap[w.heap.size]?=some (.cells #[.int .i64 E,.int .i64 m,.int .i64 fault,.slice U frames.length V,.string (za out),.int .i64 A,.slice bs y.length cs,.int .i64 B,.int .i64 n,.string (za z)] 35 (0,0))):=(ax.block _ (zc bH.out)).trans bH.out;have bI:Hid (w5.heap[w.heap.size+1]?=some (.cells #[.pointer (some ⟨h,0,none⟩)] 37 (0,0))):=(ax.block _ (zc aK.out)).trans aK.out;obtain ⟨p0,p1,p2,p3,p4,p5,p6,p7,p8,p9⟩:=zs bb.out;clear ax
  go_upto_region 6 with fail
  have aW:Z1 w ((w5.alloc (.cells #[.string (za (Zk E m fault))] 9)).alloc (.cells #[.slice (some ⟨w5.heap.size,0,none⟩) 1 1] 41)) (w5.heap.size+1) (yN E m fault (.slice U frames.length V) out A (.slice bs y.length cs) B n z) (.pointer (some ⟨h,0,none⟩)) (.slice (some ⟨w5.heap.size,0,none⟩) 1 1) [Zk E m fault]:=by
   have dj:=bM.out.size;have hl:=zm.lit w.heap.size w w5 [Zk E m fault] bM.out bM.out.size (by simp [maxLen])
   refine ⟨?_,?_,?_,by omega,hl.new ((Below.refl _ _).alloc (Nat.le_refl _) _)⟩
   ·exact (Below.heap_alloc _ _ _ (by have:=zc bb.out;simp;omega)).trans ((Below.heap_alloc _ _ _ (zc bb.out)).trans bb.out)
   ·exact (Below.heap_alloc _ _ _ (by have:=zc bI.out;simp;omega)).trans ((Below.heap_alloc _ _ _ (zc bI.out)).trans bI.out)
   ·have:=World.alloc_heap_new (w5.alloc (.cells #[.string (za (Zk E m fault))] 9)) (.cells #[.slice (some ⟨w5.heap.size,0,none⟩) 1 1] 41)
    simpa using this
  obtain ⟨X,hX⟩:∃X,X=w5.heap.size+1:=⟨_,rfl⟩;obtain ⟨r6,cd⟩:∃r6,r6=Value.slice (some ⟨w5.heap.size,0,none⟩) 1 1:=⟨_,rfl⟩;obtain ⟨w6,cC⟩:∃w6,w6=(w5.alloc (.cells #[.string (za (Zk E m fault))] 9)).alloc (.cells #[.slice (some ⟨w5.heap.size,0,none⟩) 1 1] 41):=⟨_,rfl⟩;obtain ⟨PL,bL⟩:∃PL,PL=Zk E m fault:=⟨_,rfl⟩;rw [←cC,←hX] at aW ⊢;rw [←bL] at aW;rw [←cd] at aW;have cU:Hid (PL=Zk E m fault):=bL;have bV:Hid _:=aW;clear p0 p1 p2 p3 p4 p5 p6 p7 p8 p9 bL;obtain ⟨p0,p1,p2,p3,p4,p5,p6,p7,p8,p9⟩:=zs bV.out.view;clear aW hX cd cC;go_wp2_with fail
  refine (callsIn_wide.1 (Y4 (.slice U frames.length V) U frames.length V rfl w6)).mono ?_;rintro e w7 ⟨rfl,bw⟩;clear p0 p1 p2 p3 p4 p5 p6 p7 p8 p9;have bh:Below w6.heap.size w6 w7:=by rw [bw];exact (Below.refl _ _).alloc (Nat.le_refl _) _
  have aD:w7.heap[w6.heap.size]?=some (.cells #[.slice U frames.length V] 27 (0,0)):=by rw [bw];exact World.alloc_heap_new _ _
  have bQ:=bV.out.new bh;clear bw;go_wp2_with fail
  refine (wpIn_wide (n:=5)).1 (xI rfl (enters_of Tryz.func39 (by kernel_rfl) rfl) (fun r0 aG hpe htm hpa has hbo=>?_))
  obtain ⟨D,hD⟩:∃D,D=w7.heap.size:=⟨_,rfl⟩;obtain ⟨Bn,cD⟩:∃Bn,Bn=w6.heap.size:=⟨_,rfl⟩;rw [←hD];rw [←cD] at htm aD ⊢;have c3:=bQ.strs.low;have au:Below w7.heap.size w7 ((w7.alloc (.deferred (some []))).alloc (.loop r0)):=((Below.refl _ _).alloc (Nat.le_refl _) _).alloc (by simp) _
  have cz:((w7.alloc (.deferred (some []))).alloc (.loop r0)).heap[D]?=some (.deferred (some [])):=by
   rw [hD];exact (Below.heap_alloc _ _ _ (by simp)).trans (World.alloc_heap_new w7 _)
  have b3:((w7.alloc (.deferred (some []))).alloc (.loop r0)).heap[D+1]?=some (.loop r0):=by
   have:=World.alloc_heap_new (w7.alloc (.deferred (some []))) (.loop r0)
   rwa [World.size_alloc,←hD] at this
  have bz:uH w X D Bn (yN E m fault (.slice U frames.length V) out A (.slice bs y.length cs) B n z) (.pointer (some ⟨h,0,none⟩)) (.slice U frames.length V) os A frames PL (.loop r0) 0 ((w7.alloc (.deferred (some []))).alloc (.loop r0)) :=
   ⟨⟨r6,by simpa [zl] using bQ.new au⟩,cz,b3,(au.block _ (zc aD)).trans aD,by omega⟩
  generalize (w7.alloc (.deferred (some []))).alloc (.loop r0)=W0 at bz ⊢;clear cz b3 au c3 bQ aD bh hD cD;refine (Vc (D+1) Bn U V frames HS.out.nframes (fun i W=>uH w X D Bn (yN E m fault (.slice U frames.length V) out A (.slice bs y.length cs) B n z) (.pointer (some ⟨h,0,none⟩)) (.slice U frames.length V) os A frames PL (.loop r0) i W) (fun k u=>∀hk:k<frames.length,YQ T w u (frames[k]).vars) ?hJc ?hJe ?hY _ bz).mono ?_
  case hJc =>
   intro i W hJ;exact zz hJ.itr
  case hJe =>
   intro i W hJ k hk;obtain ⟨b,o,e,-,bq,c0,c1,u,c2,cW⟩:=b2.out k hk;obtain ⟨r,hr⟩:=hJ.lin;have aJ:∀q,W.cell? ⟨b,q,none⟩=w.cell? ⟨b,q,none⟩:=fun q=>zb hr.strs.below bq
   exact ⟨b,o,u,e,(aJ _).trans c0,(aJ _).trans c1,(aJ _).trans c2,fun _=>cW⟩
  case hY =>
   intro i R u k hk bN hJ hP;have a8:=hJ.loop;have bK:=hJ.wD;have cb:=zH a8;obtain ⟨bu,cu,rfl,-⟩:=(hP hk).at;have HU:Hid (YQ T w (.slice bu (frames[k]).vars.length cu) (frames[k]).vars):=hP hk;have cj:Hid (Z6 frames[k]):=HS.out.frames _ (List.getElem_mem hk);have aj:=xO os A frames hk bN;obtain ⟨f,hf⟩:∃f,f=frames[k]:=⟨_,rfl⟩;rw [←hf] at HU cj aj;simp only [←hf];obtain ⟨nv,bB⟩:∃nv,nv=f.vars.length:=⟨_,rfl⟩;rw [←bB] at HU ⊢;have di:Hid (nv=f.vars.length):=bB;clear hf bB;have bp:Hid (zl os A 0 (frames.reverse.take (i+1))=zl os A 0 (frames.reverse.take i)++[zL os f (decide ((i:Int)=A))]):=aj;obtain ⟨W2,aY⟩:∃W2,W2=R.alloc (.cells #[.string (za f.fn),.int .i64 f.line,.slice bu nv cu] 52):=⟨_,rfl⟩;have bx:Hid (W2=R.alloc (.cells #[.string (za f.fn),.int .i64 f.line,.slice bu nv cu] 52)):=aY;have ao:Below R.heap.size R W2:=by rw [aY];exact (Below.refl _ _).alloc (Nat.le_refl _) _
   have ck:W2.heap[R.heap.size]?=some (.cells #[.string (za f.fn),.int .i64 f.line,.slice bu nv cu] 52 (0,0)):=by rw [aY];exact World.alloc_heap_new _ _
   obtain ⟨r1,b0⟩:=hJ.lin;have ay:=b0.strs.low;have bJ:=hJ.turn (ob':=.loop r0) (W':=W2) rfl (ao.mono ay) (fun b hb _=>ao.block b hb) ((ao.block _ cb).trans a8)
   have aC:=bJ.loop;have aM:w.heap.size≤W2.heap.size:=Nat.le_trans ay ao.size;refine ⟨_,_,_,_,run_yield a8 (by rw [hpa];rfl),roundIn_of_wpIn trivial ?_⟩
   rw [has,hbo,htm,hpa];simp only [List.zip_toArray,List.zip_cons_cons,List.zip_nil_right];have a6:=bJ.turn (ob':=.loop { r0 with state:=.busy }) (W':=W2.putObj (D+1) (.loop { r0 with state:=.busy })) rfl ((Below.refl w.heap.size W2).grown (grownBy_putObj' W2 _ _) aM (fun k e=>by cases e;omega)) (fun b _ hb=>World.putObj_heap_other hb) (World.putObj_heap_same (zH aC))
   have bF:(W2.putObj (D+1) (.loop { r0 with state:=.busy })).heap[R.heap.size]?=some (.cells #[.string (za f.fn),.int .i64 f.line,.slice bu nv cu] 52 (0,0)):=(World.putObj_heap_other (by omega)).trans ck
   have bi:=run_beginRound (P:=Tryz.prog) aC aG;have bj:Hid ((Instr.beginRound (D+1)).run Tryz.prog W2=.ok () (W2.putObj (D+1) (.loop { r0 with state:=.busy }))):=bi;obtain ⟨Wb,cw⟩:∃Wb,Wb=W2.putObj (D+1) (.loop { r0 with state:=.busy }):=⟨_,rfl⟩;rw [←cw] at a6 bF bj;obtain ⟨r9,b6⟩:=a6.lin;have aL:Hid (Z1 w Wb X (yN E m fault (.slice U frames.length V) out A (.slice bs y.length cs) B n z) (.pointer (some ⟨h,0,none⟩)) r9 ([PL]++zl os A 0 (frames.reverse.take i))):=b6;have cY:Hid (uH w X D Bn (yN E m fault (.slice U frames.length V) out A (.slice bs y.length cs) B n z) (.pointer (some ⟨h,0,none⟩)) (.slice U frames.length V) os A frames PL (.loop { r0 with state:=.busy }) i Wb):=a6;have aV:Hid (Wb.heap[R.heap.size]?=some (.cells #[.string (za f.fn),.int .i64 f.line,.slice bu nv cu] 52 (0,0))):=bF;have df:i≤1048576:=by have:=HS.out.nframes;simp only at this;omega
   have dh:Hid (frames.length=k+1+i):=bN
   have cP:Hid (({ { r0 with state:=.busy } with state:=if (none:Option Code).isNone then .ready else .done,pending:=none }:Loop)=r0):=by
    show _=_
    cases r0;simp_all
   clear aj hP hJ b0 a6 b6 a8 bJ aC bF ck cw bi aY ao bN ay aM cb
   gi_wp2_with fail
   rw [←bx.out];refine ⟨_,bj.out,?_⟩
   gi_wp2_with fail
   have ah:Hid (∀W,Z1 w W X (yN E m fault (.slice U frames.length V) out A (.slice bs y.length cs) B n z) (.pointer (some ⟨h,0,none⟩)) r9 ([PL]++zl os A 0 (frames.reverse.take i))→W.heap[R.heap.size]?=some (.cells #[.string (za f.fn),.int .i64 f.line,.slice bu nv cu] 52 (0,0))→W.cell? ⟨X,0,none⟩=some r9∧W.cell? ⟨R.heap.size,0,none⟩=some (.string (za f.fn))∧W.cell? ⟨R.heap.size,1,none⟩=some (.int .i64 f.line)∧W.cell? ⟨R.heap.size,2,none⟩=some (.slice bu nv cu)∧W.cell? ⟨w.heap.size,5,none⟩=some (.int .i64 A)∧W.cell? ⟨w.heap.size+1,0,none⟩=some (.pointer (some ⟨h,0,none⟩))):=fun W hL hF=>by
    obtain ⟨a0,a1,a2⟩:=Zr hF;obtain ⟨-,-,-,-,-,b5,-,-,-,-⟩:=zs hL.view;exact ⟨zz hL.box,a0,a1,a2,b5,zz hL.ptr⟩
   have x0:∀c:zE fun W=>W.cell? ⟨X,0,none⟩=some r9∧W.cell? ⟨R.heap.size,0,none⟩=some (.string (za f.fn))∧W.cell? ⟨R.heap.size,1,none⟩=some (.int .i64 f.line)∧W.cell? ⟨R.heap.size,2,none⟩=some (.slice bu nv cu)∧W.cell? ⟨w.heap.size,5,none⟩=some (.int .i64 A)∧W.cell? ⟨w.heap.size+1,0,none⟩=some (.pointer (some ⟨h,0,none⟩)),c.1.cell? ⟨X,0,none⟩=some r9:=fun c=>c.2.1
   have x1:∀c:zE fun W=>W.cell? ⟨X,0,none⟩=some r9∧W.cell? ⟨R.heap.size,0,none⟩=some (.string (za f.fn))∧W.cell? ⟨R.heap.size,1,none⟩=some (.int .i64 f.line)∧W.cell? ⟨R.heap.size,2,none⟩=some (.slice bu nv cu)∧W.cell? ⟨w.heap.size,5,none⟩=some (.int .i64 A)∧W.cell? ⟨w.heap.size+1,0,none⟩=some (.pointer (some ⟨h,0,none⟩)),c.1.cell? ⟨R.heap.size,0,none⟩=some (.string (za f.fn)):=fun c=>c.2.2.1
   have x2:∀c:zE fun W=>W.cell? ⟨X,0,none⟩=some r9∧W.cell? ⟨R.heap.size,0,none⟩=some (.string (za f.fn))∧W.cell? ⟨R.heap.size,1,none⟩=some (.int .i64 f.line)∧W.cell? ⟨R.heap.size,2,none⟩=some (.slice bu nv cu)∧W.cell? ⟨w.heap.size,5,none⟩=some (.int .i64 A)∧W.cell? ⟨w.heap.size+1,0,none⟩=some (.pointer (some ⟨h,0,none⟩)),c.1.cell? ⟨R.heap.size,1,none⟩=some (.int .i64 f.line):=fun c=>c.2.2.2.1
   have x3:∀c:zE fun W=>W.cell? ⟨X,0,none⟩=some r9∧W.cell? ⟨R.heap.size,0,none⟩=some (.string (za f.fn))∧W.cell? ⟨R.heap.size,1,none⟩=some (.int .i64 f.line)∧W.cell? ⟨R.heap.size,2,none⟩=some (.slice bu nv cu)∧W.cell? ⟨w.heap.size,5,none⟩=some (.int .i64 A)∧W.cell? ⟨w.heap.size+1,0,none⟩=some (.pointer (some ⟨h,0,none⟩)),c.1.cell? ⟨R.heap.size,2,none⟩=some (.slice bu nv cu):=fun c=>c.2.2.2.2.1
   have x4:∀c:zE fun W=>W.cell? ⟨X,0,none⟩=some r9∧W.cell? ⟨R.heap.size,0,none⟩=some (.string (za f.fn))∧W.cell? ⟨R.heap.size,1,none⟩=some (.int .i64 f.line)∧W.cell? ⟨R.heap.size,2,none⟩=some (.slice bu nv cu)∧W.cell? ⟨w.heap.size,5,none⟩=some (.int .i64 A)∧W.cell? ⟨w.heap.size+1,0,none⟩=some (.pointer (some ⟨h,0,none⟩)),c.1.cell? ⟨w.heap.size,5,none⟩=some (.int .i64 A):=fun c=>c.2.2.2.2.2.1
   have x5:∀c:zE fun W=>W.cell? ⟨X,0,none⟩=some r9∧W.cell? ⟨R.heap.size,0,none⟩=some (.string (za f.fn))∧W.cell? ⟨R.heap.size,1,none⟩=some (.int .i64 f.line)∧W.cell? ⟨R.heap.size,2,none⟩=some (.slice bu nv cu)∧W.cell? ⟨w.heap.size,5,none⟩=some (.int .i64 A)∧W.cell? ⟨w.heap.size+1,0,none⟩=some (.pointer (some ⟨h,0,none⟩)),c.1.cell? ⟨w.heap.size+1,0,none⟩=some (.pointer (some ⟨h,0,none⟩)):=fun c=>c.2.2.2.2.2.2
   haveI aI:Nonempty (zE fun W=>W.cell? ⟨X,0,none⟩=some r9∧W.cell? ⟨R.heap.size,0,none⟩=some (.string (za f.fn))∧W.cell? ⟨R.heap.size,1,none⟩=some (.int .i64 f.line)∧W.cell? ⟨R.heap.size,2,none⟩=some (.slice bu nv cu)∧W.cell? ⟨w.heap.size,5,none⟩=some (.int .i64 A)∧W.cell? ⟨w.heap.size+1,0,none⟩=some (.pointer (some ⟨h,0,none⟩))):=⟨⟨Wb,ah.out Wb aL.out aV.out⟩⟩
   have af:Hid (Below Wb.heap.size Wb Wb.drew):=(Below.refl _ _).drew;refine Vd 10 (n:=11) (S:=fun w'=>∃c:zE fun W=>W.cell? ⟨X,0,none⟩=some r9∧W.cell? ⟨R.heap.size,0,none⟩=some (.string (za f.fn))∧W.cell? ⟨R.heap.size,1,none⟩=some (.int .i64 f.line)∧W.cell? ⟨R.heap.size,2,none⟩=some (.slice bu nv cu)∧W.cell? ⟨w.heap.size,5,none⟩=some (.int .i64 A)∧W.cell? ⟨w.heap.size+1,0,none⟩=some (.pointer (some ⟨h,0,none⟩)),w'=c.1) (by kernel_rfl) (by kernel_rfl) ?hq rfl rfl ?_
   case hq =>
    rintro ⟨a9,w9,h9⟩;exact h9
   refine xL (fuel:=4) (fuel':=11) (idx:=[0,1,2,3,4,5,6]) (by kernel_rfl) rfl rfl rfl (fun _ _ _ _ _ h=>h) ⟨⟨Wb.drew,ah.out _ (aL.out.new af.out) ((af.out.block _ (zc aV.out)).trans aV.out)⟩,rfl⟩ ?_
   show wpQuiet _ _ _ _ [_,_,_,_,_,_,_] _
   iterate 7 (go_big_quiet_step (fail))
   refine wpQuiet_nil ?_;have de:Hid (Below w.heap.size w Wb):=aL.out.strs.below;have cQ:=aL.out.strs.low
   have cA:Hid (∀W,Below w.heap.size w W→Calls Tryz.prog 26 #[Uu (.slice bu nv cu) f.fn f.line,.bool (decide ((i:Int)=A)),.pointer (some ⟨h,0,none⟩)] W fun e w'=>e=.returned (.string (za (zL os f (decide ((i:Int)=A)))))∧Below W.heap.size W w'):=fun W hW =>
    Y6 f _ _ W (HH.out.below hW) (rowIn.kept HU.out (xi T) hW.size fun q _ hq=>hW.block q hq) cj.out (HT.out.below hW (Nat.le_refl _))
   obtain ⟨FB,cB⟩:∃FB,FB=zL os f (decide ((i:Int)=A)):=⟨_,rfl⟩;rw [←cB] at cA bp;clear cB;refine zN (fuel:=3) (fuel':=4) (i:=7) rfl (by kernel_rfl) rfl rfl (by rfl) ?_
   intro K J;go_simp;refine (cA.out Wb.drew (de.out.trans (af.out.mono cQ))).mono ?_;rintro e z1 ⟨rfl,hb⟩;have aK:Hid (Below Wb.heap.size Wb z1):=af.out.trans (hb.mono af.out.size);clear hb
   (try go_simp)
   have ae:Hid _:=aL.out.new aK.out;have an:Hid _:=(aK.out.block _ (zc aV.out)).trans aV.out;refine J.out _ _ (fun _=>⟨⟨z1,ah.out z1 ae.out an.out⟩,rfl⟩) ?_
   clear J K;refine zN (fuel:=2) (fuel':=3) (i:=8) rfl (by kernel_rfl) rfl rfl (by rfl) ?_
   intro K J;go_simp;have aw:Hid (Below z1.heap.size z1 (z1.alloc (.cells #[.string (za FB)] 9))):=(Below.refl _ _).alloc (Nat.le_refl _) _;refine J.out _ _ (fun _=>⟨⟨_,ah.out _ (ae.out.new aw.out) ((aw.out.block _ (zc an.out)).trans an.out)⟩,rfl⟩) ?_
   clear J K;refine xM (fuel:=1) (fuel':=2) (i:=9) rfl (by kernel_rfl) rfl rfl (by rfl) ?_
   intro K J;refine Za (.tmp 33) (.tmp 41) rfl (by rfl) w.heap.size r9 ([PL]++zl os A 0 (frames.reverse.take i)) [FB] rfl z1 w ae.out.strs rfl rfl (by rw [List.length_append,Zi,List.length_take];simp;omega) ?_
   intro v9 z3 ai O;obtain ⟨n9,b9,c9,rfl⟩:=ye ai.row;have az:Hid (Z1 w (z3.setCell ⟨X,0,none⟩ (.slice b9 n9 c9)) X (yN E m fault (.slice U frames.length V) out A (.slice bs y.length cs) B n z) (.pointer (some ⟨h,0,none⟩)) (.slice b9 n9 c9) ([PL]++zl os A 0 (frames.reverse.take i)++[FB])):=ae.out.put ai O;have bC:Hid _:=zn (ae.out.strs.row.alloc _) O ((Below.heap_alloc _ _ _ (zc ae.out.view)).trans ae.out.view) (by decide)
   have cI:Hid _:=zn (ae.out.strs.row.alloc _) O ((Below.heap_alloc _ _ _ (zc ae.out.ptr)).trans ae.out.ptr) (by decide)
   have ak:Hid _:=zn (ae.out.strs.row.alloc _) O ((Below.heap_alloc _ _ _ (zc ae.out.box)).trans ae.out.box) (by decide)
   have bO:Hid _:=zn (ae.out.strs.row.alloc _) O ((Below.heap_alloc _ _ _ (zc an.out)).trans an.out) (by decide)
   have aA:Hid (z3.cell? ⟨X,0,none⟩=some r9∧z3.cell? ⟨R.heap.size,0,none⟩=some (.string (za f.fn))∧z3.cell? ⟨R.heap.size,1,none⟩=some (.int .i64 f.line)∧z3.cell? ⟨R.heap.size,2,none⟩=some (.slice bu nv cu)∧z3.cell? ⟨w.heap.size,5,none⟩=some (.int .i64 A)∧z3.cell? ⟨w.heap.size+1,0,none⟩=some (.pointer (some ⟨h,0,none⟩))):=by
    obtain ⟨a0,a1,a2⟩:=Zr bO.out;obtain ⟨-,-,-,-,-,b5,-,-,-,-⟩:=zs bC.out;exact ⟨zz ak.out,a0,a1,a2,b5,zz cI.out⟩
   refine J.out _ _ (fun _=>⟨⟨z3,aA.out⟩,rfl⟩) ?_
   clear J K
   (try simp only [Act.put,List.setIfInBounds_toArray,List.set_cons_zero,List.set_cons_succ])
   refine zN (fuel:=0) (fuel':=1) (i:=10) rfl (by kernel_rfl) rfl rfl (by rfl) ?_
   intro K J;have aq:=aA.out.1;have aN:=Yy ak.out 0;go_simp;refine J.out _ _ (fun h=>absurd rfl h) ?_
   clear J K;refine YT (by kernel_rfl) ?_
   clear x0 x1 x2 x3 x4 x5 aq aN;rw [List.append_assoc,←bp.out] at az;have bX:=cY.out.step rfl aK.out ae.out O az.out;have cn:=bX.loop;have bP:=az.out.strs.low;show ∃v w',_
   refine ⟨_,_,run_endRound none cn,rfl,?_⟩;rw [cP.out];exact bX.turn rfl ((Below.refl w.heap.size _).grown (grownBy_putObj' _ _ _) bP (fun k e=>by cases e;omega)) (fun b _ hb=>World.putObj_heap_other hb) (World.putObj_heap_same (zH cn))
  rintro e W3 ⟨⟨u3,rfl⟩,aT⟩;have aC:=aT.loop;have bK:=aT.wD;obtain ⟨r3,cx⟩:=aT.lin;refine ⟨r0.pending,_,run_endLoop (P:=Tryz.prog) aC (by rw [aG];simp),?_⟩
  have a7:=aT.turn (ob':=.loop { r0 with state:=.exhausted }) (W':=W3.putObj (D+1) (.loop { r0 with state:=.exhausted })) rfl ((Below.refl w.heap.size W3).grown (grownBy_putObj' W3 _ _) cx.strs.low (fun k e=>by cases e;omega)) (fun b _ hb=>World.putObj_heap_other hb) (World.putObj_heap_same (zH aC))
  generalize W3.putObj (D+1) (.loop { r0 with state:=.exhausted })=W4 at a7 ⊢;obtain ⟨r4,aH⟩:=a7.lin;rw [show frames.reverse.take frames.length=frames.reverse by rw [←List.length_reverse,List.take_length]] at aH
  obtain ⟨L1,aZ⟩:∃L1,L1=[PL]++zl os A 0 frames.reverse:=⟨_,rfl⟩;rw [←aZ] at aH;have ae:Hid (L1=[PL]++zl os A 0 frames.reverse):=aZ
  have bn:Hid (L1.length≤1048577):=by
   have:=HS.out.nframes
   simp only at this;show _≤_
   rw [aZ,List.length_append,Zi,List.length_reverse]
   simp
   omega
  have aO:Hid (Z1 w W4 X (yN E m fault (.slice U frames.length V) out A (.slice bs y.length cs) B n z) (.pointer (some ⟨h,0,none⟩)) r4 L1):=aH;have aE:Hid (W4.heap[D]?=some (.deferred (some []))):=a7.dfr;have dc:Hid (w.heap.size≤D):=bK;obtain ⟨p0,p1,p2,p3,p4,p5,p6,p7,p8,p9⟩:=zs aH.view;have co:=Y8 out W4 HS.out.out (HT.out.below aH.strs.below (Nat.le_refl _));obtain ⟨F,ap⟩:∃F,F=y6 out:=⟨_,rfl⟩;have dk:F.length≤4:=by rw [ap];exact Xz out
  rw [←ap] at co;have aR:Hid (F=y6 out):=ap;clear aT a7 cx aH aC aZ ap bK bz;rw [hpe];show Exit.inBlock 1 _ Exit.normal _ W4
  clear hpe aG htm hpa has hbo;go_wp2_with fail
  refine co.mono ?_;clear co p0 p1 p2 p3 p4 p5 p6 p7 p8 p9;rintro e w8 ⟨dl,rfl,bt⟩;have bY:=bt.in.at;obtain ⟨bo,co,rfl,ch,cr,bl⟩:=bY;have cG:Hid (∀i (hi:i<F.length),∃b o,bo=some ⟨b,o,none⟩∧W4.heap.size≤b∧b<w8.heap.size∧xG w8 b (o+i*1) F[i]):=bl;have au:=bt.below
  have bE:Y9 w w8 w8 X (fun q=>(∃o,bo=some ⟨q,o,none⟩∧W4.heap.size≤q∧q<w8.heap.size)∨q=D) (yN E m fault (.slice U frames.length V) out A (.slice bs y.length cs) B n z) (.pointer (some ⟨h,0,none⟩)) r4 L1:=by
   have cX:w8.heap[D]?=some (.deferred (some [])):=(au.block _ (zH aE.out)).trans aE.out;refine ⟨aO.out.new au,fun _ _=>rfl,?_,Nat.le_refl _,?_,?_⟩
   ·rintro q (⟨o,-,-,hq⟩ | rfl)
    ·exact hq
    ·exact zH cX
   ·intro q e hq
    rcases hq with ⟨o,-,hq,-⟩ | rfl
    ·have:=(aO.out.strs.row.lt q e).2
     omega
    ·obtain ⟨dg,hc⟩:=Zt aO.out.strs.row e
     rw [aE.out] at hc;cases hc
   ·rintro (⟨o,-,hq,-⟩ | e)
    ·have:=zc aO.out.box
     omega
    ·have hc:=aO.out.box
     rw [e,aE.out] at hc;cases hc
  obtain ⟨G,hG⟩:∃G:Nat→Prop,G=fun q=>(∃o,bo=some ⟨q,o,none⟩∧W4.heap.size≤q∧q<w8.heap.size)∨q=D:=⟨_,rfl⟩
  have dd:Hid (∀b o,bo=some ⟨b,o,none⟩→W4.heap.size≤b→b<w8.heap.size→G b):=fun b o e h1 h2=>by rw [hG];exact .inl ⟨o,e,h1,h2⟩
  have cy:Hid (G D):=by show G D;rw [hG];exact .inr rfl
  rw [←hG] at bE;have cO:Hid _:=bE;have c7:Hid (w8.heap[D]?=some (.deferred (some []))):=(au.block _ (zH aE.out)).trans aE.out;clear hG;clear bt bl au bE ch cr;go_wp2
  go_loopw [48] (fun vi wr=>∃(i:Nat) (r:Value),i≤F.length∧vi=.int .i64 (i:Int)∧Y9 w w8 wr X G (yN E m fault (.slice U frames.length V) out A (.slice bs y.length cs) B n z) (.pointer (some ⟨h,0,none⟩)) r (L1++(F.take i).map fun s=>zA ([124,32]++s))) (fun vi _=>F.length-(intOf vi).toNat)
  case atStart=>exact ⟨0,r4,Nat.zero_le _,rfl,by simpa using cO.out⟩
  case round =>
   obtain ⟨i,r9,hi,rfl,hj⟩:=hrel;have HJ:Hid (Y9 w w8 wr X G (yN E m fault (.slice U frames.length V) out A (.slice bs y.length cs) B n z) (.pointer (some ⟨h,0,none⟩)) r9 (L1++(F.take i).map fun s=>zA ([124,32]++s))):=hj
   clear hj
   by_cases hlt:i<F.length
   ·have bG:(i:Int)<F.length:=by omega
    obtain ⟨b,o,be,c4,da,hc⟩:=cG.out i hlt;have cR:=dd.out b o be c4 da;subst be
    have aP:wr.cell? ⟨b,o+i,none⟩=some (.string (za F[i])):=by
     have h1:wr.cell? ⟨b,o+i*1,none⟩=some (.string (za F[i])):=(World.cell?_of_block (HJ.out.kept b cR)).trans hc
     simpa only [Nat.mul_one] using h1
    have c8:=VW out F[i] (by rw [←aR.out];exact List.getElem_mem hlt)
    have aj:Hid ((F.take (i+1)).map (fun s=>zA ([124,32]++s))=(F.take i).map (fun s=>zA ([124,32]++s))++[zA ([124,32]++F[i])]):=XA _ F hlt
    obtain ⟨s,hs⟩:∃s,s=F[i]:=⟨_,rfl⟩;rw [←hs] at aP c8 aj;have cc:=HS.out.out;simp only at cc
    have aB:Hid ((L1++(F.take i).map fun s=>zA ([124,32]++s)).length≤2000000):=by
     have:=bn.out
     show _≤_
     rw [List.length_append,List.length_map,List.length_take];omega
    obtain ⟨LB,aF⟩:∃LB,LB=zA ([124,32]++s):=⟨_,rfl⟩;rw [←aF] at aj
    have cJ:Hid (LB=zA ([[124,32],s]:List (List UInt8)).flatten):=by
     show _=_
     rw [aF];simp
    obtain ⟨PR,al⟩:∃PR,PR=(L1++(F.take i).map fun s=>zA ([124,32]++s)):=⟨_,rfl⟩
    have aU:Hid (L1++(F.take (i+1)).map (fun s=>zA ([124,32]++s))=PR++[LB]):=by
     show _=_
     rw [aj.out,al,List.append_assoc]
    rw [←al] at HJ aB;clear hs aF al hc aj
    go_upto_region 13 with fail
    clear aP;have aq:=zz HJ.out.lin.box;have x0:∀c:zE fun W=>W.cell? ⟨X,0,none⟩=some r9,c.1.cell? ⟨X,0,none⟩=some r9:=fun c=>c.2
    haveI aI:Nonempty (zE fun W=>W.cell? ⟨X,0,none⟩=some r9):=⟨⟨wr,aq⟩⟩
    refine xj 6 (n:=7) (S:=fun w'=>∃c:zE fun W=>W.cell? ⟨X,0,none⟩=some r9,w'=c.1) (by kernel_rfl) rfl rfl ?_
    have af:Hid (Below wr.heap.size wr wr.drew):=(Below.refl _ _).drew;obtain ⟨zd,ar⟩:∃zd,zd=wr.drew:=⟨_,rfl⟩;rw [←ar] at af ⊢;have am:Hid (Y9 w w8 zd X G (yN E m fault (.slice U frames.length V) out A (.slice bs y.length cs) B n z) (.pointer (some ⟨h,0,none⟩)) r9 PR):=HJ.out.new af.out;clear ar aq;refine xL (fuel:=5) (fuel':=7) (idx:=[0,1]) (by kernel_rfl) rfl rfl rfl (fun _ _ _ _ _ h=>h) ⟨⟨zd,zz am.out.lin.box⟩,rfl⟩ ?_
    show wpQuiet _ _ _ _ [_,_] _
    iterate 2 (go_big_quiet_step (fail))
    refine wpQuiet_nil ?_;refine zN (fuel:=4) (fuel':=5) (i:=2) rfl (by kernel_rfl) rfl rfl (by rfl) ?_
    intro K J;go_simp;have cS:Hid (Y9 w w8 (zd.alloc (.cells #[.string ⟨#[124,32]⟩,.string (za s)] 9)) X G (yN E m fault (.slice U frames.length V) out A (.slice bs y.length cs) B n z) (.pointer (some ⟨h,0,none⟩)) r9 PR):=am.out.new ((Below.refl _ _).alloc (Nat.le_refl _) _);refine J.out _ _ (fun _=>⟨⟨_,zz cS.out.lin.box⟩,rfl⟩) ?_
    clear J K;refine zN (fuel:=3) (fuel':=4) (i:=3) rfl (by kernel_rfl) rfl rfl (by rfl) ?_
    intro K J;go_simp;have cl:=yM [[124,32],s] zd (by simp) (by simp;omega)
    rw [←cJ.out] at cl;refine cl.mono ?_;clear cl;rintro e z1 ⟨rfl,hb⟩;have I:Hid (Y9 w w8 z1 X G (yN E m fault (.slice U frames.length V) out A (.slice bs y.length cs) B n z) (.pointer (some ⟨h,0,none⟩)) r9 PR):=am.out.new hb;clear hb
    (try go_simp)
    refine J.out _ _ (fun _=>⟨⟨z1,zz I.out.lin.box⟩,rfl⟩) ?_
    clear J K;refine zN (fuel:=2) (fuel':=3) (i:=4) rfl (by kernel_rfl) rfl rfl (by rfl) ?_
    intro K J;go_simp;have cK:Hid (Y9 w w8 (z1.alloc (.cells #[.string (za LB)] 9)) X G (yN E m fault (.slice U frames.length V) out A (.slice bs y.length cs) B n z) (.pointer (some ⟨h,0,none⟩)) r9 PR):=I.out.new ((Below.refl _ _).alloc (Nat.le_refl _) _);refine J.out _ _ (fun _=>⟨⟨_,zz cK.out.lin.box⟩,rfl⟩) ?_
    clear J K;refine xM (fuel:=1) (fuel':=2) (i:=5) rfl (by kernel_rfl) rfl rfl (by rfl) ?_
    intro K J;refine zT (.tmp 52) (.tmp 56) rfl (by rfl) w.heap.size r9 PR [LB] rfl z1 w I.out.lin.strs rfl rfl (by have:=aB.out;simp;omega) ?_
    intro v9 z3 ai O ag;obtain ⟨n9,b9,c9,rfl⟩:=ye ai.row;have az:Hid (Y9 w w8 (z3.setCell ⟨X,0,none⟩ (.slice b9 n9 c9)) X G (yN E m fault (.slice U frames.length V) out A (.slice bs y.length cs) B n z) (.pointer (some ⟨h,0,none⟩)) (.slice b9 n9 c9) (PR++[LB])):=I.out.put ai O ag;have ak:Hid _:=zn (I.out.lin.strs.row.alloc _) O ((Below.heap_alloc _ _ _ (zc I.out.lin.box)).trans I.out.lin.box) (by decide)
    refine J.out _ _ (fun _=>⟨⟨z3,zz ak.out⟩,rfl⟩) ?_
    clear J K ai O ag
    (try simp only [Act.put,List.setIfInBounds_toArray,List.set_cons_zero,List.set_cons_succ])
    refine zN (fuel:=0) (fuel':=1) (i:=6) rfl (by kernel_rfl) rfl rfl (by rfl) ?_
    intro K J;have aq:=zz ak.out;have aN:=Yy ak.out 0;go_simp;refine J.out _ _ (fun h=>absurd rfl h) ?_
    clear J K;refine YT (by kernel_rfl) ?_
    clear x0 aq aN aI;go_wp2
    exact ⟨⟨i+1,_,by omega,by go_num,by rw [aU.out];exact az.out⟩,by simp [intOf];omega⟩
   ·have bG:¬ (i:Int)<F.length:=by omega
    obtain rfl:i=F.length:=by omega
    rw [List.take_length] at HJ;obtain ⟨L2,ba⟩:∃L2,L2=L1++F.map fun s=>zA ([124,32]++s):=⟨_,rfl⟩
    rw [←ba] at HJ;have cZ:Hid (L2=L1++F.map fun s=>zA ([124,32]++s)):=ba
    have bk:Hid (L2.length≤2000000):=by
     have:=bn.out
     show _≤_
     rw [ba,List.length_append,List.length_map];omega
    clear ba;obtain ⟨p0,p1,p2,p3,p4,p5,p6,p7,p8,p9⟩:=zs HJ.out.lin.view
    go_upto_region 15 with fail
    have cN:Hid (Y9 w w8 wr X G (yN E m fault (.slice U frames.length V) out A (.slice bs y.length cs) B n z) (.pointer (some ⟨h,0,none⟩)) r9 L2):=HJ.out;clear HJ
    go_upto_region 16 with fail
    clear p0 p1 p2 p3 p4 p5 p6 p7 p8 p9;have cM:=HS.out.nstops;simp only at cM
    go_loopw [62] (fun vi wr=>∃(i:Nat) (r:Value),i≤y.length∧vi=.int .i64 (i:Int)∧Y9 w w8 wr X G (yN E m fault (.slice U frames.length V) out A (.slice bs y.length cs) B n z) (.pointer (some ⟨h,0,none⟩)) r (L2++(y.take i).map Zh)) (fun vi _=>y.length-(intOf vi).toNat)
    case atStart=>exact ⟨0,r9,Nat.zero_le _,rfl,by simpa using cN.out⟩
    case round =>
     obtain ⟨i,r9,hi,rfl,hj⟩:=hrel;have HJ:Hid (Y9 w w8 wr X G (yN E m fault (.slice U frames.length V) out A (.slice bs y.length cs) B n z) (.pointer (some ⟨h,0,none⟩)) r9 (L2++(y.take i).map Zh)):=hj;clear hj
     by_cases hlt:i<y.length
     ·have bG:(i:Int)<y.length:=by omega
      obtain ⟨b,o,rfl,-,bq,e0,e1,e2,e3,e4⟩:=bZ.out i hlt;have db:Hid (Below w.heap.size w wr):=HJ.out.lin.strs.below;have aJ:∀q,wr.cell? ⟨b,q,none⟩=w.cell? ⟨b,q,none⟩:=fun q=>zb db.out bq
      rw [←aJ] at e0 e1 e2 e3 e4;have b4:Hid (YA y[i]):=HS.out.stops _ (List.getElem_mem hlt);have aj:Hid ((y.take (i+1)).map Zh=(y.take i).map Zh++[Zh y[i]]):=XA _ y hlt;obtain ⟨st,bg⟩:∃st,st=y[i]:=⟨_,rfl⟩;rw [←bg] at e0 e1 e2 e3 e4 b4 aj;obtain ⟨Z,ab,Y,aa,ad⟩:=st;simp only at e0 e1 e2 e3 e4;have cH:Hid (∀W,Below w.heap.size w W→Calls Tryz.prog 29 #[Ux ⟨Z,ab,Y,aa,ad⟩] W fun e w'=>e=.returned (.string (za (Zh ⟨Z,ab,Y,aa,ad⟩)))∧Below W.heap.size W w'):=fun W hW=>xN _ W b4.out (HT.out.below hW (Nat.le_refl _))
      obtain ⟨LB,aF⟩:∃LB,LB=Zh ⟨Z,ab,Y,aa,ad⟩:=⟨_,rfl⟩;rw [←aF] at aj cH
      have aB:Hid ((L2++(y.take i).map Zh).length≤4000000):=by
       have:=bk.out
       show _≤_
       rw [List.length_append,List.length_map,List.length_take];omega
      obtain ⟨PR,al⟩:∃PR,PR=L2++(y.take i).map Zh:=⟨_,rfl⟩
      have aU:Hid (L2++(y.take (i+1)).map Zh=PR++[LB]):=by
       show _=_
       rw [aj.out,al,List.append_assoc]
      rw [←al] at HJ aB;obtain ⟨av,ca,ax,c5,h5⟩:=yj wr (.cells #[.int .i64 Z,.int .i64 ab,.string (za Y),.string (za aa),.bool ad] 82);have cT:Hid (av=wr.alloc (.cells #[.int .i64 Z,.int .i64 ab,.string (za Y),.string (za aa),.bool ad] 82)):=ca;have br:Hid (av.heap[wr.heap.size]?=some (.cells #[.int .i64 Z,.int .i64 ab,.string (za Y),.string (za aa),.bool ad] 82 (0,0))):=h5;have cF:Hid (Y9 w w8 av X G (yN E m fault (.slice U frames.length V) out A (.slice (some ⟨b,o,none⟩) y.length cs) B n z) (.pointer (some ⟨h,0,none⟩)) r9 PR):=HJ.out.new ax;clear bg aF al aj ca ax h5 c5 aJ
      go_upto_region 18 with fail
      rw [←cT.out];clear e0 e1 e2 e3 e4
      have ah:Hid (∀W,Y9 w w8 W X G (yN E m fault (.slice U frames.length V) out A (.slice (some ⟨b,o,none⟩) y.length cs) B n z) (.pointer (some ⟨h,0,none⟩)) r9 PR→W.heap[wr.heap.size]?=some (.cells #[.int .i64 Z,.int .i64 ab,.string (za Y),.string (za aa),.bool ad] 82 (0,0))→W.cell? ⟨X,0,none⟩=some r9∧W.cell? ⟨wr.heap.size,0,none⟩=some (.int .i64 Z)∧W.cell? ⟨wr.heap.size,1,none⟩=some (.int .i64 ab)∧W.cell? ⟨wr.heap.size,2,none⟩=some (.string (za Y))∧W.cell? ⟨wr.heap.size,3,none⟩=some (.string (za aa))∧W.cell? ⟨wr.heap.size,4,none⟩=some (.bool ad)):=fun W hL hF=>by
       obtain ⟨a0,a1,a2,a3,a4⟩:=zZ hF;exact ⟨zz hL.lin.box,a0,a1,a2,a3,a4⟩
      have x0:∀c:zE fun W=>W.cell? ⟨X,0,none⟩=some r9∧W.cell? ⟨wr.heap.size,0,none⟩=some (.int .i64 Z)∧W.cell? ⟨wr.heap.size,1,none⟩=some (.int .i64 ab)∧W.cell? ⟨wr.heap.size,2,none⟩=some (.string (za Y))∧W.cell? ⟨wr.heap.size,3,none⟩=some (.string (za aa))∧W.cell? ⟨wr.heap.size,4,none⟩=some (.bool ad),c.1.cell? ⟨X,0,none⟩=some r9:=fun c=>c.2.1
      have x1:∀c:zE fun W=>W.cell? ⟨X,0,none⟩=some r9∧W.cell? ⟨wr.heap.size,0,none⟩=some (.int .i64 Z)∧W.cell? ⟨wr.heap.size,1,none⟩=some (.int .i64 ab)∧W.cell? ⟨wr.heap.size,2,none⟩=some (.string (za Y))∧W.cell? ⟨wr.heap.size,3,none⟩=some (.string (za aa))∧W.cell? ⟨wr.heap.size,4,none⟩=some (.bool ad),c.1.cell? ⟨wr.heap.size,0,none⟩=some (.int .i64 Z):=fun c=>c.2.2.1
      have x2:∀c:zE fun W=>W.cell? ⟨X,0,none⟩=some r9∧W.cell? ⟨wr.heap.size,0,none⟩=some (.int .i64 Z)∧W.cell? ⟨wr.heap.size,1,none⟩=some (.int .i64 ab)∧W.cell? ⟨wr.heap.size,2,none⟩=some (.string (za Y))∧W.cell? ⟨wr.heap.size,3,none⟩=some (.string (za aa))∧W.cell? ⟨wr.heap.size,4,none⟩=some (.bool ad),c.1.cell? ⟨wr.heap.size,1,none⟩=some (.int .i64 ab):=fun c=>c.2.2.2.1
      have x3:∀c:zE fun W=>W.cell? ⟨X,0,none⟩=some r9∧W.cell? ⟨wr.heap.size,0,none⟩=some (.int .i64 Z)∧W.cell? ⟨wr.heap.size,1,none⟩=some (.int .i64 ab)∧W.cell? ⟨wr.heap.size,2,none⟩=some (.string (za Y))∧W.cell? ⟨wr.heap.size,3,none⟩=some (.string (za aa))∧W.cell? ⟨wr.heap.size,4,none⟩=some (.bool ad),c.1.cell? ⟨wr.heap.size,2,none⟩=some (.string (za Y)):=fun c=>c.2.2.2.2.1
      have x4:∀c:zE fun W=>W.cell? ⟨X,0,none⟩=some r9∧W.cell? ⟨wr.heap.size,0,none⟩=some (.int .i64 Z)∧W.cell? ⟨wr.heap.size,1,none⟩=some (.int .i64 ab)∧W.cell? ⟨wr.heap.size,2,none⟩=some (.string (za Y))∧W.cell? ⟨wr.heap.size,3,none⟩=some (.string (za aa))∧W.cell? ⟨wr.heap.size,4,none⟩=some (.bool ad),c.1.cell? ⟨wr.heap.size,3,none⟩=some (.string (za aa)):=fun c=>c.2.2.2.2.2.1
      have x5:∀c:zE fun W=>W.cell? ⟨X,0,none⟩=some r9∧W.cell? ⟨wr.heap.size,0,none⟩=some (.int .i64 Z)∧W.cell? ⟨wr.heap.size,1,none⟩=some (.int .i64 ab)∧W.cell? ⟨wr.heap.size,2,none⟩=some (.string (za Y))∧W.cell? ⟨wr.heap.size,3,none⟩=some (.string (za aa))∧W.cell? ⟨wr.heap.size,4,none⟩=some (.bool ad),c.1.cell? ⟨wr.heap.size,4,none⟩=some (.bool ad):=fun c=>c.2.2.2.2.2.2
      haveI aI:Nonempty (zE fun W=>W.cell? ⟨X,0,none⟩=some r9∧W.cell? ⟨wr.heap.size,0,none⟩=some (.int .i64 Z)∧W.cell? ⟨wr.heap.size,1,none⟩=some (.int .i64 ab)∧W.cell? ⟨wr.heap.size,2,none⟩=some (.string (za Y))∧W.cell? ⟨wr.heap.size,3,none⟩=some (.string (za aa))∧W.cell? ⟨wr.heap.size,4,none⟩=some (.bool ad)):=⟨⟨av,ah.out _ cF.out br.out⟩⟩
      refine xj 5 (n:=6) (S:=fun w'=>∃c:zE fun W=>W.cell? ⟨X,0,none⟩=some r9∧W.cell? ⟨wr.heap.size,0,none⟩=some (.int .i64 Z)∧W.cell? ⟨wr.heap.size,1,none⟩=some (.int .i64 ab)∧W.cell? ⟨wr.heap.size,2,none⟩=some (.string (za Y))∧W.cell? ⟨wr.heap.size,3,none⟩=some (.string (za aa))∧W.cell? ⟨wr.heap.size,4,none⟩=some (.bool ad),w'=c.1) (by kernel_rfl) rfl rfl ?_
      have af:Hid (Below av.heap.size av av.drew):=(Below.refl _ _).drew;obtain ⟨zd,ar⟩:∃zd,zd=av.drew:=⟨_,rfl⟩;rw [←ar] at af ⊢;have am:Hid _:=cF.out.new af.out;have bv:Hid _:=(af.out.block _ (zc br.out)).trans br.out;clear ar;refine xL (fuel:=4) (fuel':=6) (idx:=[0,1]) (by kernel_rfl) rfl rfl rfl (fun _ _ _ _ _ h=>h) ⟨⟨zd,ah.out _ am.out bv.out⟩,rfl⟩ ?_
      show wpQuiet _ _ _ _ [_,_] _
      iterate 2 (go_big_quiet_step (fail))
      refine wpQuiet_nil ?_;refine zN (fuel:=3) (fuel':=4) (i:=2) rfl (by kernel_rfl) rfl rfl (by rfl) ?_
      intro K J;go_simp;refine (cH.out zd am.out.lin.strs.below).mono ?_;rintro e z1 ⟨rfl,hb⟩;have I:Hid _:=am.out.new hb;have an:Hid _:=(hb.block _ (zc bv.out)).trans bv.out;clear hb
      (try go_simp)
      refine J.out _ _ (fun _=>⟨⟨z1,ah.out _ I.out an.out⟩,rfl⟩) ?_
      clear J K;refine zN (fuel:=2) (fuel':=3) (i:=3) rfl (by kernel_rfl) rfl rfl (by rfl) ?_
      intro K J;go_simp;have aw:Hid (Below z1.heap.size z1 (z1.alloc (.cells #[.string (za LB)] 9))):=(Below.refl _ _).alloc (Nat.le_refl _) _;refine J.out _ _ (fun _=>⟨⟨_,ah.out _ (I.out.new aw.out) ((aw.out.block _ (zc an.out)).trans an.out)⟩,rfl⟩) ?_
      clear J K;refine xM (fuel:=1) (fuel':=2) (i:=4) rfl (by kernel_rfl) rfl rfl (by rfl) ?_
      intro K J;refine zT (.tmp 66) (.tmp 69) rfl (by rfl) w.heap.size r9 PR [LB] rfl z1 w I.out.lin.strs rfl rfl (by have:=aB.out;simp;omega) ?_
      intro v9 z3 ai O ag;obtain ⟨n9,b9,c9,rfl⟩:=ye ai.row;have az:Hid (Y9 w w8 (z3.setCell ⟨X,0,none⟩ (.slice b9 n9 c9)) X G (yN E m fault (.slice U frames.length V) out A (.slice (some ⟨b,o,none⟩) y.length cs) B n z) (.pointer (some ⟨h,0,none⟩)) (.slice b9 n9 c9) (PR++[LB])):=I.out.put ai O ag;have ak:Hid _:=zn (I.out.lin.strs.row.alloc _) O ((Below.heap_alloc _ _ _ (zc I.out.lin.box)).trans I.out.lin.box) (by decide)
      have bO:Hid _:=zn (I.out.lin.strs.row.alloc _) O ((Below.heap_alloc _ _ _ (zc an.out)).trans an.out) (by decide)
      have aA:Hid (z3.cell? ⟨X,0,none⟩=some r9∧z3.cell? ⟨wr.heap.size,0,none⟩=some (.int .i64 Z)∧z3.cell? ⟨wr.heap.size,1,none⟩=some (.int .i64 ab)∧z3.cell? ⟨wr.heap.size,2,none⟩=some (.string (za Y))∧z3.cell? ⟨wr.heap.size,3,none⟩=some (.string (za aa))∧z3.cell? ⟨wr.heap.size,4,none⟩=some (.bool ad)):=by
       obtain ⟨a0,a1,a2,a3,a4⟩:=zZ bO.out;exact ⟨zz ak.out,a0,a1,a2,a3,a4⟩
      refine J.out _ _ (fun _=>⟨⟨z3,aA.out⟩,rfl⟩) ?_
      clear J K ai O ag
      (try simp only [Act.put,List.setIfInBounds_toArray,List.set_cons_zero,List.set_cons_succ])
      refine zN (fuel:=0) (fuel':=1) (i:=5) rfl (by kernel_rfl) rfl rfl (by rfl) ?_
      intro K J;have aq:=zz ak.out;have aN:=Yy ak.out 0;go_simp;refine J.out _ _ (fun h=>absurd rfl h) ?_
      clear J K;refine YT (by kernel_rfl) ?_
      clear x0 x1 x2 x3 x4 x5 aq aN aI;go_wp2
      exact ⟨⟨i+1,_,by omega,by go_num,by rw [aU.out];exact az.out⟩,by simp [intOf];omega⟩
     ·have bG:¬ (i:Int)<y.length:=by omega
      obtain rfl:i=y.length:=by omega
      rw [List.take_length] at HJ;obtain ⟨PR,al⟩:∃PR,PR=L2++y.map Zh:=⟨_,rfl⟩;rw [←al] at HJ;have aU:Hid (PR=L2++y.map Zh):=al
      have aB:Hid (PR.length≤4000000):=by
       have:=bk.out
       show _≤_
       rw [al,List.length_append,List.length_map];omega
      clear al
      go_upto_region 20 with fail
      have ah:Hid (∀W,Y9 w w8 W X G (yN E m fault (.slice U frames.length V) out A (.slice bs y.length cs) B n z) (.pointer (some ⟨h,0,none⟩)) r9 PR→W.cell? ⟨X,0,none⟩=some r9∧W.cell? ⟨w.heap.size,7,none⟩=some (.int .i64 B)∧W.cell? ⟨w.heap.size,8,none⟩=some (.int .i64 n)∧W.cell? ⟨w.heap.size,9,none⟩=some (.string (za z))):=fun W hL=>by
       obtain ⟨-,-,-,-,-,-,-,b7,b8,b9⟩:=zs hL.lin.view;exact ⟨zz hL.lin.box,b7,b8,b9⟩
      have x0:∀c:zE fun W=>W.cell? ⟨X,0,none⟩=some r9∧W.cell? ⟨w.heap.size,7,none⟩=some (.int .i64 B)∧W.cell? ⟨w.heap.size,8,none⟩=some (.int .i64 n)∧W.cell? ⟨w.heap.size,9,none⟩=some (.string (za z)),c.1.cell? ⟨X,0,none⟩=some r9:=fun c=>c.2.1
      have x1:∀c:zE fun W=>W.cell? ⟨X,0,none⟩=some r9∧W.cell? ⟨w.heap.size,7,none⟩=some (.int .i64 B)∧W.cell? ⟨w.heap.size,8,none⟩=some (.int .i64 n)∧W.cell? ⟨w.heap.size,9,none⟩=some (.string (za z)),c.1.cell? ⟨w.heap.size,7,none⟩=some (.int .i64 B):=fun c=>c.2.2.1
      have x2:∀c:zE fun W=>W.cell? ⟨X,0,none⟩=some r9∧W.cell? ⟨w.heap.size,7,none⟩=some (.int .i64 B)∧W.cell? ⟨w.heap.size,8,none⟩=some (.int .i64 n)∧W.cell? ⟨w.heap.size,9,none⟩=some (.string (za z)),c.1.cell? ⟨w.heap.size,8,none⟩=some (.int .i64 n):=fun c=>c.2.2.2.1
      have x3:∀c:zE fun W=>W.cell? ⟨X,0,none⟩=some r9∧W.cell? ⟨w.heap.size,7,none⟩=some (.int .i64 B)∧W.cell? ⟨w.heap.size,8,none⟩=some (.int .i64 n)∧W.cell? ⟨w.heap.size,9,none⟩=some (.string (za z)),c.1.cell? ⟨w.heap.size,9,none⟩=some (.string (za z)):=fun c=>c.2.2.2.2
      haveI aI:Nonempty (zE fun W=>W.cell? ⟨X,0,none⟩=some r9∧W.cell? ⟨w.heap.size,7,none⟩=some (.int .i64 B)∧W.cell? ⟨w.heap.size,8,none⟩=some (.int .i64 n)∧W.cell? ⟨w.heap.size,9,none⟩=some (.string (za z))):=⟨⟨wr,ah.out _ HJ.out⟩⟩
      refine Z8 (n:=8) (S:=fun w'=>∃c:zE fun W=>W.cell? ⟨X,0,none⟩=some r9∧W.cell? ⟨w.heap.size,7,none⟩=some (.int .i64 B)∧W.cell? ⟨w.heap.size,8,none⟩=some (.int .i64 n)∧W.cell? ⟨w.heap.size,9,none⟩=some (.string (za z)),w'=c.1) (by kernel_rfl) rfl rfl ?_
      have af:Hid (Below wr.heap.size wr wr.drew):=(Below.refl _ _).drew;obtain ⟨zd,ar⟩:∃zd,zd=wr.drew:=⟨_,rfl⟩;rw [←ar] at af ⊢;have am:Hid _:=HJ.out.new af.out;clear ar;refine ZB (fuel:=5) (fuel':=8) (idx:=[0,1,2]) (by kernel_rfl) rfl rfl rfl (fun _ _ _ _ _ h=>h) ⟨⟨zd,ah.out _ am.out⟩,rfl⟩ ?_
      show wpQuiet _ _ _ _ [_,_,_] _
      iterate 3 (go_big_quiet_step (fail))
      refine wpQuiet_nil ?_;refine zV (fuel:=4) (fuel':=5) (i:=3) rfl (by kernel_rfl) rfl rfl (by rfl) ?_
      intro K J;go_simp;refine (Y7 B n z zd HS.out.err HS.out.n HS.out.says (HT.out.below am.out.lin.strs.below (Nat.le_refl _))).mono ?_;rintro e z1 ⟨rfl,hb⟩;have I:Hid _:=am.out.new hb;clear hb
      (try go_simp)
      refine J.out _ _ ⟨⟨z1,ah.out _ I.out⟩,rfl⟩ ?_;clear J K;refine zV (fuel:=3) (fuel':=4) (i:=4) rfl (by kernel_rfl) rfl rfl (by rfl) ?_
      intro K J;go_simp;have aw:Hid (Below z1.heap.size z1 (z1.alloc (.cells #[.string (za (ZI B n z))] 9))):=(Below.refl _ _).alloc (Nat.le_refl _) _;refine J.out _ _ ⟨⟨_,ah.out _ (I.out.new aw.out)⟩,rfl⟩ ?_;clear J K;refine xy (fuel:=2) (fuel':=3) (i:=5) rfl (by kernel_rfl) rfl rfl (by rfl) ?_
      intro K J;refine zT (.tmp 72) (.tmp 76) rfl (by rfl) w.heap.size r9 PR [ZI B n z] rfl z1 w I.out.lin.strs rfl rfl (by have:=aB.out;simp;omega) ?_
      intro v9 z3 ai O ag;have cL:Hid (zm w.heap.size w z3 v9 (PR++[ZI B n z])):=ai;have bC:Hid _:=zn (I.out.lin.strs.row.alloc _) O ((Below.heap_alloc _ _ _ (zc I.out.lin.view)).trans I.out.lin.view) (by decide)
      have ak:Hid _:=zn (I.out.lin.strs.row.alloc _) O ((Below.heap_alloc _ _ _ (zc I.out.lin.box)).trans I.out.lin.box) (by decide)
      have aA:Hid (z3.cell? ⟨X,0,none⟩=some r9∧z3.cell? ⟨w.heap.size,7,none⟩=some (.int .i64 B)∧z3.cell? ⟨w.heap.size,8,none⟩=some (.int .i64 n)∧z3.cell? ⟨w.heap.size,9,none⟩=some (.string (za z))):=by
       obtain ⟨-,-,-,-,-,-,-,b7,b8,b9⟩:=zs bC.out;exact ⟨zz ak.out,b7,b8,b9⟩
      have cV:Hid (z3.heap[D]?=some (.deferred (some []))):=by
       have bU:z1.heap[D]?=some (.deferred (some [])):=(I.out.kept D cy.out).trans c7.out;have ct:(z1.alloc (.cells #[.string (za (ZI B n z))] 9)).heap[D]?=some (.deferred (some [])):=(Below.heap_alloc _ _ _ (zH bU)).trans bU;exact (O.block D (zH ct) (fun e=>I.out.away D e.symm cy.out)).trans ct
      refine J.out _ _ ⟨⟨z3,aA.out⟩,rfl⟩ ?_;clear J K ai O ag
      (try simp only [Act.put,List.setIfInBounds_toArray,List.set_cons_zero,List.set_cons_succ])
      refine ZB (fuel:=0) (fuel':=2) (idx:=[6,7]) (by kernel_rfl) rfl rfl rfl (fun _ _ _ _ _ h=>h) ⟨⟨z3,aA.out⟩,rfl⟩ ?_
      show wpQuiet _ _ _ _ [_,_] _
      iterate 2 (go_big_quiet_step (fail))
      refine wpQuiet_nil ?_;refine yH (by kernel_rfl) ?_
      clear x0 x1 x2 x3 aI;go_wp2
      have J:=cV.out;refine ⟨by simp,.inl ⟨_,_,rfl,run_takeDeferred J,?_⟩⟩
      refine ⟨_,results_tmp2 rfl _ _ _,.inr ⟨HM.out,v9,rfl,?_⟩⟩;have bS:=cL.out.putObj (o':=.deferred none) J rfl dc.out
      have e:Zx os ⟨⟨E,m,fault,frames,out⟩,A,y,⟨B,n,z⟩⟩=PR++[ZI B n z]:=by
       rw [aU.out,cZ.out,ae.out,cU.out,aR.out];rfl
      rw [e];exact bS
end Go.Proofs.YtbjndgachcdbcaaGreatDoor
