import Derived.Test.YtbjndgachcdbcaaGreatDoorMC18
import Derived.Test.YtbjndgachcdbcaaGreatDoorVMixL
import Derived.Test.YtbjndgachcdbcaaGreatDoorVFrame
import Derived.Test.YtbjndgachcdbcaaGreatDoorVStop
import Derived.Test.YtbjndgachcdbcaaGreatDoorVReply
import Derived.Test.YtbjndgachcdbcaaGreatDoorVOut
import Derived.Test.YtbjndgachcdbcaaGreatDoorVMay
import Derived.Deep.DeepCutAuto
namespace Go.Proofs.YtbjndgachcdbcaaGreatDoor
open Go.RowKit Go.Shelf
set_option maxHeartbeats 16000000
set_option maxRecDepth 100000
attribute [local go_sem] Oper.semAt_some
structure Z1 (w W:World) (X:Nat) (xs:Array Value) (hp r:Value) (l:List (List UInt8)):Prop where
 view:W.heap[w.heap.size]?=some (.cells xs 35 (0,0))
 ptr:W.heap[w.heap.size+1]?=some (.cells #[hp] 37 (0,0))
 box:W.heap[X]?=some (.cells #[r] 41 (0,0))
 low:w.heap.size≤X
 strs:zl w.heap.size w W r l
theorem Z1.new {w W W':World} {X:Nat} {xs:Array Value} {hp r:Value} {l:List (List UInt8)} (h:Z1 w W X xs hp r l) (hb:Below W.heap.size W W'):Z1 w W' X xs hp r l :=
 ⟨(hb.block _ (zc h.view)).trans h.view,(hb.block _ (zc h.ptr)).trans h.ptr,(hb.block _ (zc h.box)).trans h.box,h.low,h.strs.new hb⟩
theorem zy {w:World} {N:Nat} {x0:Value} {ty:TypeId} (h:w.heap[N]?=some (.cells #[x0] ty (0,0))):w.cell? ⟨N,0,none⟩=some x0:=by
 simp only [World.cell?,h];rfl
theorem Z1.put {w W W3:World} {X:Nat} {xs:Array Value} {hp r v:Value} {l m:List (List UInt8)} {o:Obj} (h:Z1 w W X xs hp r l) (hj:zl w.heap.size w W3 v m) (hg:(W.alloc o).grownBy W3 r.ownBlock):Z1 w (W3.setCell ⟨X,0,none⟩ v) X xs hp v m:=by
 have q:=zm (h.strs.row.alloc _) hg ((Below.heap_alloc _ _ _ (zc h.view)).trans h.view) (by decide)
 have c:=zm (h.strs.row.alloc _) hg ((Below.heap_alloc _ _ _ (zc h.ptr)).trans h.ptr) (by decide)
 have b:=zm (h.strs.row.alloc _) hg ((Below.heap_alloc _ _ _ (zc h.box)).trans h.box) (by decide)
 have y:w.heap.size≠X:=fun e=>by rw [e,b] at q;simp at q
 have A:w.heap.size+1≠X:=fun e=>by rw [e,b] at c;simp at c
 refine ⟨(Below.heap_setCell _ _ _ _ (by simpa using y)).trans q,(Below.heap_setCell _ _ _ _ (by simpa using A)).trans c,?_,h.low,⟨?_,hj.below.setCell (p:=⟨X,0,none⟩) h.low _,by simpa using hj.low⟩⟩
 ·have:=heap_setCell_same W3 X 0 #[r] 41 v b
  simpa using this
 ·refine ownsRow_setCell_other hj.row (a:=⟨X,0,none⟩) (fun e=>?_) _
  obtain ⟨z,u⟩:=Zp hj.row e;rw [b] at u
  simp at u
theorem zo {w:World} {N:Nat} {x0 x1 x2 x3 x4 x5 x6 x7 x8 x9:Value} {ty:TypeId} (h:w.heap[N]?=some (.cells #[x0,x1,x2,x3,x4,x5,x6,x7,x8,x9] ty (0,0))):w.cell? ⟨N,0,none⟩=some x0∧w.cell? ⟨N,1,none⟩=some x1∧w.cell? ⟨N,2,none⟩=some x2∧w.cell? ⟨N,3,none⟩=some x3∧w.cell? ⟨N,4,none⟩=some x4∧w.cell? ⟨N,5,none⟩=some x5∧w.cell? ⟨N,6,none⟩=some x6∧w.cell? ⟨N,7,none⟩=some x7∧w.cell? ⟨N,8,none⟩=some x8∧w.cell? ⟨N,9,none⟩=some x9:=by
 refine ⟨?_,?_,?_,?_,?_,?_,?_,?_,?_,?_⟩ <;> (simp only [World.cell?,h];rfl)
theorem zF {w:World} {N:Nat} {o:Obj} (h:w.heap[N]?=some o):N<w.heap.size:=(Array.getElem?_eq_some_iff.1 h).1
theorem Yl (os:List Ob) (sel:Int):∀(k:Nat) (l:List Fr) (f:Fr),framesB os sel k (l++[f])=framesB os sel k l++[ZF os f (decide (((k+l.length:Nat):Int)=sel))]
 | k,[],f=>by simp [framesB]
 | k,x::t,f=>by
  rw [List.cons_append,framesB,Yl os sel (k+1) t f,framesB,List.cons_append,List.length_cons,show k+1+t.length=k+(t.length+1) by omega]
theorem ZB (os:List Ob) (sel:Int):∀(k:Nat) (l:List Fr),(framesB os sel k l).length=l.length
 | _,[]=>rfl
 | k,_::t=>by rw [framesB,List.length_cons,ZB os sel (k+1) t,List.length_cons]
theorem xT (os:List Ob) (sel:Int) (frames:List Fr) {i k:Nat} (hk:k<frames.length) (h:frames.length=k+1+i):framesB os sel 0 (frames.reverse.take (i+1))=framesB os sel 0 (frames.reverse.take i)++[ZF os frames[k] (decide ((i:Int)=sel))]:=by
 have m:i<frames.reverse.length:=by rw [List.length_reverse];omega
 have e:frames.reverse.take i++[frames.reverse[i]]=frames.reverse.take (i+1):=List.take_append_getElem m
 have b:frames.reverse[i]=frames[k]:=by
  rw [List.getElem_reverse]
  congr 1
  omega
 have c:(frames.reverse.take i).length=i:=by rw [List.length_take];omega
 rw [←e,Yl,b,c,Nat.zero_add]
abbrev yP (pos status fault:Int) (vf:Value) (out:List UInt8) (sel:Int) (vs:Value) (err n:Int) (says:List UInt8):Array Value:=#[.int .i64 pos,.int .i64 status,.int .i64 fault,vf,.string (za out),.int .i64 sel,vs,.int .i64 err,.int .i64 n,.string (za says)]
theorem Z1.turn {w W W':World} {X:Nat} {xs:Array Value} {hp r:Value} {l:List (List UInt8)} (h:Z1 w W X xs hp r l) (hB:Below w.heap.size W W') (hk:∀(b:Nat) (c:Array Value) (ty:TypeId) (z:Nat × Nat),W.heap[b]?=some (.cells c ty z)→W'.heap[b]?=W.heap[b]?):Z1 w W' X xs hp r l :=
 ⟨(hk _ _ _ _ h.view).trans h.view,(hk _ _ _ _ h.ptr).trans h.ptr,(hk _ _ _ _ h.box).trans h.box,h.low,
  ⟨zi h.strs.row fun k e _=>by obtain ⟨c,m⟩:=Zp h.strs.row e;exact hk _ _ _ _ m,h.strs.below.trans hB,Nat.le_trans h.strs.low hB.size⟩⟩
structure uO (w:World) (X D Bn:Nat) (xs:Array Value) (hp sl:Value) (os:List Ob) (sel:Int) (frames:List Fr) (pl:List UInt8) (ob:Obj) (i:Nat) (W:World):Prop where
 lin:∃r,Z1 w W X xs hp r ([pl]++framesB os sel 0 (frames.reverse.take i))
 dfr:W.heap[D]?=some (.deferred (some []))
 loop:W.heap[D+1]?=some ob
 itr:W.heap[Bn]?=some (.cells #[sl] 27 (0,0))
 wD:w.heap.size≤D
theorem uO.turn {w:World} {X D Bn:Nat} {xs:Array Value} {hp sl:Value} {os:List Ob} {sel:Int} {frames:List Fr} {pl:List UInt8} {ob ob':Obj} {i:Nat} {W W':World} (h:uO w X D Bn xs hp sl os sel frames pl ob i W) (hob:ob.isCells=false)
  (hB:Below w.heap.size W W') (hk:∀b,b<W.heap.size→b≠D+1→W'.heap[b]?=W.heap[b]?) (h4:W'.heap[D+1]?=some ob'):uO w X D Bn xs hp sl os sel frames pl ob' i W':=by
 have c:∀(k:Nat) (cur:Array Value) (e:TypeId) (z:Nat × Nat),W.heap[k]?=some (Obj.cells cur e z)→W'.heap[k]?=W.heap[k]?:=fun k cur e z hh=>by
  refine hk k (Array.getElem?_eq_some_iff.1 hh).1 (fun e'=>?_)
  have m:=h.loop;subst e';rw [hh] at m;cases m
  cases hob
 obtain ⟨r,o⟩:=h.lin;exact ⟨⟨r,o.turn hB c⟩,(hk _ (Array.getElem?_eq_some_iff.1 h.dfr).1 (by omega)).trans h.dfr,h4,(c _ _ _ _ h.itr).trans h.itr,h.wD⟩
theorem uO.step {w:World} {X D Bn:Nat} {xs:Array Value} {hp sl r v:Value} {os:List Ob} {sel:Int} {frames:List Fr} {pl:List UInt8} {ob o:Obj} {i:Nat} {Wb z1 z3:World} {l:List (List UInt8)} (h:uO w X D Bn xs hp sl os sel frames pl ob i Wb) (hob:ob.isCells=false)
  (hb:Below Wb.heap.size Wb z1) (hL:Z1 w z1 X xs hp r l) (hg:(z1.alloc o).grownBy z3 r.ownBlock) (hN:Z1 w (z3.setCell ⟨X,0,none⟩ v) X xs hp v ([pl]++framesB os sel 0 (frames.reverse.take (i+1)))):uO w X D Bn xs hp sl os sel frames pl ob (i+1) (z3.setCell ⟨X,0,none⟩ v):=by
 have u:=zm (hL.strs.row.alloc _) hg ((Below.heap_alloc _ _ _ (zc hL.box)).trans hL.box) (by decide)
 have c:∀(q:Nat) (o':Obj),Wb.heap[q]?=some o'→(∀b z,o'≠.cells b 9 z)→(∀b z,o'≠.cells b 41 z)→(z3.setCell ⟨X,0,none⟩ v).heap[q]?=some o':=by
  intro q o' A H G;have B:z1.heap[q]?=some o':=(hb.block _ (zF A)).trans A;have m:(z1.alloc o).heap[q]?=some o':=(Below.heap_alloc _ _ _ (zF B)).trans B
  have y:z3.heap[q]?=some o':=(hg.block q (zF m) (fun e=>by
   obtain ⟨b,E⟩:=Zp (hL.strs.row.alloc o) e.symm;rw [m] at E
   exact H _ _ (Option.some.inj E))).trans m
  have F:q≠X:=fun e=>by
   subst e;rw [y] at u;exact G _ _ (Option.some.inj u)
  exact (Below.heap_setCell _ _ _ _ (by simpa using F)).trans y
 exact ⟨⟨_,hN⟩,c _ _ h.dfr (fun _ _ e=>by cases e) (fun _ _ e=>by cases e),c _ _ h.loop (fun _ _ e=>by rw [e] at hob;cases hob) (fun _ _ e=>by rw [e] at hob;cases hob),c _ _ h.itr (fun _ _ e=>by simp at e) (fun _ _ e=>by simp at e),h.wD⟩
structure xe (w W0 W:World) (X:Nat) (G:Nat→Prop) (xs:Array Value) (hp r:Value) (l:List (List UInt8)):Prop where
 lin:Z1 w W X xs hp r l
 kept:∀q,G q→W.heap[q]?=W0.heap[q]?
 gs:∀q,G q→q<W0.heap.size
 size:W0.heap.size≤W.heap.size
 away:∀q,r.ownBlock=some q→¬ G q
 far:¬ G X
theorem xe.new {w W0 W W':World} {X:Nat} {G:Nat→Prop} {xs:Array Value} {hp r:Value} {l:List (List UInt8)} (h:xe w W0 W X G xs hp r l) (hb:Below W.heap.size W W'):xe w W0 W' X G xs hp r l :=
 ⟨h.lin.new hb,fun q hq=>(hb.block q (by have:=h.gs q hq;have:=h.size;omega)).trans (h.kept q hq),h.gs,Nat.le_trans h.size hb.size,h.away,h.far⟩
theorem xe.put {w W0 z1 z3:World} {X:Nat} {G:Nat→Prop} {xs:Array Value} {hp r v:Value} {l m:List (List UInt8)} {o:Obj} (h:xe w W0 z1 X G xs hp r l) (hj:zl w.heap.size w z3 v m) (hg:(z1.alloc o).grownBy z3 r.ownBlock) (hloc:v.ownBlock=r.ownBlock∨∃k,v.ownBlock=some k∧(z1.alloc o).heap.size≤k):xe w W0 (z3.setCell ⟨X,0,none⟩ v) X G xs hp v m:=by
 have y:=hg.size;have A:=h.size;refine ⟨h.lin.put hj hg,fun q hq=>?_,h.gs,by simp;simp at y;omega,fun q e hq=>?_,h.far⟩
 ·have b:=h.gs q hq
  have u:q≠X:=fun e=>h.far (by rw [←e];exact hq)
  rw [Below.heap_setCell _ _ _ _ (by simpa using u),hg.block q (by simp;omega) (fun e=>h.away q e.symm hq),Below.heap_alloc _ _ _ (by omega)]
  exact h.kept q hq
 ·have b:=h.gs q hq
  rcases hloc with c | ⟨k,c,z⟩
  ·exact h.away q (c.symm.trans e) hq
  ·rw [c] at e
   have B:k=q:=Option.some.inj e
   simp at z
   omega
theorem zR {ops:Array Oper} {o:Oper} {a:Act} {w:World} {K:Act→World→Prop} {Q:Exit→Act→World→Prop} {E:Prop} (s x:Operand)
  (ho:o.op=.call { callee:=.builtin .append,args:=#[s,x],argTypes:=#[41,41] }) (hw:Region.wanted o (yielded ops a.tmps)=true)
  (B:Nat) (v:Value) (l m:List (List UInt8)) (hs:a.eval s=v) (w1:World) (w0:World) (hj:zl B w0 w1 v l) (hw1:w=w1.alloc (.cells (strC m).toArray 9)) (hx:a.eval x=.slice (some ⟨w1.heap.size,0,none⟩) m.length m.length)
  (hb:l.length+m.length≤4294967296)
  (h:∀b c,zl B w0 c b (l++m)→w.grownBy c v.ownBlock→(b.ownBlock=v.ownBlock∨∃k,b.ownBlock=some k∧w.heap.size≤k)→K (a.put o.dst b) c) :
  if Region.wanted o (yielded ops a.tmps)=true then Oper.wp Tryz.prog o a w K Q else E:=by
 obtain ⟨G,H,A,D,z⟩:=info_parts YO;subst hw1;have F:=hj.low;refine Z0 s x 41 ho hw B 9 G (.string ⟨#[]⟩) 1 16 Tryz.underlying41 H A D z rfl (by decide) v l.length _ hs (hj.row.alloc _) ⟨w1.heap.size,0,none⟩ m.length m.length (strC m) hx (by rw [ZN,Nat.mul_one]) (ZV _ _ _) (YN m) (by unfold maxLen;omega) (by omega) (by simp;omega) ?_
 intro b c y q u;exact h b c (hj.app ((Below.refl _ _).alloc (Nat.le_refl _) _) y q) q (u.imp id fun e=>⟨_,e,Nat.le_refl _⟩)
theorem xy:∀(ls:List (List UInt8)) (s:List UInt8),s∈ls→s.length≤(ze ls).length
 | [],_,h=>by cases h
 | x::t,s,h=>by
  have e:ze (x::t)=(x++[10])++ze t:=rfl;rw [e,List.length_append,List.length_append];rcases List.mem_cons.1 h with rfl | h
  ·omega
  ·have:=xy t s h;omega
theorem V5 (out s:List UInt8) (h:s∈yM out):s.length≤out.length:=by
 obtain ⟨rest,-,b,-⟩:=ZA out [] (fun _ h=>by cases h)
 have e:=xy _ s (List.mem_of_mem_drop h);rw [List.nil_append] at b;have c:=congrArg List.length b;rw [List.length_append] at c;omega
theorem XG (out:List UInt8):(yM out).length≤4:=by unfold yM vN;rw [List.length_drop];omega
theorem XH {α β:Type} (f:α→β) (l:List α) {i:Nat} (h:i<l.length):(l.take (i+1)).map f=(l.take i).map f++[f l[i]]:=by
 have e:l.take i++[l[i]]=l.take (i+1):=List.take_append_getElem h;rw [←e,List.map_append];rfl
theorem zl.putObj {B D:Nat} {w0 w:World} {v:Value} {l:List (List UInt8)} {o o':Obj} (h:zl B w0 w v l) (hd:w.heap[D]?=some o) (ho:o.isCells=false) (hD:B≤D):zl B w0 (w.putObj D o') v l:=by
 refine ⟨zi h.row fun k e _=>?_,h.below.grown (grownBy_putObj' _ _ _) h.low (fun k e=>by cases e;omega),?_⟩
 ·obtain ⟨c,b⟩:=Zp h.row e
  refine World.putObj_heap_other fun e'=>?_
  rw [e',hd] at b;cases b
  cases ho
 ·have:=(grownBy_putObj' w D o').size
  exact Nat.le_trans h.low this
theorem Yc {S T:Nat→Prop} {most:Nat} {os:List Ob} {h:Nat} {vo vc:Value} (v:Vw) (vf vs:Value) (w:World) (H:zw S w most os h vo vc) (hv:zL T w v vf vs) (hs:Z9 v) (ht:Yr w) :
  Calls Tryz.prog 13 #[ut vf vs v,.pointer (some ⟨h,0,none⟩)] w fun e w'=>(Y8 os.length v=false∧e=.returned (.tuple #[.slice none 0 0,.int .i64 2])∧Below w.heap.size w w')∨(Y8 os.length v=true∧∃r,e=.returned (.tuple #[r,.int .i64 0])∧zl w.heap.size w w' r (linesB os v)):=by
 have HH:Hid (zw S w most os h vo vc):=H;have HV:Hid (zL T w v vf vs):=hv;have HS:Hid (Z9 v):=hs;have HT:Hid (Yr w):=ht;obtain ⟨U,V,rfl,bl,bY,aR⟩:=hv.frames.at;obtain ⟨bs,cs,rfl,bk,b4,aO⟩:=hv.stops.at;obtain ⟨⟨F,m,fault,frames,out⟩,A,y,⟨B,n,z⟩⟩:=v;simp only at aR aO bl bk;have cA:Hid (∀i (hi:i<frames.length),∃b o,U=some ⟨b,o,none⟩∧T b∧b<w.heap.size∧Ur T w b (o+i*3) frames[i]):=aR;have bS:Hid (∀i (hi:i<y.length),∃b o,bs=some ⟨b,o,none⟩∧T b∧b<w.heap.size∧Uy w b (o+i*5) y[i]):=aO;obtain ⟨w2,b2,ao,cL,h0,h1⟩:=UA w (.cells #[.int .i64 F,.int .i64 m,.int .i64 fault,.slice U frames.length V,.string (za out),.int .i64 A,.slice bs y.length cs,.int .i64 B,.int .i64 n,.string (za z)] 35) (.cells #[.pointer (some ⟨h,0,none⟩)] 37);have bN:Hid (w2=(w.alloc (.cells #[.int .i64 F,.int .i64 m,.int .i64 fault,.slice U frames.length V,.string (za out),.int .i64 A,.slice bs y.length cs,.int .i64 B,.int .i64 n,.string (za z)] 35)).alloc (.cells #[.pointer (some ⟨h,0,none⟩)] 37)):=b2;have cH:Hid (Below w.heap.size w w2):=ao;have cz:Hid (w2.heap[w.heap.size]?=some (.cells #[.int .i64 F,.int .i64 m,.int .i64 fault,.slice U frames.length V,.string (za out),.int .i64 A,.slice bs y.length cs,.int .i64 B,.int .i64 n,.string (za z)] 35 (0,0))):=h0;have ct:Hid (w2.heap[w.heap.size+1]?=some (.cells #[.pointer (some ⟨h,0,none⟩)] 37 (0,0))):=h1;have ci:=Vk w2 (H.below ao) (ht.below ao (Nat.le_refl _)).tabs;obtain ⟨p0,p1,p2,p3,p4,p5,p6,p7,p8,p9⟩:=zo h0;have pp:=zy h1
 have ch:Hid (∀W,Below w.heap.size w W→Calls Tryz.prog 23 #[.agg #[.int .i64 F,.int .i64 m,.int .i64 fault,.slice U frames.length V,.string (za out)],.pointer (some ⟨h,0,none⟩)] W fun e w'=>e=.returned (.bool (XD os.length m fault frames))∧Below W.heap.size W w'):=fun W hW =>
  XF _ F m fault out frames W (HH.out.below hW) (HV.out.below hW).frames HS.out.frames HS.out.nframes (HT.out.below hW (Nat.le_refl _))
 have HM:Hid (Y8 os.length ⟨⟨F,m,fault,frames,out⟩,A,y,⟨B,n,z⟩⟩=XD os.length m fault frames):=rfl
 have ce:Hid (XD os.length m fault frames=true→0≤m∧m≤2):=fun h=>by
  unfold XD at h
  simp only [Bool.and_eq_true,decide_eq_true_eq] at h;exact h.1.1
 obtain ⟨M,hM⟩:∃M,M=XD os.length m fault frames:=⟨_,rfl⟩;rw [←hM] at HM ch ce;clear b2 ao h0 h1 cL H hv hs ht aR aO bl bY bk b4 hM;refine (callsIn_wide (n:=5)).1 ?_;refine callsIn_of_wp_marks Tryz.func13 rfl trivial ?_ rfl;simp only [Tryz.ntmps13,List.size_toArray,List.length_cons,List.length_nil,Nat.reduceAdd,Nat.reduceSub,Array.replicate_succ,Array.replicate_zero,List.push_toArray,List.append_toArray,List.nil_append,List.cons_append];refine wpIn_wide.2 ?_;go_wp2_with fail
 rw [←bN.out];refine ci.mono ?_;clear ci p0 p1 p2 p3 p4 p5 p6 p7 p8 p9 pp;rintro e w3 ⟨rfl,a6⟩;have bF:Hid (Below w.heap.size w w3):=cH.out.trans (a6.mono cH.out.size);have bA:Hid (w3.heap[w.heap.size]?=some (.cells #[.int .i64 F,.int .i64 m,.int .i64 fault,.slice U frames.length V,.string (za out),.int .i64 A,.slice bs y.length cs,.int .i64 B,.int .i64 n,.string (za z)] 35 (0,0))):=(a6.block _ (zc cz.out)).trans cz.out;have bq:Hid (w3.heap[w.heap.size+1]?=some (.cells #[.pointer (some ⟨h,0,none⟩)] 37 (0,0))):=(a6.block _ (zc ct.out)).trans ct.out;obtain ⟨p0,p1,p2,p3,p4,p5,p6,p7,p8,p9⟩:=zo bA.out;have pp:=zy bq.out;have cm:=ch.out w3 bF.out;clear a6;go_wp2_with fail
 refine cm.mono ?_;clear cm p0 p1 p2 p3 p4 p5 p6 p7 p8 p9 pp;rintro e w4 ⟨rfl,aY⟩;have aX:Hid (Below w.heap.size w w4):=bF.out.trans (aY.mono bF.out.size);have bK:Hid (w4.heap[w.heap.size]?=some (.cells #[.int .i64 F,.int .i64 m,.int .i64 fault,.slice U frames.length V,.string (za out),.int .i64 A,.slice bs y.length cs,.int .i64 B,.int .i64 n,.string (za z)] 35 (0,0))):=(aY.block _ (zc bA.out)).trans bA.out;have aJ:Hid (w4.heap[w.heap.size+1]?=some (.cells #[.pointer (some ⟨h,0,none⟩)] 37 (0,0))):=(aY.block _ (zc bq.out)).trans bq.out;clear aY;cases M with
 | false =>
  go_wp2_with fail
  exact ⟨_,results_tmp2 rfl _ _ _,.inl ⟨HM.out,rfl,aX.out⟩⟩
 | true =>
  obtain ⟨p0,p1,p2,p3,p4,p5,p6,p7,p8,p9⟩:=zo bK.out;have aF:=ce.out rfl;have cp:=xa (.slice U frames.length V) F m fault out w4 HS.out.pos (HT.out.below aX.out (Nat.le_refl _)) aF;clear aF;go_wp2_with fail
  refine cp.mono ?_;clear cp p0 p1 p2 p3 p4 p5 p6 p7 p8 p9;rintro e w5 ⟨rfl,ax⟩;have bH:Hid (Below w.heap.size w w5):=aX.out.trans (ax.mono aX.out.size);have a8:Hid (w5.heap[w.heap.size]?=some (.cells #[.int .i64 F,.int .i64 m,.int .i64 fault,.slice U frames.length V,.string (za out),.int .i64 A,.slice bs y.length cs,.int .i64 B,.int .i64 n,.string (za z)] 35 (0,0))):=(ax.block _ (zc bK.out)).trans bK.out;have br:Hid (w5.heap[w.heap.size+1]?=some (.cells #[.pointer (some ⟨h,0,none⟩)] 37 (0,0))):=(ax.block _ (zc aJ.out)).trans aJ.out;obtain ⟨p0,p1,p2,p3,p4,p5,p6,p7,p8,p9⟩:=zo a8.out;clear ax
  go_upto_region 6 with fail
  have aT:Z1 w ((w5.alloc (.cells #[.string (za (Zg F m fault))] 9)).alloc (.cells #[.slice (some ⟨w5.heap.size,0,none⟩) 1 1] 41)) (w5.heap.size+1) (yP F m fault (.slice U frames.length V) out A (.slice bs y.length cs) B n z) (.pointer (some ⟨h,0,none⟩)) (.slice (some ⟨w5.heap.size,0,none⟩) 1 1) [Zg F m fault]:=by
   have dl:=bH.out.size;have hl:=zl.lit w.heap.size w w5 [Zg F m fault] bH.out bH.out.size (by simp [maxLen])
   refine ⟨?_,?_,?_,by omega,hl.new ((Below.refl _ _).alloc (Nat.le_refl _) _)⟩
   ·exact (Below.heap_alloc _ _ _ (by have:=zc a8.out;simp;omega)).trans ((Below.heap_alloc _ _ _ (zc a8.out)).trans a8.out)
   ·exact (Below.heap_alloc _ _ _ (by have:=zc br.out;simp;omega)).trans ((Below.heap_alloc _ _ _ (zc br.out)).trans br.out)
   ·have:=World.alloc_heap_new (w5.alloc (.cells #[.string (za (Zg F m fault))] 9)) (.cells #[.slice (some ⟨w5.heap.size,0,none⟩) 1 1] 41)
    simpa using this
  obtain ⟨X,hX⟩:∃X,X=w5.heap.size+1:=⟨_,rfl⟩;obtain ⟨r6,cq⟩:∃r6,r6=Value.slice (some ⟨w5.heap.size,0,none⟩) 1 1:=⟨_,rfl⟩;obtain ⟨w6,b1⟩:∃w6,w6=(w5.alloc (.cells #[.string (za (Zg F m fault))] 9)).alloc (.cells #[.slice (some ⟨w5.heap.size,0,none⟩) 1 1] 41):=⟨_,rfl⟩;obtain ⟨PL,bI⟩:∃PL,PL=Zg F m fault:=⟨_,rfl⟩;rw [←b1,←hX] at aT ⊢;rw [←bI] at aT;rw [←cq] at aT;have cT:Hid (PL=Zg F m fault):=bI;have b0:Hid _:=aT;clear p0 p1 p2 p3 p4 p5 p6 p7 p8 p9 bI;obtain ⟨p0,p1,p2,p3,p4,p5,p6,p7,p8,p9⟩:=zo b0.out.view;clear aT hX cq b1;go_wp2_with fail
  refine (callsIn_wide.1 (Y9 (.slice U frames.length V) U frames.length V rfl w6)).mono ?_;rintro e w7 ⟨rfl,bR⟩;clear p0 p1 p2 p3 p4 p5 p6 p7 p8 p9;have bi:Below w6.heap.size w6 w7:=by rw [bR];exact (Below.refl _ _).alloc (Nat.le_refl _) _
  have aD:w7.heap[w6.heap.size]?=some (.cells #[.slice U frames.length V] 27 (0,0)):=by rw [bR];exact World.alloc_heap_new _ _
  have bM:=b0.out.new bi;clear bR;go_wp2_with fail
  refine (wpIn_wide (n:=5)).1 (xN rfl (enters_of Tryz.func39 (by kernel_rfl) rfl) (fun r0 aF hpe htm hpa has hbo=>?_))
  obtain ⟨D,hD⟩:∃D,D=w7.heap.size:=⟨_,rfl⟩;obtain ⟨Bn,bV⟩:∃Bn,Bn=w6.heap.size:=⟨_,rfl⟩;rw [←hD];rw [←bV] at htm aD ⊢;have db:=bM.strs.low;have av:Below w7.heap.size w7 ((w7.alloc (.deferred (some []))).alloc (.loop r0)):=((Below.refl _ _).alloc (Nat.le_refl _) _).alloc (by simp) _
  have bU:((w7.alloc (.deferred (some []))).alloc (.loop r0)).heap[D]?=some (.deferred (some [])):=by
   rw [hD];exact (Below.heap_alloc _ _ _ (by simp)).trans (World.alloc_heap_new w7 _)
  have cv:((w7.alloc (.deferred (some []))).alloc (.loop r0)).heap[D+1]?=some (.loop r0):=by
   have:=World.alloc_heap_new (w7.alloc (.deferred (some []))) (.loop r0)
   rwa [World.size_alloc,←hD] at this
  have bx:uO w X D Bn (yP F m fault (.slice U frames.length V) out A (.slice bs y.length cs) B n z) (.pointer (some ⟨h,0,none⟩)) (.slice U frames.length V) os A frames PL (.loop r0) 0 ((w7.alloc (.deferred (some []))).alloc (.loop r0)) :=
   ⟨⟨r6,by simpa [framesB] using bM.new av⟩,bU,cv,(av.block _ (zc aD)).trans aD,by omega⟩
  generalize (w7.alloc (.deferred (some []))).alloc (.loop r0)=W0 at bx ⊢;clear bU cv av db bM aD bi hD bV;refine (Vi (D+1) Bn U V frames HS.out.nframes (fun i W=>uO w X D Bn (yP F m fault (.slice U frames.length V) out A (.slice bs y.length cs) B n z) (.pointer (some ⟨h,0,none⟩)) (.slice U frames.length V) os A frames PL (.loop r0) i W) (fun k u=>∀hk:k<frames.length,YQ T w u (frames[k]).vars) ?hJc ?hJe ?hY _ bx).mono ?_
  case hJc =>
   intro i W hJ;exact zy hJ.itr
  case hJe =>
   intro i W hJ k hk;obtain ⟨b,o,e,-,bD,c0,c1,u,c2,cY⟩:=cA.out k hk;obtain ⟨r,hr⟩:=hJ.lin;have aG:∀q,W.cell? ⟨b,q,none⟩=w.cell? ⟨b,q,none⟩:=fun q=>zb hr.strs.below bD
   exact ⟨b,o,u,e,(aG _).trans c0,(aG _).trans c1,(aG _).trans c2,fun _=>cY⟩
  case hY =>
   intro i R u k hk bQ hJ hP;have aZ:=hJ.loop;have bC:=hJ.wD;have cb:=zF aZ;obtain ⟨bu,cu,rfl,-⟩:=(hP hk).at;have HU:Hid (YQ T w (.slice bu (frames[k]).vars.length cu) (frames[k]).vars):=hP hk;have cE:Hid (Z8 frames[k]):=HS.out.frames _ (List.getElem_mem hk);have ai:=xT os A frames hk bQ;obtain ⟨f,hf⟩:∃f,f=frames[k]:=⟨_,rfl⟩;rw [←hf] at HU cE ai;simp only [←hf];obtain ⟨nv,bt⟩:∃nv,nv=f.vars.length:=⟨_,rfl⟩;rw [←bt] at HU ⊢;have di:Hid (nv=f.vars.length):=bt;clear hf bt;have bj:Hid (framesB os A 0 (frames.reverse.take (i+1))=framesB os A 0 (frames.reverse.take i)++[ZF os f (decide ((i:Int)=A))]):=ai;obtain ⟨W2,a5⟩:∃W2,W2=R.alloc (.cells #[.string (za f.fn),.int .i64 f.line,.slice bu nv cu] 52):=⟨_,rfl⟩;have bN:Hid (W2=R.alloc (.cells #[.string (za f.fn),.int .i64 f.line,.slice bu nv cu] 52)):=a5;have ao:Below R.heap.size R W2:=by rw [a5];exact (Below.refl _ _).alloc (Nat.le_refl _) _
   have b3:W2.heap[R.heap.size]?=some (.cells #[.string (za f.fn),.int .i64 f.line,.slice bu nv cu] 52 (0,0)):=by rw [a5];exact World.alloc_heap_new _ _
   obtain ⟨r1,cg⟩:=hJ.lin;have az:=cg.strs.low;have bE:=hJ.turn (ob':=.loop r0) (W':=W2) rfl (ao.mono az) (fun b hb _=>ao.block b hb) ((ao.block _ cb).trans aZ)
   have aC:=bE.loop;have aU:w.heap.size≤W2.heap.size:=Nat.le_trans az ao.size;refine ⟨_,_,_,_,run_yield aZ (by rw [hpa];rfl),roundIn_of_wpIn trivial ?_⟩
   rw [has,hbo,htm,hpa];simp only [List.zip_toArray,List.zip_cons_cons,List.zip_nil_right];have bb:=bE.turn (ob':=.loop { r0 with state:=.busy }) (W':=W2.putObj (D+1) (.loop { r0 with state:=.busy })) rfl ((Below.refl w.heap.size W2).grown (grownBy_putObj' W2 _ _) aU (fun k e=>by cases e;omega)) (fun b _ hb=>World.putObj_heap_other hb) (World.putObj_heap_same (zF aC))
   have bz:(W2.putObj (D+1) (.loop { r0 with state:=.busy })).heap[R.heap.size]?=some (.cells #[.string (za f.fn),.int .i64 f.line,.slice bu nv cu] 52 (0,0)):=(World.putObj_heap_other (by omega)).trans b3
   have bd:=run_beginRound (P:=Tryz.prog) aC aF;have bh:Hid ((Instr.beginRound (D+1)).run Tryz.prog W2=.ok () (W2.putObj (D+1) (.loop { r0 with state:=.busy }))):=bd;obtain ⟨Wb,bT⟩:∃Wb,Wb=W2.putObj (D+1) (.loop { r0 with state:=.busy }):=⟨_,rfl⟩;rw [←bT] at bb bz bh;obtain ⟨r9,cj⟩:=bb.lin;have aL:Hid (Z1 w Wb X (yP F m fault (.slice U frames.length V) out A (.slice bs y.length cs) B n z) (.pointer (some ⟨h,0,none⟩)) r9 ([PL]++framesB os A 0 (frames.reverse.take i))):=cj;have c3:Hid (uO w X D Bn (yP F m fault (.slice U frames.length V) out A (.slice bs y.length cs) B n z) (.pointer (some ⟨h,0,none⟩)) (.slice U frames.length V) os A frames PL (.loop { r0 with state:=.busy }) i Wb):=bb;have aP:Hid (Wb.heap[R.heap.size]?=some (.cells #[.string (za f.fn),.int .i64 f.line,.slice bu nv cu] 52 (0,0))):=bz;have df:i≤1048576:=by have:=HS.out.nframes;simp only at this;omega
   have dk:Hid (frames.length=k+1+i):=bQ
   have c4:Hid (({ { r0 with state:=.busy } with state:=if (none:Option Code).isNone then .ready else .done,pending:=none }:Loop)=r0):=by
    show _=_
    cases r0;simp_all
   clear ai hP hJ cg bb cj aZ bE aC bz b3 bT bd a5 ao bQ az aU cb
   gi_wp2_with fail
   rw [←bN.out];refine ⟨_,bh.out,?_⟩
   gi_wp2_with fail
   have ah:Hid (∀W,Z1 w W X (yP F m fault (.slice U frames.length V) out A (.slice bs y.length cs) B n z) (.pointer (some ⟨h,0,none⟩)) r9 ([PL]++framesB os A 0 (frames.reverse.take i))→W.heap[R.heap.size]?=some (.cells #[.string (za f.fn),.int .i64 f.line,.slice bu nv cu] 52 (0,0))→W.cell? ⟨X,0,none⟩=some r9∧W.cell? ⟨R.heap.size,0,none⟩=some (.string (za f.fn))∧W.cell? ⟨R.heap.size,1,none⟩=some (.int .i64 f.line)∧W.cell? ⟨R.heap.size,2,none⟩=some (.slice bu nv cu)∧W.cell? ⟨w.heap.size,5,none⟩=some (.int .i64 A)∧W.cell? ⟨w.heap.size+1,0,none⟩=some (.pointer (some ⟨h,0,none⟩))):=fun W hL hF=>by
    obtain ⟨a0,a1,a2⟩:=Zn hF;obtain ⟨-,-,-,-,-,b5,-,-,-,-⟩:=zo hL.view;exact ⟨zy hL.box,a0,a1,a2,b5,zy hL.ptr⟩
   have x0:∀c:zC fun W=>W.cell? ⟨X,0,none⟩=some r9∧W.cell? ⟨R.heap.size,0,none⟩=some (.string (za f.fn))∧W.cell? ⟨R.heap.size,1,none⟩=some (.int .i64 f.line)∧W.cell? ⟨R.heap.size,2,none⟩=some (.slice bu nv cu)∧W.cell? ⟨w.heap.size,5,none⟩=some (.int .i64 A)∧W.cell? ⟨w.heap.size+1,0,none⟩=some (.pointer (some ⟨h,0,none⟩)),c.1.cell? ⟨X,0,none⟩=some r9:=fun c=>c.2.1
   have x1:∀c:zC fun W=>W.cell? ⟨X,0,none⟩=some r9∧W.cell? ⟨R.heap.size,0,none⟩=some (.string (za f.fn))∧W.cell? ⟨R.heap.size,1,none⟩=some (.int .i64 f.line)∧W.cell? ⟨R.heap.size,2,none⟩=some (.slice bu nv cu)∧W.cell? ⟨w.heap.size,5,none⟩=some (.int .i64 A)∧W.cell? ⟨w.heap.size+1,0,none⟩=some (.pointer (some ⟨h,0,none⟩)),c.1.cell? ⟨R.heap.size,0,none⟩=some (.string (za f.fn)):=fun c=>c.2.2.1
   have x2:∀c:zC fun W=>W.cell? ⟨X,0,none⟩=some r9∧W.cell? ⟨R.heap.size,0,none⟩=some (.string (za f.fn))∧W.cell? ⟨R.heap.size,1,none⟩=some (.int .i64 f.line)∧W.cell? ⟨R.heap.size,2,none⟩=some (.slice bu nv cu)∧W.cell? ⟨w.heap.size,5,none⟩=some (.int .i64 A)∧W.cell? ⟨w.heap.size+1,0,none⟩=some (.pointer (some ⟨h,0,none⟩)),c.1.cell? ⟨R.heap.size,1,none⟩=some (.int .i64 f.line):=fun c=>c.2.2.2.1
   have x3:∀c:zC fun W=>W.cell? ⟨X,0,none⟩=some r9∧W.cell? ⟨R.heap.size,0,none⟩=some (.string (za f.fn))∧W.cell? ⟨R.heap.size,1,none⟩=some (.int .i64 f.line)∧W.cell? ⟨R.heap.size,2,none⟩=some (.slice bu nv cu)∧W.cell? ⟨w.heap.size,5,none⟩=some (.int .i64 A)∧W.cell? ⟨w.heap.size+1,0,none⟩=some (.pointer (some ⟨h,0,none⟩)),c.1.cell? ⟨R.heap.size,2,none⟩=some (.slice bu nv cu):=fun c=>c.2.2.2.2.1
   have x4:∀c:zC fun W=>W.cell? ⟨X,0,none⟩=some r9∧W.cell? ⟨R.heap.size,0,none⟩=some (.string (za f.fn))∧W.cell? ⟨R.heap.size,1,none⟩=some (.int .i64 f.line)∧W.cell? ⟨R.heap.size,2,none⟩=some (.slice bu nv cu)∧W.cell? ⟨w.heap.size,5,none⟩=some (.int .i64 A)∧W.cell? ⟨w.heap.size+1,0,none⟩=some (.pointer (some ⟨h,0,none⟩)),c.1.cell? ⟨w.heap.size,5,none⟩=some (.int .i64 A):=fun c=>c.2.2.2.2.2.1
   have x5:∀c:zC fun W=>W.cell? ⟨X,0,none⟩=some r9∧W.cell? ⟨R.heap.size,0,none⟩=some (.string (za f.fn))∧W.cell? ⟨R.heap.size,1,none⟩=some (.int .i64 f.line)∧W.cell? ⟨R.heap.size,2,none⟩=some (.slice bu nv cu)∧W.cell? ⟨w.heap.size,5,none⟩=some (.int .i64 A)∧W.cell? ⟨w.heap.size+1,0,none⟩=some (.pointer (some ⟨h,0,none⟩)),c.1.cell? ⟨w.heap.size+1,0,none⟩=some (.pointer (some ⟨h,0,none⟩)):=fun c=>c.2.2.2.2.2.2
   haveI aI:Nonempty (zC fun W=>W.cell? ⟨X,0,none⟩=some r9∧W.cell? ⟨R.heap.size,0,none⟩=some (.string (za f.fn))∧W.cell? ⟨R.heap.size,1,none⟩=some (.int .i64 f.line)∧W.cell? ⟨R.heap.size,2,none⟩=some (.slice bu nv cu)∧W.cell? ⟨w.heap.size,5,none⟩=some (.int .i64 A)∧W.cell? ⟨w.heap.size+1,0,none⟩=some (.pointer (some ⟨h,0,none⟩))):=⟨⟨Wb,ah.out Wb aL.out aP.out⟩⟩
   have af:Hid (Below Wb.heap.size Wb Wb.drew):=(Below.refl _ _).drew;refine Vj 10 (n:=11) (S:=fun w'=>∃c:zC fun W=>W.cell? ⟨X,0,none⟩=some r9∧W.cell? ⟨R.heap.size,0,none⟩=some (.string (za f.fn))∧W.cell? ⟨R.heap.size,1,none⟩=some (.int .i64 f.line)∧W.cell? ⟨R.heap.size,2,none⟩=some (.slice bu nv cu)∧W.cell? ⟨w.heap.size,5,none⟩=some (.int .i64 A)∧W.cell? ⟨w.heap.size+1,0,none⟩=some (.pointer (some ⟨h,0,none⟩)),w'=c.1) (by kernel_rfl) (by kernel_rfl) ?hq rfl rfl ?_
   case hq =>
    rintro ⟨a9,w9,h9⟩;exact h9
   refine xQ (fuel:=4) (fuel':=11) (idx:=[0,1,2,3,4,5,6]) (by kernel_rfl) rfl rfl rfl (fun _ _ _ _ _ h=>h) ⟨⟨Wb.drew,ah.out _ (aL.out.new af.out) ((af.out.block _ (zc aP.out)).trans aP.out)⟩,rfl⟩ ?_
   show wpQuiet _ _ _ _ [_,_,_,_,_,_,_] _
   iterate 7 (go_big_quiet_step (fail))
   refine wpQuiet_nil ?_;have cN:Hid (Below w.heap.size w Wb):=aL.out.strs.below;have cP:=aL.out.strs.low
   have cc:Hid (∀W,Below w.heap.size w W→Calls Tryz.prog 26 #[UB (.slice bu nv cu) f.fn f.line,.bool (decide ((i:Int)=A)),.pointer (some ⟨h,0,none⟩)] W fun e w'=>e=.returned (.string (za (ZF os f (decide ((i:Int)=A)))))∧Below W.heap.size W w'):=fun W hW =>
    xb f _ _ W (HH.out.below hW) (rowIn.kept HU.out (xr T) hW.size fun q _ hq=>hW.block q hq) cE.out (HT.out.below hW (Nat.le_refl _))
   obtain ⟨FB,cC⟩:∃FB,FB=ZF os f (decide ((i:Int)=A)):=⟨_,rfl⟩;rw [←cC] at cc bj;clear cC;refine zK (fuel:=3) (fuel':=4) (i:=7) rfl (by kernel_rfl) rfl rfl (by rfl) ?_
   intro K J;go_simp;refine (cc.out Wb.drew (cN.out.trans (af.out.mono cP))).mono ?_;rintro e z1 ⟨rfl,hb⟩;have aJ:Hid (Below Wb.heap.size Wb z1):=af.out.trans (hb.mono af.out.size);clear hb
   (try go_simp)
   have ae:Hid _:=aL.out.new aJ.out;have an:Hid _:=(aJ.out.block _ (zc aP.out)).trans aP.out;refine J.out _ _ (fun _=>⟨⟨z1,ah.out z1 ae.out an.out⟩,rfl⟩) ?_
   clear J K;refine zK (fuel:=2) (fuel':=3) (i:=8) rfl (by kernel_rfl) rfl rfl (by rfl) ?_
   intro K J;go_simp;have aw:Hid (Below z1.heap.size z1 (z1.alloc (.cells #[.string (za FB)] 9))):=(Below.refl _ _).alloc (Nat.le_refl _) _;refine J.out _ _ (fun _=>⟨⟨_,ah.out _ (ae.out.new aw.out) ((aw.out.block _ (zc an.out)).trans an.out)⟩,rfl⟩) ?_
   clear J K;refine xR (fuel:=1) (fuel':=2) (i:=9) rfl (by kernel_rfl) rfl rfl (by rfl) ?_
   intro K J;refine zZ (.tmp 33) (.tmp 41) rfl (by rfl) w.heap.size r9 ([PL]++framesB os A 0 (frames.reverse.take i)) [FB] rfl z1 w ae.out.strs rfl rfl (by rw [List.length_append,ZB,List.length_take];simp;omega) ?_
   intro v9 z3 aj O;obtain ⟨n9,b9,c9,rfl⟩:=yj aj.row;have ay:Hid (Z1 w (z3.setCell ⟨X,0,none⟩ (.slice b9 n9 c9)) X (yP F m fault (.slice U frames.length V) out A (.slice bs y.length cs) B n z) (.pointer (some ⟨h,0,none⟩)) (.slice b9 n9 c9) ([PL]++framesB os A 0 (frames.reverse.take i)++[FB])):=ae.out.put aj O;have bO:Hid _:=zm (ae.out.strs.row.alloc _) O ((Below.heap_alloc _ _ _ (zc ae.out.view)).trans ae.out.view) (by decide)
   have cR:Hid _:=zm (ae.out.strs.row.alloc _) O ((Below.heap_alloc _ _ _ (zc ae.out.ptr)).trans ae.out.ptr) (by decide)
   have ak:Hid _:=zm (ae.out.strs.row.alloc _) O ((Below.heap_alloc _ _ _ (zc ae.out.box)).trans ae.out.box) (by decide)
   have bL:Hid _:=zm (ae.out.strs.row.alloc _) O ((Below.heap_alloc _ _ _ (zc an.out)).trans an.out) (by decide)
   have aB:Hid (z3.cell? ⟨X,0,none⟩=some r9∧z3.cell? ⟨R.heap.size,0,none⟩=some (.string (za f.fn))∧z3.cell? ⟨R.heap.size,1,none⟩=some (.int .i64 f.line)∧z3.cell? ⟨R.heap.size,2,none⟩=some (.slice bu nv cu)∧z3.cell? ⟨w.heap.size,5,none⟩=some (.int .i64 A)∧z3.cell? ⟨w.heap.size+1,0,none⟩=some (.pointer (some ⟨h,0,none⟩))):=by
    obtain ⟨a0,a1,a2⟩:=Zn bL.out;obtain ⟨-,-,-,-,-,b5,-,-,-,-⟩:=zo bO.out;exact ⟨zy ak.out,a0,a1,a2,b5,zy cR.out⟩
   refine J.out _ _ (fun _=>⟨⟨z3,aB.out⟩,rfl⟩) ?_
   clear J K
   (try simp only [Act.put,List.setIfInBounds_toArray,List.set_cons_zero,List.set_cons_succ])
   refine zK (fuel:=0) (fuel':=1) (i:=10) rfl (by kernel_rfl) rfl rfl (by rfl) ?_
   intro K J;have aq:=aB.out.1;have aM:=xM ak.out 0;go_simp;refine J.out _ _ (fun h=>absurd rfl h) ?_
   clear J K;refine YT (by kernel_rfl) ?_
   clear x0 x1 x2 x3 x4 x5 aq aM;rw [List.append_assoc,←bj.out] at ay;have ca:=c3.out.step rfl aJ.out ae.out O ay.out;have bX:=ca.loop;have bv:=ay.out.strs.low;show ∃v w',_
   refine ⟨_,_,run_endRound none bX,rfl,?_⟩;rw [c4.out];exact ca.turn rfl ((Below.refl w.heap.size _).grown (grownBy_putObj' _ _ _) bv (fun k e=>by cases e;omega)) (fun b _ hb=>World.putObj_heap_other hb) (World.putObj_heap_same (zF bX))
  rintro e W3 ⟨⟨u3,rfl⟩,aQ⟩;have aC:=aQ.loop;have bC:=aQ.wD;obtain ⟨r3,cn⟩:=aQ.lin;refine ⟨r0.pending,_,run_endLoop (P:=Tryz.prog) aC (by rw [aF];simp),?_⟩
  have a7:=aQ.turn (ob':=.loop { r0 with state:=.exhausted }) (W':=W3.putObj (D+1) (.loop { r0 with state:=.exhausted })) rfl ((Below.refl w.heap.size W3).grown (grownBy_putObj' W3 _ _) cn.strs.low (fun k e=>by cases e;omega)) (fun b _ hb=>World.putObj_heap_other hb) (World.putObj_heap_same (zF aC))
  generalize W3.putObj (D+1) (.loop { r0 with state:=.exhausted })=W4 at a7 ⊢;obtain ⟨r4,aH⟩:=a7.lin;rw [show frames.reverse.take frames.length=frames.reverse by rw [←List.length_reverse,List.take_length]] at aH
  obtain ⟨L1,bc⟩:∃L1,L1=[PL]++framesB os A 0 frames.reverse:=⟨_,rfl⟩;rw [←bc] at aH;have ae:Hid (L1=[PL]++framesB os A 0 frames.reverse):=bc
  have bp:Hid (L1.length≤1048577):=by
   have:=HS.out.nframes
   simp only at this;show _≤_
   rw [bc,List.length_append,ZB,List.length_reverse]
   simp
   omega
  have aW:Hid (Z1 w W4 X (yP F m fault (.slice U frames.length V) out A (.slice bs y.length cs) B n z) (.pointer (some ⟨h,0,none⟩)) r4 L1):=aH;have aE:Hid (W4.heap[D]?=some (.deferred (some []))):=a7.dfr;have cU:Hid (w.heap.size≤D):=bC;obtain ⟨p0,p1,p2,p3,p4,p5,p6,p7,p8,p9⟩:=zo aH.view;have co:=xd out W4 HS.out.out (HT.out.below aH.strs.below (Nat.le_refl _));obtain ⟨E,ap⟩:∃E,E=yM out:=⟨_,rfl⟩;have dj:E.length≤4:=by rw [ap];exact XG out
  rw [←ap] at co;have aN:Hid (E=yM out):=ap;clear aQ a7 cn aH aC bc ap bC bx;rw [hpe];show Exit.inBlock 1 _ Exit.normal _ W4
  clear hpe aF htm hpa has hbo;go_wp2_with fail
  refine co.mono ?_;clear co p0 p1 p2 p3 p4 p5 p6 p7 p8 p9;rintro e w8 ⟨dg,rfl,bJ⟩;have cx:=bJ.in.at;obtain ⟨bo,co,rfl,cF,bZ,bg⟩:=cx;have cw:Hid (∀i (hi:i<E.length),∃b o,bo=some ⟨b,o,none⟩∧W4.heap.size≤b∧b<w8.heap.size∧Y6 w8 b (o+i*1) E[i]):=bg;have av:=bJ.below
  have bB:xe w w8 w8 X (fun q=>(∃o,bo=some ⟨q,o,none⟩∧W4.heap.size≤q∧q<w8.heap.size)∨q=D) (yP F m fault (.slice U frames.length V) out A (.slice bs y.length cs) B n z) (.pointer (some ⟨h,0,none⟩)) r4 L1:=by
   have cK:w8.heap[D]?=some (.deferred (some [])):=(av.block _ (zF aE.out)).trans aE.out;refine ⟨aW.out.new av,fun _ _=>rfl,?_,Nat.le_refl _,?_,?_⟩
   ·rintro q (⟨o,-,-,hq⟩ | rfl)
    ·exact hq
    ·exact zF cK
   ·intro q e hq
    rcases hq with ⟨o,-,hq,-⟩ | rfl
    ·have:=(aW.out.strs.row.lt q e).2
     omega
    ·obtain ⟨dh,hc⟩:=Zp aW.out.strs.row e
     rw [aE.out] at hc;cases hc
   ·rintro (⟨o,-,hq,-⟩ | e)
    ·have:=zc aW.out.box
     omega
    ·have hc:=aW.out.box
     rw [e,aE.out] at hc;cases hc
  obtain ⟨G,hG⟩:∃G:Nat→Prop,G=fun q=>(∃o,bo=some ⟨q,o,none⟩∧W4.heap.size≤q∧q<w8.heap.size)∨q=D:=⟨_,rfl⟩
  have cI:Hid (∀b o,bo=some ⟨b,o,none⟩→W4.heap.size≤b→b<w8.heap.size→G b):=fun b o e h1 h2=>by rw [hG];exact .inl ⟨o,e,h1,h2⟩
  have b6:Hid (G D):=by show G D;rw [hG];exact .inr rfl
  rw [←hG] at bB;have cJ:Hid _:=bB;have cV:Hid (w8.heap[D]?=some (.deferred (some []))):=(av.block _ (zF aE.out)).trans aE.out;clear hG;clear bJ bg av bB cF bZ;go_wp2
  go_loopw [48] (fun vi wr=>∃(i:Nat) (r:Value),i≤E.length∧vi=.int .i64 (i:Int)∧xe w w8 wr X G (yP F m fault (.slice U frames.length V) out A (.slice bs y.length cs) B n z) (.pointer (some ⟨h,0,none⟩)) r (L1++(E.take i).map fun s=>lineB ([124,32]++s))) (fun vi _=>E.length-(intOf vi).toNat)
  case atStart=>exact ⟨0,r4,Nat.zero_le _,rfl,by simpa using cJ.out⟩
  case round =>
   obtain ⟨i,r9,hi,rfl,hj⟩:=hrel;have HJ:Hid (xe w w8 wr X G (yP F m fault (.slice U frames.length V) out A (.slice bs y.length cs) B n z) (.pointer (some ⟨h,0,none⟩)) r9 (L1++(E.take i).map fun s=>lineB ([124,32]++s))):=hj
   clear hj
   by_cases hlt:i<E.length
   ·have bP:(i:Int)<E.length:=by omega
    obtain ⟨b,o,bm,c7,cZ,hc⟩:=cw.out i hlt;have cM:=cI.out b o bm c7 cZ;subst bm
    have aS:wr.cell? ⟨b,o+i,none⟩=some (.string (za E[i])):=by
     have h1:wr.cell? ⟨b,o+i*1,none⟩=some (.string (za E[i])):=(World.cell?_of_block (HJ.out.kept b cM)).trans hc
     simpa only [Nat.mul_one] using h1
    have c5:=V5 out E[i] (by rw [←aN.out];exact List.getElem_mem hlt)
    have ai:Hid ((E.take (i+1)).map (fun s=>lineB ([124,32]++s))=(E.take i).map (fun s=>lineB ([124,32]++s))++[lineB ([124,32]++E[i])]):=XH _ E hlt
    obtain ⟨s,hs⟩:∃s,s=E[i]:=⟨_,rfl⟩;rw [←hs] at aS c5 ai;have cr:=HS.out.out;simp only at cr
    have aA:Hid ((L1++(E.take i).map fun s=>lineB ([124,32]++s)).length≤2000000):=by
     have:=bp.out
     show _≤_
     rw [List.length_append,List.length_map,List.length_take];omega
    obtain ⟨LB,aK⟩:∃LB,LB=lineB ([124,32]++s):=⟨_,rfl⟩;rw [←aK] at ai
    have cW:Hid (LB=lineB ([[124,32],s]:List (List UInt8)).flatten):=by
     show _=_
     rw [aK];simp
    obtain ⟨PR,al⟩:∃PR,PR=(L1++(E.take i).map fun s=>lineB ([124,32]++s)):=⟨_,rfl⟩
    have aV:Hid (L1++(E.take (i+1)).map (fun s=>lineB ([124,32]++s))=PR++[LB]):=by
     show _=_
     rw [ai.out,al,List.append_assoc]
    rw [←al] at HJ aA;clear hs aK al hc ai
    go_upto_region 13 with fail
    clear aS;have aq:=zy HJ.out.lin.box;have x0:∀c:zC fun W=>W.cell? ⟨X,0,none⟩=some r9,c.1.cell? ⟨X,0,none⟩=some r9:=fun c=>c.2
    haveI aI:Nonempty (zC fun W=>W.cell? ⟨X,0,none⟩=some r9):=⟨⟨wr,aq⟩⟩
    refine xt 6 (n:=7) (S:=fun w'=>∃c:zC fun W=>W.cell? ⟨X,0,none⟩=some r9,w'=c.1) (by kernel_rfl) rfl rfl ?_
    have af:Hid (Below wr.heap.size wr wr.drew):=(Below.refl _ _).drew;obtain ⟨zd,au⟩:∃zd,zd=wr.drew:=⟨_,rfl⟩;rw [←au] at af ⊢;have am:Hid (xe w w8 zd X G (yP F m fault (.slice U frames.length V) out A (.slice bs y.length cs) B n z) (.pointer (some ⟨h,0,none⟩)) r9 PR):=HJ.out.new af.out;clear au aq;refine xQ (fuel:=5) (fuel':=7) (idx:=[0,1]) (by kernel_rfl) rfl rfl rfl (fun _ _ _ _ _ h=>h) ⟨⟨zd,zy am.out.lin.box⟩,rfl⟩ ?_
    show wpQuiet _ _ _ _ [_,_] _
    iterate 2 (go_big_quiet_step (fail))
    refine wpQuiet_nil ?_;refine zK (fuel:=4) (fuel':=5) (i:=2) rfl (by kernel_rfl) rfl rfl (by rfl) ?_
    intro K J;go_simp;have c8:Hid (xe w w8 (zd.alloc (.cells #[.string ⟨#[124,32]⟩,.string (za s)] 9)) X G (yP F m fault (.slice U frames.length V) out A (.slice bs y.length cs) B n z) (.pointer (some ⟨h,0,none⟩)) r9 PR):=am.out.new ((Below.refl _ _).alloc (Nat.le_refl _) _);refine J.out _ _ (fun _=>⟨⟨_,zy c8.out.lin.box⟩,rfl⟩) ?_
    clear J K;refine zK (fuel:=3) (fuel':=4) (i:=3) rfl (by kernel_rfl) rfl rfl (by rfl) ?_
    intro K J;go_simp;have cl:=yN [[124,32],s] zd (by simp) (by simp;omega)
    rw [←cW.out] at cl;refine cl.mono ?_;clear cl;rintro e z1 ⟨rfl,hb⟩;have I:Hid (xe w w8 z1 X G (yP F m fault (.slice U frames.length V) out A (.slice bs y.length cs) B n z) (.pointer (some ⟨h,0,none⟩)) r9 PR):=am.out.new hb;clear hb
    (try go_simp)
    refine J.out _ _ (fun _=>⟨⟨z1,zy I.out.lin.box⟩,rfl⟩) ?_
    clear J K;refine zK (fuel:=2) (fuel':=3) (i:=4) rfl (by kernel_rfl) rfl rfl (by rfl) ?_
    intro K J;go_simp;have dd:Hid (xe w w8 (z1.alloc (.cells #[.string (za LB)] 9)) X G (yP F m fault (.slice U frames.length V) out A (.slice bs y.length cs) B n z) (.pointer (some ⟨h,0,none⟩)) r9 PR):=I.out.new ((Below.refl _ _).alloc (Nat.le_refl _) _);refine J.out _ _ (fun _=>⟨⟨_,zy dd.out.lin.box⟩,rfl⟩) ?_
    clear J K;refine xR (fuel:=1) (fuel':=2) (i:=5) rfl (by kernel_rfl) rfl rfl (by rfl) ?_
    intro K J;refine zR (.tmp 52) (.tmp 56) rfl (by rfl) w.heap.size r9 PR [LB] rfl z1 w I.out.lin.strs rfl rfl (by have:=aA.out;simp;omega) ?_
    intro v9 z3 aj O ag;obtain ⟨n9,b9,c9,rfl⟩:=yj aj.row;have ay:Hid (xe w w8 (z3.setCell ⟨X,0,none⟩ (.slice b9 n9 c9)) X G (yP F m fault (.slice U frames.length V) out A (.slice bs y.length cs) B n z) (.pointer (some ⟨h,0,none⟩)) (.slice b9 n9 c9) (PR++[LB])):=I.out.put aj O ag;have ak:Hid _:=zm (I.out.lin.strs.row.alloc _) O ((Below.heap_alloc _ _ _ (zc I.out.lin.box)).trans I.out.lin.box) (by decide)
    refine J.out _ _ (fun _=>⟨⟨z3,zy ak.out⟩,rfl⟩) ?_
    clear J K aj O ag
    (try simp only [Act.put,List.setIfInBounds_toArray,List.set_cons_zero,List.set_cons_succ])
    refine zK (fuel:=0) (fuel':=1) (i:=6) rfl (by kernel_rfl) rfl rfl (by rfl) ?_
    intro K J;have aq:=zy ak.out;have aM:=xM ak.out 0;go_simp;refine J.out _ _ (fun h=>absurd rfl h) ?_
    clear J K;refine YT (by kernel_rfl) ?_
    clear x0 aq aM aI;go_wp2
    exact ⟨⟨i+1,_,by omega,by go_num,by rw [aV.out];exact ay.out⟩,by simp [intOf];omega⟩
   ·have bP:¬ (i:Int)<E.length:=by omega
    obtain rfl:i=E.length:=by omega
    rw [List.take_length] at HJ;obtain ⟨L2,ba⟩:∃L2,L2=L1++E.map fun s=>lineB ([124,32]++s):=⟨_,rfl⟩
    rw [←ba] at HJ;have cX:Hid (L2=L1++E.map fun s=>lineB ([124,32]++s)):=ba
    have bn:Hid (L2.length≤2000000):=by
     have:=bp.out
     show _≤_
     rw [ba,List.length_append,List.length_map];omega
    clear ba;obtain ⟨p0,p1,p2,p3,p4,p5,p6,p7,p8,p9⟩:=zo HJ.out.lin.view
    go_upto_region 15 with fail
    have cQ:Hid (xe w w8 wr X G (yP F m fault (.slice U frames.length V) out A (.slice bs y.length cs) B n z) (.pointer (some ⟨h,0,none⟩)) r9 L2):=HJ.out;clear HJ
    go_upto_region 16 with fail
    clear p0 p1 p2 p3 p4 p5 p6 p7 p8 p9;have da:=HS.out.nstops;simp only at da
    go_loopw [62] (fun vi wr=>∃(i:Nat) (r:Value),i≤y.length∧vi=.int .i64 (i:Int)∧xe w w8 wr X G (yP F m fault (.slice U frames.length V) out A (.slice bs y.length cs) B n z) (.pointer (some ⟨h,0,none⟩)) r (L2++(y.take i).map Ze)) (fun vi _=>y.length-(intOf vi).toNat)
    case atStart=>exact ⟨0,r9,Nat.zero_le _,rfl,by simpa using cQ.out⟩
    case round =>
     obtain ⟨i,r9,hi,rfl,hj⟩:=hrel;have HJ:Hid (xe w w8 wr X G (yP F m fault (.slice U frames.length V) out A (.slice bs y.length cs) B n z) (.pointer (some ⟨h,0,none⟩)) r9 (L2++(y.take i).map Ze)):=hj;clear hj
     by_cases hlt:i<y.length
     ·have bP:(i:Int)<y.length:=by omega
      obtain ⟨b,o,rfl,-,bD,e0,e1,e2,e3,e4⟩:=bS.out i hlt;have cO:Hid (Below w.heap.size w wr):=HJ.out.lin.strs.below;have aG:∀q,wr.cell? ⟨b,q,none⟩=w.cell? ⟨b,q,none⟩:=fun q=>zb cO.out bD
      rw [←aG] at e0 e1 e2 e3 e4;have bW:Hid (YA y[i]):=HS.out.stops _ (List.getElem_mem hlt);have ai:Hid ((y.take (i+1)).map Ze=(y.take i).map Ze++[Ze y[i]]):=XH _ y hlt;obtain ⟨st,be⟩:∃st,st=y[i]:=⟨_,rfl⟩;rw [←be] at e0 e1 e2 e3 e4 bW ai;obtain ⟨Z,Y,ab,aa,ad⟩:=st;simp only at e0 e1 e2 e3 e4;have cB:Hid (∀W,Below w.heap.size w W→Calls Tryz.prog 29 #[UE ⟨Z,Y,ab,aa,ad⟩] W fun e w'=>e=.returned (.string (za (Ze ⟨Z,Y,ab,aa,ad⟩)))∧Below W.heap.size W w'):=fun W hW=>xS _ W bW.out (HT.out.below hW (Nat.le_refl _))
      obtain ⟨LB,aK⟩:∃LB,LB=Ze ⟨Z,Y,ab,aa,ad⟩:=⟨_,rfl⟩;rw [←aK] at ai cB
      have aA:Hid ((L2++(y.take i).map Ze).length≤4000000):=by
       have:=bn.out
       show _≤_
       rw [List.length_append,List.length_map,List.length_take];omega
      obtain ⟨PR,al⟩:∃PR,PR=L2++(y.take i).map Ze:=⟨_,rfl⟩
      have aV:Hid (L2++(y.take (i+1)).map Ze=PR++[LB]):=by
       show _=_
       rw [ai.out,al,List.append_assoc]
      rw [←al] at HJ aA;obtain ⟨ar,cy,ax,dc,h5⟩:=Z6 wr (.cells #[.int .i64 Z,.int .i64 Y,.string (za ab),.string (za aa),.bool ad] 82);have de:Hid (ar=wr.alloc (.cells #[.int .i64 Z,.int .i64 Y,.string (za ab),.string (za aa),.bool ad] 82)):=cy;have bG:Hid (ar.heap[wr.heap.size]?=some (.cells #[.int .i64 Z,.int .i64 Y,.string (za ab),.string (za aa),.bool ad] 82 (0,0))):=h5;have cD:Hid (xe w w8 ar X G (yP F m fault (.slice U frames.length V) out A (.slice (some ⟨b,o,none⟩) y.length cs) B n z) (.pointer (some ⟨h,0,none⟩)) r9 PR):=HJ.out.new ax;clear be aK al ai cy ax h5 dc aG
      go_upto_region 18 with fail
      rw [←de.out];clear e0 e1 e2 e3 e4
      have ah:Hid (∀W,xe w w8 W X G (yP F m fault (.slice U frames.length V) out A (.slice (some ⟨b,o,none⟩) y.length cs) B n z) (.pointer (some ⟨h,0,none⟩)) r9 PR→W.heap[wr.heap.size]?=some (.cells #[.int .i64 Z,.int .i64 Y,.string (za ab),.string (za aa),.bool ad] 82 (0,0))→W.cell? ⟨X,0,none⟩=some r9∧W.cell? ⟨wr.heap.size,0,none⟩=some (.int .i64 Z)∧W.cell? ⟨wr.heap.size,1,none⟩=some (.int .i64 Y)∧W.cell? ⟨wr.heap.size,2,none⟩=some (.string (za ab))∧W.cell? ⟨wr.heap.size,3,none⟩=some (.string (za aa))∧W.cell? ⟨wr.heap.size,4,none⟩=some (.bool ad)):=fun W hL hF=>by
       obtain ⟨a0,a1,a2,a3,a4⟩:=zW hF;exact ⟨zy hL.lin.box,a0,a1,a2,a3,a4⟩
      have x0:∀c:zC fun W=>W.cell? ⟨X,0,none⟩=some r9∧W.cell? ⟨wr.heap.size,0,none⟩=some (.int .i64 Z)∧W.cell? ⟨wr.heap.size,1,none⟩=some (.int .i64 Y)∧W.cell? ⟨wr.heap.size,2,none⟩=some (.string (za ab))∧W.cell? ⟨wr.heap.size,3,none⟩=some (.string (za aa))∧W.cell? ⟨wr.heap.size,4,none⟩=some (.bool ad),c.1.cell? ⟨X,0,none⟩=some r9:=fun c=>c.2.1
      have x1:∀c:zC fun W=>W.cell? ⟨X,0,none⟩=some r9∧W.cell? ⟨wr.heap.size,0,none⟩=some (.int .i64 Z)∧W.cell? ⟨wr.heap.size,1,none⟩=some (.int .i64 Y)∧W.cell? ⟨wr.heap.size,2,none⟩=some (.string (za ab))∧W.cell? ⟨wr.heap.size,3,none⟩=some (.string (za aa))∧W.cell? ⟨wr.heap.size,4,none⟩=some (.bool ad),c.1.cell? ⟨wr.heap.size,0,none⟩=some (.int .i64 Z):=fun c=>c.2.2.1
      have x2:∀c:zC fun W=>W.cell? ⟨X,0,none⟩=some r9∧W.cell? ⟨wr.heap.size,0,none⟩=some (.int .i64 Z)∧W.cell? ⟨wr.heap.size,1,none⟩=some (.int .i64 Y)∧W.cell? ⟨wr.heap.size,2,none⟩=some (.string (za ab))∧W.cell? ⟨wr.heap.size,3,none⟩=some (.string (za aa))∧W.cell? ⟨wr.heap.size,4,none⟩=some (.bool ad),c.1.cell? ⟨wr.heap.size,1,none⟩=some (.int .i64 Y):=fun c=>c.2.2.2.1
      have x3:∀c:zC fun W=>W.cell? ⟨X,0,none⟩=some r9∧W.cell? ⟨wr.heap.size,0,none⟩=some (.int .i64 Z)∧W.cell? ⟨wr.heap.size,1,none⟩=some (.int .i64 Y)∧W.cell? ⟨wr.heap.size,2,none⟩=some (.string (za ab))∧W.cell? ⟨wr.heap.size,3,none⟩=some (.string (za aa))∧W.cell? ⟨wr.heap.size,4,none⟩=some (.bool ad),c.1.cell? ⟨wr.heap.size,2,none⟩=some (.string (za ab)):=fun c=>c.2.2.2.2.1
      have x4:∀c:zC fun W=>W.cell? ⟨X,0,none⟩=some r9∧W.cell? ⟨wr.heap.size,0,none⟩=some (.int .i64 Z)∧W.cell? ⟨wr.heap.size,1,none⟩=some (.int .i64 Y)∧W.cell? ⟨wr.heap.size,2,none⟩=some (.string (za ab))∧W.cell? ⟨wr.heap.size,3,none⟩=some (.string (za aa))∧W.cell? ⟨wr.heap.size,4,none⟩=some (.bool ad),c.1.cell? ⟨wr.heap.size,3,none⟩=some (.string (za aa)):=fun c=>c.2.2.2.2.2.1
      have x5:∀c:zC fun W=>W.cell? ⟨X,0,none⟩=some r9∧W.cell? ⟨wr.heap.size,0,none⟩=some (.int .i64 Z)∧W.cell? ⟨wr.heap.size,1,none⟩=some (.int .i64 Y)∧W.cell? ⟨wr.heap.size,2,none⟩=some (.string (za ab))∧W.cell? ⟨wr.heap.size,3,none⟩=some (.string (za aa))∧W.cell? ⟨wr.heap.size,4,none⟩=some (.bool ad),c.1.cell? ⟨wr.heap.size,4,none⟩=some (.bool ad):=fun c=>c.2.2.2.2.2.2
      haveI aI:Nonempty (zC fun W=>W.cell? ⟨X,0,none⟩=some r9∧W.cell? ⟨wr.heap.size,0,none⟩=some (.int .i64 Z)∧W.cell? ⟨wr.heap.size,1,none⟩=some (.int .i64 Y)∧W.cell? ⟨wr.heap.size,2,none⟩=some (.string (za ab))∧W.cell? ⟨wr.heap.size,3,none⟩=some (.string (za aa))∧W.cell? ⟨wr.heap.size,4,none⟩=some (.bool ad)):=⟨⟨ar,ah.out _ cD.out bG.out⟩⟩
      refine xt 5 (n:=6) (S:=fun w'=>∃c:zC fun W=>W.cell? ⟨X,0,none⟩=some r9∧W.cell? ⟨wr.heap.size,0,none⟩=some (.int .i64 Z)∧W.cell? ⟨wr.heap.size,1,none⟩=some (.int .i64 Y)∧W.cell? ⟨wr.heap.size,2,none⟩=some (.string (za ab))∧W.cell? ⟨wr.heap.size,3,none⟩=some (.string (za aa))∧W.cell? ⟨wr.heap.size,4,none⟩=some (.bool ad),w'=c.1) (by kernel_rfl) rfl rfl ?_
      have af:Hid (Below ar.heap.size ar ar.drew):=(Below.refl _ _).drew;obtain ⟨zd,au⟩:∃zd,zd=ar.drew:=⟨_,rfl⟩;rw [←au] at af ⊢;have am:Hid _:=cD.out.new af.out;have bw:Hid _:=(af.out.block _ (zc bG.out)).trans bG.out;clear au;refine xQ (fuel:=4) (fuel':=6) (idx:=[0,1]) (by kernel_rfl) rfl rfl rfl (fun _ _ _ _ _ h=>h) ⟨⟨zd,ah.out _ am.out bw.out⟩,rfl⟩ ?_
      show wpQuiet _ _ _ _ [_,_] _
      iterate 2 (go_big_quiet_step (fail))
      refine wpQuiet_nil ?_;refine zK (fuel:=3) (fuel':=4) (i:=2) rfl (by kernel_rfl) rfl rfl (by rfl) ?_
      intro K J;go_simp;refine (cB.out zd am.out.lin.strs.below).mono ?_;rintro e z1 ⟨rfl,hb⟩;have I:Hid _:=am.out.new hb;have an:Hid _:=(hb.block _ (zc bw.out)).trans bw.out;clear hb
      (try go_simp)
      refine J.out _ _ (fun _=>⟨⟨z1,ah.out _ I.out an.out⟩,rfl⟩) ?_
      clear J K;refine zK (fuel:=2) (fuel':=3) (i:=3) rfl (by kernel_rfl) rfl rfl (by rfl) ?_
      intro K J;go_simp;have aw:Hid (Below z1.heap.size z1 (z1.alloc (.cells #[.string (za LB)] 9))):=(Below.refl _ _).alloc (Nat.le_refl _) _;refine J.out _ _ (fun _=>⟨⟨_,ah.out _ (I.out.new aw.out) ((aw.out.block _ (zc an.out)).trans an.out)⟩,rfl⟩) ?_
      clear J K;refine xR (fuel:=1) (fuel':=2) (i:=4) rfl (by kernel_rfl) rfl rfl (by rfl) ?_
      intro K J;refine zR (.tmp 66) (.tmp 69) rfl (by rfl) w.heap.size r9 PR [LB] rfl z1 w I.out.lin.strs rfl rfl (by have:=aA.out;simp;omega) ?_
      intro v9 z3 aj O ag;obtain ⟨n9,b9,c9,rfl⟩:=yj aj.row;have ay:Hid (xe w w8 (z3.setCell ⟨X,0,none⟩ (.slice b9 n9 c9)) X G (yP F m fault (.slice U frames.length V) out A (.slice (some ⟨b,o,none⟩) y.length cs) B n z) (.pointer (some ⟨h,0,none⟩)) (.slice b9 n9 c9) (PR++[LB])):=I.out.put aj O ag;have ak:Hid _:=zm (I.out.lin.strs.row.alloc _) O ((Below.heap_alloc _ _ _ (zc I.out.lin.box)).trans I.out.lin.box) (by decide)
      have bL:Hid _:=zm (I.out.lin.strs.row.alloc _) O ((Below.heap_alloc _ _ _ (zc an.out)).trans an.out) (by decide)
      have aB:Hid (z3.cell? ⟨X,0,none⟩=some r9∧z3.cell? ⟨wr.heap.size,0,none⟩=some (.int .i64 Z)∧z3.cell? ⟨wr.heap.size,1,none⟩=some (.int .i64 Y)∧z3.cell? ⟨wr.heap.size,2,none⟩=some (.string (za ab))∧z3.cell? ⟨wr.heap.size,3,none⟩=some (.string (za aa))∧z3.cell? ⟨wr.heap.size,4,none⟩=some (.bool ad)):=by
       obtain ⟨a0,a1,a2,a3,a4⟩:=zW bL.out;exact ⟨zy ak.out,a0,a1,a2,a3,a4⟩
      refine J.out _ _ (fun _=>⟨⟨z3,aB.out⟩,rfl⟩) ?_
      clear J K aj O ag
      (try simp only [Act.put,List.setIfInBounds_toArray,List.set_cons_zero,List.set_cons_succ])
      refine zK (fuel:=0) (fuel':=1) (i:=5) rfl (by kernel_rfl) rfl rfl (by rfl) ?_
      intro K J;have aq:=zy ak.out;have aM:=xM ak.out 0;go_simp;refine J.out _ _ (fun h=>absurd rfl h) ?_
      clear J K;refine YT (by kernel_rfl) ?_
      clear x0 x1 x2 x3 x4 x5 aq aM aI;go_wp2
      exact ⟨⟨i+1,_,by omega,by go_num,by rw [aV.out];exact ay.out⟩,by simp [intOf];omega⟩
     ·have bP:¬ (i:Int)<y.length:=by omega
      obtain rfl:i=y.length:=by omega
      rw [List.take_length] at HJ;obtain ⟨PR,al⟩:∃PR,PR=L2++y.map Ze:=⟨_,rfl⟩;rw [←al] at HJ;have aV:Hid (PR=L2++y.map Ze):=al
      have aA:Hid (PR.length≤4000000):=by
       have:=bn.out
       show _≤_
       rw [al,List.length_append,List.length_map];omega
      clear al
      go_upto_region 20 with fail
      have ah:Hid (∀W,xe w w8 W X G (yP F m fault (.slice U frames.length V) out A (.slice bs y.length cs) B n z) (.pointer (some ⟨h,0,none⟩)) r9 PR→W.cell? ⟨X,0,none⟩=some r9∧W.cell? ⟨w.heap.size,7,none⟩=some (.int .i64 B)∧W.cell? ⟨w.heap.size,8,none⟩=some (.int .i64 n)∧W.cell? ⟨w.heap.size,9,none⟩=some (.string (za z))):=fun W hL=>by
       obtain ⟨-,-,-,-,-,-,-,b7,b8,b9⟩:=zo hL.lin.view;exact ⟨zy hL.lin.box,b7,b8,b9⟩
      have x0:∀c:zC fun W=>W.cell? ⟨X,0,none⟩=some r9∧W.cell? ⟨w.heap.size,7,none⟩=some (.int .i64 B)∧W.cell? ⟨w.heap.size,8,none⟩=some (.int .i64 n)∧W.cell? ⟨w.heap.size,9,none⟩=some (.string (za z)),c.1.cell? ⟨X,0,none⟩=some r9:=fun c=>c.2.1
      have x1:∀c:zC fun W=>W.cell? ⟨X,0,none⟩=some r9∧W.cell? ⟨w.heap.size,7,none⟩=some (.int .i64 B)∧W.cell? ⟨w.heap.size,8,none⟩=some (.int .i64 n)∧W.cell? ⟨w.heap.size,9,none⟩=some (.string (za z)),c.1.cell? ⟨w.heap.size,7,none⟩=some (.int .i64 B):=fun c=>c.2.2.1
      have x2:∀c:zC fun W=>W.cell? ⟨X,0,none⟩=some r9∧W.cell? ⟨w.heap.size,7,none⟩=some (.int .i64 B)∧W.cell? ⟨w.heap.size,8,none⟩=some (.int .i64 n)∧W.cell? ⟨w.heap.size,9,none⟩=some (.string (za z)),c.1.cell? ⟨w.heap.size,8,none⟩=some (.int .i64 n):=fun c=>c.2.2.2.1
      have x3:∀c:zC fun W=>W.cell? ⟨X,0,none⟩=some r9∧W.cell? ⟨w.heap.size,7,none⟩=some (.int .i64 B)∧W.cell? ⟨w.heap.size,8,none⟩=some (.int .i64 n)∧W.cell? ⟨w.heap.size,9,none⟩=some (.string (za z)),c.1.cell? ⟨w.heap.size,9,none⟩=some (.string (za z)):=fun c=>c.2.2.2.2
      haveI aI:Nonempty (zC fun W=>W.cell? ⟨X,0,none⟩=some r9∧W.cell? ⟨w.heap.size,7,none⟩=some (.int .i64 B)∧W.cell? ⟨w.heap.size,8,none⟩=some (.int .i64 n)∧W.cell? ⟨w.heap.size,9,none⟩=some (.string (za z))):=⟨⟨wr,ah.out _ HJ.out⟩⟩
      refine yc (n:=8) (S:=fun w'=>∃c:zC fun W=>W.cell? ⟨X,0,none⟩=some r9∧W.cell? ⟨w.heap.size,7,none⟩=some (.int .i64 B)∧W.cell? ⟨w.heap.size,8,none⟩=some (.int .i64 n)∧W.cell? ⟨w.heap.size,9,none⟩=some (.string (za z)),w'=c.1) (by kernel_rfl) rfl rfl ?_
      have af:Hid (Below wr.heap.size wr wr.drew):=(Below.refl _ _).drew;obtain ⟨zd,au⟩:∃zd,zd=wr.drew:=⟨_,rfl⟩;rw [←au] at af ⊢;have am:Hid _:=HJ.out.new af.out;clear au;refine Zx (fuel:=5) (fuel':=8) (idx:=[0,1,2]) (by kernel_rfl) rfl rfl rfl (fun _ _ _ _ _ h=>h) ⟨⟨zd,ah.out _ am.out⟩,rfl⟩ ?_
      show wpQuiet _ _ _ _ [_,_,_] _
      iterate 3 (go_big_quiet_step (fail))
      refine wpQuiet_nil ?_;refine zT (fuel:=4) (fuel':=5) (i:=3) rfl (by kernel_rfl) rfl rfl (by rfl) ?_
      intro K J;go_simp;refine (xc B n z zd HS.out.err HS.out.n HS.out.says (HT.out.below am.out.lin.strs.below (Nat.le_refl _))).mono ?_;rintro e z1 ⟨rfl,hb⟩;have I:Hid _:=am.out.new hb;clear hb
      (try go_simp)
      refine J.out _ _ ⟨⟨z1,ah.out _ I.out⟩,rfl⟩ ?_;clear J K;refine zT (fuel:=3) (fuel':=4) (i:=4) rfl (by kernel_rfl) rfl rfl (by rfl) ?_
      intro K J;go_simp;have aw:Hid (Below z1.heap.size z1 (z1.alloc (.cells #[.string (za (ZG B n z))] 9))):=(Below.refl _ _).alloc (Nat.le_refl _) _;refine J.out _ _ ⟨⟨_,ah.out _ (I.out.new aw.out)⟩,rfl⟩ ?_;clear J K;refine xD (fuel:=2) (fuel':=3) (i:=5) rfl (by kernel_rfl) rfl rfl (by rfl) ?_
      intro K J;refine zR (.tmp 72) (.tmp 76) rfl (by rfl) w.heap.size r9 PR [ZG B n z] rfl z1 w I.out.lin.strs rfl rfl (by have:=aA.out;simp;omega) ?_
      intro v9 z3 aj O ag;have c6:Hid (zl w.heap.size w z3 v9 (PR++[ZG B n z])):=aj;have bO:Hid _:=zm (I.out.lin.strs.row.alloc _) O ((Below.heap_alloc _ _ _ (zc I.out.lin.view)).trans I.out.lin.view) (by decide)
      have ak:Hid _:=zm (I.out.lin.strs.row.alloc _) O ((Below.heap_alloc _ _ _ (zc I.out.lin.box)).trans I.out.lin.box) (by decide)
      have aB:Hid (z3.cell? ⟨X,0,none⟩=some r9∧z3.cell? ⟨w.heap.size,7,none⟩=some (.int .i64 B)∧z3.cell? ⟨w.heap.size,8,none⟩=some (.int .i64 n)∧z3.cell? ⟨w.heap.size,9,none⟩=some (.string (za z))):=by
       obtain ⟨-,-,-,-,-,-,-,b7,b8,b9⟩:=zo bO.out;exact ⟨zy ak.out,b7,b8,b9⟩
      have cS:Hid (z3.heap[D]?=some (.deferred (some []))):=by
       have cG:z1.heap[D]?=some (.deferred (some [])):=(I.out.kept D b6.out).trans cV.out;have cd:(z1.alloc (.cells #[.string (za (ZG B n z))] 9)).heap[D]?=some (.deferred (some [])):=(Below.heap_alloc _ _ _ (zF cG)).trans cG;exact (O.block D (zF cd) (fun e=>I.out.away D e.symm b6.out)).trans cd
      refine J.out _ _ ⟨⟨z3,aB.out⟩,rfl⟩ ?_;clear J K aj O ag
      (try simp only [Act.put,List.setIfInBounds_toArray,List.set_cons_zero,List.set_cons_succ])
      refine Zx (fuel:=0) (fuel':=2) (idx:=[6,7]) (by kernel_rfl) rfl rfl rfl (fun _ _ _ _ _ h=>h) ⟨⟨z3,aB.out⟩,rfl⟩ ?_
      show wpQuiet _ _ _ _ [_,_] _
      iterate 2 (go_big_quiet_step (fail))
      refine wpQuiet_nil ?_;refine yH (by kernel_rfl) ?_
      clear x0 x1 x2 x3 aI;go_wp2
      have J:=cS.out;refine ⟨by simp,.inl ⟨_,_,rfl,run_takeDeferred J,?_⟩⟩
      refine ⟨_,results_tmp2 rfl _ _ _,.inr ⟨HM.out,v9,rfl,?_⟩⟩;have ck:=c6.out.putObj (o':=.deferred none) J rfl cU.out
      have e:linesB os ⟨⟨F,m,fault,frames,out⟩,A,y,⟨B,n,z⟩⟩=PR++[ZG B n z]:=by
       rw [aV.out,cX.out,ae.out,cT.out,aN.out];rfl
      rw [e];exact ck
end Go.Proofs.YtbjndgachcdbcaaGreatDoor
