import Derived.Test.YtbjndgachcdbcaaGreatDoorMC18
import Derived.Test.YtbjndgachcdbcaaGreatDoorVMixL
import Derived.Test.YtbjndgachcdbcaaGreatDoorVFrame
import Derived.Test.YtbjndgachcdbcaaGreatDoorVStop
import Derived.Test.YtbjndgachcdbcaaGreatDoorVReply
import Derived.Test.YtbjndgachcdbcaaGreatDoorMC27
import Derived.Test.YtbjndgachcdbcaaGreatDoorVMay
import Derived.Deep.DeepCutAuto
namespace Go.Proofs.YtbjndgachcdbcaaGreatDoor
open Go.RowKit Go.Shelf
set_option maxHeartbeats 16000000
set_option maxRecDepth 100000
attribute [local go_sem] Oper.semAt_some
structure ya (w W:World) (X:Nat) (xs:Array Value) (hp r:Value) (l:List (List UInt8)):Prop where
 view:W.heap[w.heap.size]?=some (.cells xs 35 (0,0))
 ptr:W.heap[w.heap.size+1]?=some (.cells #[hp] 37 (0,0))
 box:W.heap[X]?=some (.cells #[r] 41 (0,0))
 low:w.heap.size≤X
 strs:zo w.heap.size w W r l
theorem ya.new {w W W':World} {X:Nat} {xs:Array Value} {hp r:Value} {l:List (List UInt8)} (h:ya w W X xs hp r l) (hb:Below W.heap.size W W'):ya w W' X xs hp r l :=
 ⟨(hb.block _ (zc h.view)).trans h.view,(hb.block _ (zc h.ptr)).trans h.ptr,(hb.block _ (zc h.box)).trans h.box,h.low,h.strs.new hb⟩
theorem zA {w:World} {N:Nat} {x0:Value} {ty:TypeId} (h:w.heap[N]?=some (.cells #[x0] ty (0,0))):w.cell? ⟨N,0,none⟩=some x0:=by
 simp only [World.cell?,h];rfl
theorem ya.put {w W W3:World} {X:Nat} {xs:Array Value} {hp r v:Value} {l m:List (List UInt8)} {o:Obj} (h:ya w W X xs hp r l) (hj:zo w.heap.size w W3 v m) (hg:(W.alloc o).grownBy W3 r.ownBlock):ya w (W3.setCell ⟨X,0,none⟩ v) X xs hp v m:=by
 have c:=zp (h.strs.row.alloc _) hg ((Below.heap_alloc _ _ _ (zc h.view)).trans h.view) (by decide)
 have q:=zp (h.strs.row.alloc _) hg ((Below.heap_alloc _ _ _ (zc h.ptr)).trans h.ptr) (by decide)
 have b:=zp (h.strs.row.alloc _) hg ((Below.heap_alloc _ _ _ (zc h.box)).trans h.box) (by decide)
 have z:w.heap.size≠X:=fun e=>by rw [e,b] at c;simp at c
 have y:w.heap.size+1≠X:=fun e=>by rw [e,b] at q;simp at q
 refine ⟨(Below.heap_setCell _ _ _ _ (by simpa using z)).trans c,(Below.heap_setCell _ _ _ _ (by simpa using y)).trans q,?_,h.low,⟨?_,hj.below.setCell (p:=⟨X,0,none⟩) h.low _,by simpa using hj.low⟩⟩
 ·have:=heap_setCell_same W3 X 0 #[r] 41 v b
  simpa using this
 ·refine ownsRow_setCell_other hj.row (a:=⟨X,0,none⟩) (fun e=>?_) _
  obtain ⟨A,u⟩:=Zs hj.row e;rw [b] at u
  simp at u
theorem zl {w:World} {N:Nat} {x0 x1 x2 x3 x4 x5 x6 x7 x8 x9:Value} {ty:TypeId} (h:w.heap[N]?=some (.cells #[x0,x1,x2,x3,x4,x5,x6,x7,x8,x9] ty (0,0))):w.cell? ⟨N,0,none⟩=some x0∧w.cell? ⟨N,1,none⟩=some x1∧w.cell? ⟨N,2,none⟩=some x2∧w.cell? ⟨N,3,none⟩=some x3∧w.cell? ⟨N,4,none⟩=some x4∧w.cell? ⟨N,5,none⟩=some x5∧w.cell? ⟨N,6,none⟩=some x6∧w.cell? ⟨N,7,none⟩=some x7∧w.cell? ⟨N,8,none⟩=some x8∧w.cell? ⟨N,9,none⟩=some x9:=by
 refine ⟨?_,?_,?_,?_,?_,?_,?_,?_,?_,?_⟩ <;> (simp only [World.cell?,h];rfl)
theorem zK {w:World} {N:Nat} {o:Obj} (h:w.heap[N]?=some o):N<w.heap.size:=(Array.getElem?_eq_some_iff.1 h).1
theorem Yu (os:List Ob) (sel:Int):∀(k:Nat) (l:List Fr) (f:Fr),zn os sel k (l++[f])=zn os sel k l++[ZB os f (decide (((k+l.length:Nat):Int)=sel))]
 | k,[],f=>by simp [zn]
 | k,x::t,f=>by
  rw [List.cons_append,zn,Yu os sel (k+1) t f,zn,List.cons_append,List.length_cons,show k+1+t.length=k+(t.length+1) by omega]
theorem ZL (os:List Ob) (sel:Int):∀(k:Nat) (l:List Fr),(zn os sel k l).length=l.length
 | _,[]=>rfl
 | k,_::t=>by rw [zn,List.length_cons,ZL os sel (k+1) t,List.length_cons]
theorem Xf (os:List Ob) (sel:Int) (frames:List Fr) {i k:Nat} (hk:k<frames.length) (h:frames.length=k+1+i):zn os sel 0 (frames.reverse.take (i+1))=zn os sel 0 (frames.reverse.take i)++[ZB os frames[k] (decide ((i:Int)=sel))]:=by
 have m:i<frames.reverse.length:=by rw [List.length_reverse];omega
 have e:frames.reverse.take i++[frames.reverse[i]]=frames.reverse.take (i+1):=List.take_append_getElem m
 have b:frames.reverse[i]=frames[k]:=by
  rw [List.getElem_reverse]
  congr 1
  omega
 have c:(frames.reverse.take i).length=i:=by rw [List.length_take];omega
 rw [←e,Yu,b,c,Nat.zero_add]
abbrev yS (pos status fault:Int) (vf:Value) (out:List UInt8) (sel:Int) (vs:Value) (err n:Int) (says:List UInt8):Array Value:=#[.int .i64 pos,.int .i64 status,.int .i64 fault,vf,.string (za out),.int .i64 sel,vs,.int .i64 err,.int .i64 n,.string (za says)]
theorem ya.turn {w W W':World} {X:Nat} {xs:Array Value} {hp r:Value} {l:List (List UInt8)} (h:ya w W X xs hp r l) (hB:Below w.heap.size W W') (hk:∀(b:Nat) (c:Array Value) (ty:TypeId) (z:Nat × Nat),W.heap[b]?=some (.cells c ty z)→W'.heap[b]?=W.heap[b]?):ya w W' X xs hp r l :=
 ⟨(hk _ _ _ _ h.view).trans h.view,(hk _ _ _ _ h.ptr).trans h.ptr,(hk _ _ _ _ h.box).trans h.box,h.low,
  ⟨zh h.strs.row fun k e _=>by obtain ⟨c,m⟩:=Zs h.strs.row e;exact hk _ _ _ _ m,h.strs.below.trans hB,Nat.le_trans h.strs.low hB.size⟩⟩
structure Un (w:World) (X D Bn:Nat) (xs:Array Value) (hp sl:Value) (os:List Ob) (sel:Int) (frames:List Fr) (pl:List UInt8) (ob:Obj) (i:Nat) (W:World):Prop where
 lin:∃r,ya w W X xs hp r ([pl]++zn os sel 0 (frames.reverse.take i))
 dfr:W.heap[D]?=some (.deferred (some []))
 loop:W.heap[D+1]?=some ob
 itr:W.heap[Bn]?=some (.cells #[sl] 27 (0,0))
 wD:w.heap.size≤D
theorem Un.turn {w:World} {X D Bn:Nat} {xs:Array Value} {hp sl:Value} {os:List Ob} {sel:Int} {frames:List Fr} {pl:List UInt8} {ob ob':Obj} {i:Nat} {W W':World} (h:Un w X D Bn xs hp sl os sel frames pl ob i W) (hob:ob.isCells=false)
  (hB:Below w.heap.size W W') (hk:∀b,b<W.heap.size→b≠D+1→W'.heap[b]?=W.heap[b]?) (h4:W'.heap[D+1]?=some ob'):Un w X D Bn xs hp sl os sel frames pl ob' i W':=by
 have c:∀(k:Nat) (cur:Array Value) (e:TypeId) (z:Nat × Nat),W.heap[k]?=some (Obj.cells cur e z)→W'.heap[k]?=W.heap[k]?:=fun k cur e z hh=>by
  refine hk k (Array.getElem?_eq_some_iff.1 hh).1 (fun e'=>?_)
  have m:=h.loop;subst e';rw [hh] at m;cases m
  cases hob
 obtain ⟨r,o⟩:=h.lin;exact ⟨⟨r,o.turn hB c⟩,(hk _ (Array.getElem?_eq_some_iff.1 h.dfr).1 (by omega)).trans h.dfr,h4,(c _ _ _ _ h.itr).trans h.itr,h.wD⟩
theorem Un.step {w:World} {X D Bn:Nat} {xs:Array Value} {hp sl r v:Value} {os:List Ob} {sel:Int} {frames:List Fr} {pl:List UInt8} {ob o:Obj} {i:Nat} {Wb z1 z3:World} {l:List (List UInt8)} (h:Un w X D Bn xs hp sl os sel frames pl ob i Wb) (hob:ob.isCells=false)
  (hb:Below Wb.heap.size Wb z1) (hL:ya w z1 X xs hp r l) (hg:(z1.alloc o).grownBy z3 r.ownBlock) (hN:ya w (z3.setCell ⟨X,0,none⟩ v) X xs hp v ([pl]++zn os sel 0 (frames.reverse.take (i+1)))):Un w X D Bn xs hp sl os sel frames pl ob (i+1) (z3.setCell ⟨X,0,none⟩ v):=by
 have y:=zp (hL.strs.row.alloc _) hg ((Below.heap_alloc _ _ _ (zc hL.box)).trans hL.box) (by decide)
 have c:∀(q:Nat) (o':Obj),Wb.heap[q]?=some o'→(∀b z,o'≠.cells b 9 z)→(∀b z,o'≠.cells b 41 z)→(z3.setCell ⟨X,0,none⟩ v).heap[q]?=some o':=by
  intro q o' E H F;have A:z1.heap[q]?=some o':=(hb.block _ (zK E)).trans E;have m:(z1.alloc o).heap[q]?=some o':=(Below.heap_alloc _ _ _ (zK A)).trans A
  have B:z3.heap[q]?=some o':=(hg.block q (zK m) (fun e=>by
   obtain ⟨b,u⟩:=Zs (hL.strs.row.alloc o) e.symm;rw [m] at u
   exact H _ _ (Option.some.inj u))).trans m
  have G:q≠X:=fun e=>by
   subst e;rw [B] at y;exact F _ _ (Option.some.inj y)
  exact (Below.heap_setCell _ _ _ _ (by simpa using G)).trans B
 exact ⟨⟨_,hN⟩,c _ _ h.dfr (fun _ _ e=>by cases e) (fun _ _ e=>by cases e),c _ _ h.loop (fun _ _ e=>by rw [e] at hob;cases hob) (fun _ _ e=>by rw [e] at hob;cases hob),c _ _ h.itr (fun _ _ e=>by simp at e) (fun _ _ e=>by simp at e),h.wD⟩
structure xq (w W0 W:World) (X:Nat) (G:Nat→Prop) (xs:Array Value) (hp r:Value) (l:List (List UInt8)):Prop where
 lin:ya w W X xs hp r l
 kept:∀q,G q→W.heap[q]?=W0.heap[q]?
 gs:∀q,G q→q<W0.heap.size
 size:W0.heap.size≤W.heap.size
 away:∀q,r.ownBlock=some q→¬ G q
 far:¬ G X
theorem xq.new {w W0 W W':World} {X:Nat} {G:Nat→Prop} {xs:Array Value} {hp r:Value} {l:List (List UInt8)} (h:xq w W0 W X G xs hp r l) (hb:Below W.heap.size W W'):xq w W0 W' X G xs hp r l :=
 ⟨h.lin.new hb,fun q hq=>(hb.block q (by have:=h.gs q hq;have:=h.size;omega)).trans (h.kept q hq),h.gs,Nat.le_trans h.size hb.size,h.away,h.far⟩
theorem xq.put {w W0 z1 z3:World} {X:Nat} {G:Nat→Prop} {xs:Array Value} {hp r v:Value} {l m:List (List UInt8)} {o:Obj} (h:xq w W0 z1 X G xs hp r l) (hj:zo w.heap.size w z3 v m) (hg:(z1.alloc o).grownBy z3 r.ownBlock) (hloc:v.ownBlock=r.ownBlock∨∃k,v.ownBlock=some k∧(z1.alloc o).heap.size≤k):xq w W0 (z3.setCell ⟨X,0,none⟩ v) X G xs hp v m:=by
 have z:=hg.size;have B:=h.size;refine ⟨h.lin.put hj hg,fun q hq=>?_,h.gs,by simp;simp at z;omega,fun q e hq=>?_,h.far⟩
 ·have c:=h.gs q hq
  have y:q≠X:=fun e=>h.far (by rw [←e];exact hq)
  rw [Below.heap_setCell _ _ _ _ (by simpa using y),hg.block q (by simp;omega) (fun e=>h.away q e.symm hq),Below.heap_alloc _ _ _ (by omega)]
  exact h.kept q hq
 ·have c:=h.gs q hq
  rcases hloc with b | ⟨k,b,u⟩
  ·exact h.away q (b.symm.trans e) hq
  ·rw [b] at e
   have A:k=q:=Option.some.inj e
   simp at u
   omega
theorem zW {ops:Array Oper} {o:Oper} {a:Act} {w:World} {K:Act→World→Prop} {Q:Exit→Act→World→Prop} {E:Prop} (s x:Operand)
  (ho:o.op=.call { callee:=.builtin .append,args:=#[s,x],argTypes:=#[41,41] }) (hw:Region.wanted o (yielded ops a.tmps)=true)
  (B:Nat) (v:Value) (l m:List (List UInt8)) (hs:a.eval s=v) (w1:World) (w0:World) (hj:zo B w0 w1 v l) (hw1:w=w1.alloc (.cells (strC m).toArray 9)) (hx:a.eval x=.slice (some ⟨w1.heap.size,0,none⟩) m.length m.length)
  (hb:l.length+m.length≤4294967296)
  (h:∀b c,zo B w0 c b (l++m)→w.grownBy c v.ownBlock→(b.ownBlock=v.ownBlock∨∃k,b.ownBlock=some k∧w.heap.size≤k)→K (a.put o.dst b) c) :
  if Region.wanted o (yielded ops a.tmps)=true then Oper.wp Tryz.prog o a w K Q else E:=by
 obtain ⟨H,G,y,A,D⟩:=info_parts YX;subst hw1;have F:=hj.low;refine Z9 s x 41 ho hw B 9 H (.string ⟨#[]⟩) 1 16 Tryz.underlying41 G y A D rfl (by decide) v l.length _ hs (hj.row.alloc _) ⟨w1.heap.size,0,none⟩ m.length m.length (strC m) hx (by rw [ZZ,Nat.mul_one]) (yF _ _ _) (YW m) (by unfold maxLen;omega) (by omega) (by simp;omega) ?_
 intro b c z q u;exact h b c (hj.app ((Below.refl _ _).alloc (Nat.le_refl _) _) z q) q (u.imp id fun e=>⟨_,e,Nat.le_refl _⟩)
theorem xH:∀(ls:List (List UInt8)) (s:List UInt8),s∈ls→s.length≤(zm ls).length
 | [],_,h=>by cases h
 | x::t,s,h=>by
  have e:zm (x::t)=(x++[10])++zm t:=rfl;rw [e,List.length_append,List.length_append];rcases List.mem_cons.1 h with rfl | h
  ·omega
  ·have:=xH t s h;omega
theorem uA (out s:List UInt8) (h:s∈Y1 out):s.length≤out.length:=by
 obtain ⟨rest,-,b,-⟩:=ZK out [] (fun _ h=>by cases h)
 have e:=xH _ s (List.mem_of_mem_drop h);rw [List.nil_append] at b;have c:=congrArg List.length b;rw [List.length_append] at c;omega
theorem XV (out:List UInt8):(Y1 out).length≤4:=by unfold Y1 uw;rw [List.length_drop];omega
theorem XW {α β:Type} (f:α→β) (l:List α) {i:Nat} (h:i<l.length):(l.take (i+1)).map f=(l.take i).map f++[f l[i]]:=by
 have e:l.take i++[l[i]]=l.take (i+1):=List.take_append_getElem h;rw [←e,List.map_append];rfl
theorem zo.putObj {B D:Nat} {w0 w:World} {v:Value} {l:List (List UInt8)} {o o':Obj} (h:zo B w0 w v l) (hd:w.heap[D]?=some o) (ho:o.isCells=false) (hD:B≤D):zo B w0 (w.putObj D o') v l:=by
 refine ⟨zh h.row fun k e _=>?_,h.below.grown (grownBy_putObj' _ _ _) h.low (fun k e=>by cases e;omega),?_⟩
 ·obtain ⟨c,b⟩:=Zs h.row e
  refine World.putObj_heap_other fun e'=>?_
  rw [e',hd] at b;cases b
  cases ho
 ·have:=(grownBy_putObj' w D o').size
  exact Nat.le_trans h.low this
theorem xI {S T:Nat→Prop} {most:Nat} {os:List Ob} {h:Nat} {vo vc:Value} (v:Vw) (vf vs:Value) (w:World) (H:zs S w most os h vo vc) (hv:zR T w v vf vs) (hs:yg v) (ht:Yz w) :
  Calls Tryz.prog 13 #[uu vf vs v,.pointer (some ⟨h,0,none⟩)] w fun e w'=>(Yy os.length v=false∧e=.returned (.tuple #[.slice none 0 0,.int .i64 2])∧Below w.heap.size w w')∨(Yy os.length v=true∧∃r,e=.returned (.tuple #[r,.int .i64 0])∧zo w.heap.size w w' r (ZC os v)):=by
 have HH:Hid (zs S w most os h vo vc):=H;have HV:Hid (zR T w v vf vs):=hv;have HS:Hid (yg v):=hs;have HT:Hid (Yz w):=ht;obtain ⟨U,V,rfl,bk,cd,aW⟩:=hv.frames.at;obtain ⟨bs,cs,rfl,bd,bV,aR⟩:=hv.stops.at;obtain ⟨⟨F,m,fault,frames,out⟩,A,y,⟨B,n,z⟩⟩:=v;simp only at aW aR bk bd;have ch:Hid (∀i (hi:i<frames.length),∃b o,U=some ⟨b,o,none⟩∧T b∧b<w.heap.size∧UF T w b (o+i*3) frames[i]):=aW;have cC:Hid (∀i (hi:i<y.length),∃b o,bs=some ⟨b,o,none⟩∧T b∧b<w.heap.size∧UU w b (o+i*5) y[i]):=aR;obtain ⟨w2,cA,ao,c6,h0,h1⟩:=UO w (.cells #[.int .i64 F,.int .i64 m,.int .i64 fault,.slice U frames.length V,.string (za out),.int .i64 A,.slice bs y.length cs,.int .i64 B,.int .i64 n,.string (za z)] 35) (.cells #[.pointer (some ⟨h,0,none⟩)] 37);have bx:Hid (w2=(w.alloc (.cells #[.int .i64 F,.int .i64 m,.int .i64 fault,.slice U frames.length V,.string (za out),.int .i64 A,.slice bs y.length cs,.int .i64 B,.int .i64 n,.string (za z)] 35)).alloc (.cells #[.pointer (some ⟨h,0,none⟩)] 37)):=cA;have cF:Hid (Below w.heap.size w w2):=ao;have bX:Hid (w2.heap[w.heap.size]?=some (.cells #[.int .i64 F,.int .i64 m,.int .i64 fault,.slice U frames.length V,.string (za out),.int .i64 A,.slice bs y.length cs,.int .i64 B,.int .i64 n,.string (za z)] 35 (0,0))):=h0;have b0:Hid (w2.heap[w.heap.size+1]?=some (.cells #[.pointer (some ⟨h,0,none⟩)] 37 (0,0))):=h1;have ci:=VQ w2 (H.below ao) (ht.below ao (Nat.le_refl _)).tabs;obtain ⟨p0,p1,p2,p3,p4,p5,p6,p7,p8,p9⟩:=zl h0;have pp:=zA h1
 have cx:Hid (∀W,Below w.heap.size w W→Calls Tryz.prog 23 #[.agg #[.int .i64 F,.int .i64 m,.int .i64 fault,.slice U frames.length V,.string (za out)],.pointer (some ⟨h,0,none⟩)] W fun e w'=>e=.returned (.bool (XS os.length m fault frames))∧Below W.heap.size W w'):=fun W hW =>
  XU _ F m fault out frames W (HH.out.below hW) (HV.out.below hW).frames HS.out.frames HS.out.nframes (HT.out.below hW (Nat.le_refl _))
 have HM:Hid (Yy os.length ⟨⟨F,m,fault,frames,out⟩,A,y,⟨B,n,z⟩⟩=XS os.length m fault frames):=rfl
 have cn:Hid (XS os.length m fault frames=true→0≤m∧m≤2):=fun h=>by
  unfold XS at h
  simp only [Bool.and_eq_true,decide_eq_true_eq] at h;exact h.1.1
 obtain ⟨M,hM⟩:∃M,M=XS os.length m fault frames:=⟨_,rfl⟩;rw [←hM] at HM cx cn;clear cA ao h0 h1 c6 H hv hs ht aW aR bk cd bd bV hM;refine (callsIn_wide (n:=5)).1 ?_;refine callsIn_of_wp_marks Tryz.func13 rfl trivial ?_ rfl;simp only [Tryz.ntmps13,List.size_toArray,List.length_cons,List.length_nil,Nat.reduceAdd,Nat.reduceSub,Array.replicate_succ,Array.replicate_zero,List.push_toArray,List.append_toArray,List.nil_append,List.cons_append];refine wpIn_wide.2 ?_;go_wp2_with fail
 rw [←bx.out];refine ci.mono ?_;clear ci p0 p1 p2 p3 p4 p5 p6 p7 p8 p9 pp;rintro e w3 ⟨rfl,aX⟩;have bK:Hid (Below w.heap.size w w3):=cF.out.trans (aX.mono cF.out.size);have bq:Hid (w3.heap[w.heap.size]?=some (.cells #[.int .i64 F,.int .i64 m,.int .i64 fault,.slice U frames.length V,.string (za out),.int .i64 A,.slice bs y.length cs,.int .i64 B,.int .i64 n,.string (za z)] 35 (0,0))):=(aX.block _ (zc bX.out)).trans bX.out;have bR:Hid (w3.heap[w.heap.size+1]?=some (.cells #[.pointer (some ⟨h,0,none⟩)] 37 (0,0))):=(aX.block _ (zc b0.out)).trans b0.out;obtain ⟨p0,p1,p2,p3,p4,p5,p6,p7,p8,p9⟩:=zl bq.out;have pp:=zA bR.out;have cm:=cx.out w3 bK.out;clear aX;go_wp2_with fail
 refine cm.mono ?_;clear cm p0 p1 p2 p3 p4 p5 p6 p7 p8 p9 pp;rintro e w4 ⟨rfl,aY⟩;have a8:Hid (Below w.heap.size w w4):=bK.out.trans (aY.mono bK.out.size);have bO:Hid (w4.heap[w.heap.size]?=some (.cells #[.int .i64 F,.int .i64 m,.int .i64 fault,.slice U frames.length V,.string (za out),.int .i64 A,.slice bs y.length cs,.int .i64 B,.int .i64 n,.string (za z)] 35 (0,0))):=(aY.block _ (zc bq.out)).trans bq.out;have aE:Hid (w4.heap[w.heap.size+1]?=some (.cells #[.pointer (some ⟨h,0,none⟩)] 37 (0,0))):=(aY.block _ (zc bR.out)).trans bR.out;clear aY;cases M with
 | false =>
  go_wp2_with fail
  exact ⟨_,results_tmp2 rfl _ _ _,.inl ⟨HM.out,rfl,a8.out⟩⟩
 | true =>
  obtain ⟨p0,p1,p2,p3,p4,p5,p6,p7,p8,p9⟩:=zl bO.out;have aJ:=cn.out rfl;have cp:=xj (.slice U frames.length V) F m fault out w4 HS.out.pos (HT.out.below a8.out (Nat.le_refl _)) aJ;clear aJ;go_wp2_with fail
  refine cp.mono ?_;clear cp p0 p1 p2 p3 p4 p5 p6 p7 p8 p9;rintro e w5 ⟨rfl,az⟩;have bQ:Hid (Below w.heap.size w w5):=a8.out.trans (az.mono a8.out.size);have a5:Hid (w5.heap[w.heap.size]?=some (.cells #[.int .i64 F,.int .i64 m,.int .i64 fault,.slice U frames.length V,.string (za out),.int .i64 A,.slice bs y.length cs,.int .i64 B,.int .i64 n,.string (za z)] 35 (0,0))):=(az.block _ (zc bO.out)).trans bO.out;have bz:Hid (w5.heap[w.heap.size+1]?=some (.cells #[.pointer (some ⟨h,0,none⟩)] 37 (0,0))):=(az.block _ (zc aE.out)).trans aE.out;obtain ⟨p0,p1,p2,p3,p4,p5,p6,p7,p8,p9⟩:=zl a5.out;clear az
  go_upto_region 6 with fail
  have aL:ya w ((w5.alloc (.cells #[.string (za (Zm F m fault))] 9)).alloc (.cells #[.slice (some ⟨w5.heap.size,0,none⟩) 1 1] 41)) (w5.heap.size+1) (yS F m fault (.slice U frames.length V) out A (.slice bs y.length cs) B n z) (.pointer (some ⟨h,0,none⟩)) (.slice (some ⟨w5.heap.size,0,none⟩) 1 1) [Zm F m fault]:=by
   have dj:=bQ.out.size;have hl:=zo.lit w.heap.size w w5 [Zm F m fault] bQ.out bQ.out.size (by simp [maxLen])
   refine ⟨?_,?_,?_,by omega,hl.new ((Below.refl _ _).alloc (Nat.le_refl _) _)⟩
   ·exact (Below.heap_alloc _ _ _ (by have:=zc a5.out;simp;omega)).trans ((Below.heap_alloc _ _ _ (zc a5.out)).trans a5.out)
   ·exact (Below.heap_alloc _ _ _ (by have:=zc bz.out;simp;omega)).trans ((Below.heap_alloc _ _ _ (zc bz.out)).trans bz.out)
   ·have:=World.alloc_heap_new (w5.alloc (.cells #[.string (za (Zm F m fault))] 9)) (.cells #[.slice (some ⟨w5.heap.size,0,none⟩) 1 1] 41)
    simpa using this
  obtain ⟨X,hX⟩:∃X,X=w5.heap.size+1:=⟨_,rfl⟩;obtain ⟨r6,b3⟩:∃r6,r6=Value.slice (some ⟨w5.heap.size,0,none⟩) 1 1:=⟨_,rfl⟩;obtain ⟨w6,cD⟩:∃w6,w6=(w5.alloc (.cells #[.string (za (Zm F m fault))] 9)).alloc (.cells #[.slice (some ⟨w5.heap.size,0,none⟩) 1 1] 41):=⟨_,rfl⟩;obtain ⟨PL,bw⟩:∃PL,PL=Zm F m fault:=⟨_,rfl⟩;rw [←cD,←hX] at aL ⊢;rw [←bw] at aL;rw [←b3] at aL;have cK:Hid (PL=Zm F m fault):=bw;have cz:Hid _:=aL;clear p0 p1 p2 p3 p4 p5 p6 p7 p8 p9 bw;obtain ⟨p0,p1,p2,p3,p4,p5,p6,p7,p8,p9⟩:=zl cz.out.view;clear aL hX b3 cD;go_wp2_with fail
  refine (callsIn_wide.1 (xi (.slice U frames.length V) U frames.length V rfl w6)).mono ?_;rintro e w7 ⟨rfl,bD⟩;clear p0 p1 p2 p3 p4 p5 p6 p7 p8 p9;have bp:Below w6.heap.size w6 w7:=by rw [bD];exact (Below.refl _ _).alloc (Nat.le_refl _) _
  have aD:w7.heap[w6.heap.size]?=some (.cells #[.slice U frames.length V] 27 (0,0)):=by rw [bD];exact World.alloc_heap_new _ _
  have bL:=cz.out.new bp;clear bD;go_wp2_with fail
  refine (wpIn_wide (n:=5)).1 (xZ rfl (enters_of Tryz.func39 (by kernel_rfl) rfl) (fun r0 aJ hpe htm hpa has hbo=>?_))
  obtain ⟨D,hD⟩:∃D,D=w7.heap.size:=⟨_,rfl⟩;obtain ⟨Bn,cb⟩:∃Bn,Bn=w6.heap.size:=⟨_,rfl⟩;rw [←hD];rw [←cb] at htm aD ⊢;have cT:=bL.strs.low;have av:Below w7.heap.size w7 ((w7.alloc (.deferred (some []))).alloc (.loop r0)):=((Below.refl _ _).alloc (Nat.le_refl _) _).alloc (by simp) _
  have b6:((w7.alloc (.deferred (some []))).alloc (.loop r0)).heap[D]?=some (.deferred (some [])):=by
   rw [hD];exact (Below.heap_alloc _ _ _ (by simp)).trans (World.alloc_heap_new w7 _)
  have ck:((w7.alloc (.deferred (some []))).alloc (.loop r0)).heap[D+1]?=some (.loop r0):=by
   have:=World.alloc_heap_new (w7.alloc (.deferred (some []))) (.loop r0)
   rwa [World.size_alloc,←hD] at this
  have bG:Un w X D Bn (yS F m fault (.slice U frames.length V) out A (.slice bs y.length cs) B n z) (.pointer (some ⟨h,0,none⟩)) (.slice U frames.length V) os A frames PL (.loop r0) 0 ((w7.alloc (.deferred (some []))).alloc (.loop r0)) :=
   ⟨⟨r6,by simpa [zn] using bL.new av⟩,b6,ck,(av.block _ (zc aD)).trans aD,by omega⟩
  generalize (w7.alloc (.deferred (some []))).alloc (.loop r0)=W0 at bG ⊢;clear b6 ck av cT bL aD bp hD cb;refine (VM (D+1) Bn U V frames HS.out.nframes (fun i W=>Un w X D Bn (yS F m fault (.slice U frames.length V) out A (.slice bs y.length cs) B n z) (.pointer (some ⟨h,0,none⟩)) (.slice U frames.length V) os A frames PL (.loop r0) i W) (fun k u=>∀hk:k<frames.length,YZ T w u (frames[k]).vars) ?hJc ?hJe ?hY _ bG).mono ?_
  case hJc =>
   intro i W hJ;exact zA hJ.itr
  case hJe =>
   intro i W hJ k hk;obtain ⟨b,o,e,-,bM,c0,c1,u,c2,cL⟩:=ch.out k hk;obtain ⟨r,hr⟩:=hJ.lin;have aH:∀q,W.cell? ⟨b,q,none⟩=w.cell? ⟨b,q,none⟩:=fun q=>zb hr.strs.below bM
   exact ⟨b,o,u,e,(aH _).trans c0,(aH _).trans c1,(aH _).trans c2,fun _=>cL⟩
  case hY =>
   intro i R u k hk bF hJ hP;have ba:=hJ.loop;have bH:=hJ.wD;have ca:=zK ba;obtain ⟨bu,cu,rfl,-⟩:=(hP hk).at;have HU:Hid (YZ T w (.slice bu (frames[k]).vars.length cu) (frames[k]).vars):=hP hk;have bY:Hid (yf frames[k]):=HS.out.frames _ (List.getElem_mem hk);have ai:=Xf os A frames hk bF;obtain ⟨f,hf⟩:∃f,f=frames[k]:=⟨_,rfl⟩;rw [←hf] at HU bY ai;simp only [←hf];obtain ⟨nv,bP⟩:∃nv,nv=f.vars.length:=⟨_,rfl⟩;rw [←bP] at HU ⊢;have dh:Hid (nv=f.vars.length):=bP;clear hf bP;have bg:Hid (zn os A 0 (frames.reverse.take (i+1))=zn os A 0 (frames.reverse.take i)++[ZB os f (decide ((i:Int)=A))]):=ai;obtain ⟨W2,a6⟩:∃W2,W2=R.alloc (.cells #[.string (za f.fn),.int .i64 f.line,.slice bu nv cu] 52):=⟨_,rfl⟩;have bx:Hid (W2=R.alloc (.cells #[.string (za f.fn),.int .i64 f.line,.slice bu nv cu] 52)):=a6;have ao:Below R.heap.size R W2:=by rw [a6];exact (Below.refl _ _).alloc (Nat.le_refl _) _
   have b2:W2.heap[R.heap.size]?=some (.cells #[.string (za f.fn),.int .i64 f.line,.slice bu nv cu] 52 (0,0)):=by rw [a6];exact World.alloc_heap_new _ _
   obtain ⟨r1,b4⟩:=hJ.lin;have ax:=b4.strs.low;have bt:=hJ.turn (ob':=.loop r0) (W':=W2) rfl (ao.mono ax) (fun b hb _=>ao.block b hb) ((ao.block _ ca).trans ba)
   have aw:=bt.loop;have aS:w.heap.size≤W2.heap.size:=Nat.le_trans ax ao.size;refine ⟨_,_,_,_,run_yield ba (by rw [hpa];rfl),roundIn_of_wpIn trivial ?_⟩
   rw [has,hbo,htm,hpa];simp only [List.zip_toArray,List.zip_cons_cons,List.zip_nil_right];have bb:=bt.turn (ob':=.loop { r0 with state:=.busy }) (W':=W2.putObj (D+1) (.loop { r0 with state:=.busy })) rfl ((Below.refl w.heap.size W2).grown (grownBy_putObj' W2 _ _) aS (fun k e=>by cases e;omega)) (fun b _ hb=>World.putObj_heap_other hb) (World.putObj_heap_same (zK aw))
   have br:(W2.putObj (D+1) (.loop { r0 with state:=.busy })).heap[R.heap.size]?=some (.cells #[.string (za f.fn),.int .i64 f.line,.slice bu nv cu] 52 (0,0)):=(World.putObj_heap_other (by omega)).trans b2
   have bi:=run_beginRound (P:=Tryz.prog) aw aJ;have be:Hid ((Instr.beginRound (D+1)).run Tryz.prog W2=.ok () (W2.putObj (D+1) (.loop { r0 with state:=.busy }))):=bi;obtain ⟨Wb,cw⟩:∃Wb,Wb=W2.putObj (D+1) (.loop { r0 with state:=.busy }):=⟨_,rfl⟩;rw [←cw] at bb br be;obtain ⟨r9,bU⟩:=bb.lin;have aV:Hid (ya w Wb X (yS F m fault (.slice U frames.length V) out A (.slice bs y.length cs) B n z) (.pointer (some ⟨h,0,none⟩)) r9 ([PL]++zn os A 0 (frames.reverse.take i))):=bU;have cW:Hid (Un w X D Bn (yS F m fault (.slice U frames.length V) out A (.slice bs y.length cs) B n z) (.pointer (some ⟨h,0,none⟩)) (.slice U frames.length V) os A frames PL (.loop { r0 with state:=.busy }) i Wb):=bb;have aO:Hid (Wb.heap[R.heap.size]?=some (.cells #[.string (za f.fn),.int .i64 f.line,.slice bu nv cu] 52 (0,0))):=br;have df:i≤1048576:=by have:=HS.out.nframes;simp only at this;omega
   have dl:Hid (frames.length=k+1+i):=bF
   have cU:Hid (({ { r0 with state:=.busy } with state:=if (none:Option Code).isNone then .ready else .done,pending:=none }:Loop)=r0):=by
    show _=_
    cases r0;simp_all
   clear ai hP hJ b4 bb bU ba bt aw br b2 cw bi a6 ao bF ax aS ca
   gi_wp2_with fail
   rw [←bx.out];refine ⟨_,be.out,?_⟩
   gi_wp2_with fail
   have ah:Hid (∀W,ya w W X (yS F m fault (.slice U frames.length V) out A (.slice bs y.length cs) B n z) (.pointer (some ⟨h,0,none⟩)) r9 ([PL]++zn os A 0 (frames.reverse.take i))→W.heap[R.heap.size]?=some (.cells #[.string (za f.fn),.int .i64 f.line,.slice bu nv cu] 52 (0,0))→W.cell? ⟨X,0,none⟩=some r9∧W.cell? ⟨R.heap.size,0,none⟩=some (.string (za f.fn))∧W.cell? ⟨R.heap.size,1,none⟩=some (.int .i64 f.line)∧W.cell? ⟨R.heap.size,2,none⟩=some (.slice bu nv cu)∧W.cell? ⟨w.heap.size,5,none⟩=some (.int .i64 A)∧W.cell? ⟨w.heap.size+1,0,none⟩=some (.pointer (some ⟨h,0,none⟩))):=fun W hL hF=>by
    obtain ⟨a0,a1,a2⟩:=Zp hF;obtain ⟨-,-,-,-,-,b5,-,-,-,-⟩:=zl hL.view;exact ⟨zA hL.box,a0,a1,a2,b5,zA hL.ptr⟩
   have x0:∀c:zC fun W=>W.cell? ⟨X,0,none⟩=some r9∧W.cell? ⟨R.heap.size,0,none⟩=some (.string (za f.fn))∧W.cell? ⟨R.heap.size,1,none⟩=some (.int .i64 f.line)∧W.cell? ⟨R.heap.size,2,none⟩=some (.slice bu nv cu)∧W.cell? ⟨w.heap.size,5,none⟩=some (.int .i64 A)∧W.cell? ⟨w.heap.size+1,0,none⟩=some (.pointer (some ⟨h,0,none⟩)),c.1.cell? ⟨X,0,none⟩=some r9:=fun c=>c.2.1
   have x1:∀c:zC fun W=>W.cell? ⟨X,0,none⟩=some r9∧W.cell? ⟨R.heap.size,0,none⟩=some (.string (za f.fn))∧W.cell? ⟨R.heap.size,1,none⟩=some (.int .i64 f.line)∧W.cell? ⟨R.heap.size,2,none⟩=some (.slice bu nv cu)∧W.cell? ⟨w.heap.size,5,none⟩=some (.int .i64 A)∧W.cell? ⟨w.heap.size+1,0,none⟩=some (.pointer (some ⟨h,0,none⟩)),c.1.cell? ⟨R.heap.size,0,none⟩=some (.string (za f.fn)):=fun c=>c.2.2.1
   have x2:∀c:zC fun W=>W.cell? ⟨X,0,none⟩=some r9∧W.cell? ⟨R.heap.size,0,none⟩=some (.string (za f.fn))∧W.cell? ⟨R.heap.size,1,none⟩=some (.int .i64 f.line)∧W.cell? ⟨R.heap.size,2,none⟩=some (.slice bu nv cu)∧W.cell? ⟨w.heap.size,5,none⟩=some (.int .i64 A)∧W.cell? ⟨w.heap.size+1,0,none⟩=some (.pointer (some ⟨h,0,none⟩)),c.1.cell? ⟨R.heap.size,1,none⟩=some (.int .i64 f.line):=fun c=>c.2.2.2.1
   have x3:∀c:zC fun W=>W.cell? ⟨X,0,none⟩=some r9∧W.cell? ⟨R.heap.size,0,none⟩=some (.string (za f.fn))∧W.cell? ⟨R.heap.size,1,none⟩=some (.int .i64 f.line)∧W.cell? ⟨R.heap.size,2,none⟩=some (.slice bu nv cu)∧W.cell? ⟨w.heap.size,5,none⟩=some (.int .i64 A)∧W.cell? ⟨w.heap.size+1,0,none⟩=some (.pointer (some ⟨h,0,none⟩)),c.1.cell? ⟨R.heap.size,2,none⟩=some (.slice bu nv cu):=fun c=>c.2.2.2.2.1
   have x4:∀c:zC fun W=>W.cell? ⟨X,0,none⟩=some r9∧W.cell? ⟨R.heap.size,0,none⟩=some (.string (za f.fn))∧W.cell? ⟨R.heap.size,1,none⟩=some (.int .i64 f.line)∧W.cell? ⟨R.heap.size,2,none⟩=some (.slice bu nv cu)∧W.cell? ⟨w.heap.size,5,none⟩=some (.int .i64 A)∧W.cell? ⟨w.heap.size+1,0,none⟩=some (.pointer (some ⟨h,0,none⟩)),c.1.cell? ⟨w.heap.size,5,none⟩=some (.int .i64 A):=fun c=>c.2.2.2.2.2.1
   have x5:∀c:zC fun W=>W.cell? ⟨X,0,none⟩=some r9∧W.cell? ⟨R.heap.size,0,none⟩=some (.string (za f.fn))∧W.cell? ⟨R.heap.size,1,none⟩=some (.int .i64 f.line)∧W.cell? ⟨R.heap.size,2,none⟩=some (.slice bu nv cu)∧W.cell? ⟨w.heap.size,5,none⟩=some (.int .i64 A)∧W.cell? ⟨w.heap.size+1,0,none⟩=some (.pointer (some ⟨h,0,none⟩)),c.1.cell? ⟨w.heap.size+1,0,none⟩=some (.pointer (some ⟨h,0,none⟩)):=fun c=>c.2.2.2.2.2.2
   haveI aF:Nonempty (zC fun W=>W.cell? ⟨X,0,none⟩=some r9∧W.cell? ⟨R.heap.size,0,none⟩=some (.string (za f.fn))∧W.cell? ⟨R.heap.size,1,none⟩=some (.int .i64 f.line)∧W.cell? ⟨R.heap.size,2,none⟩=some (.slice bu nv cu)∧W.cell? ⟨w.heap.size,5,none⟩=some (.int .i64 A)∧W.cell? ⟨w.heap.size+1,0,none⟩=some (.pointer (some ⟨h,0,none⟩))):=⟨⟨Wb,ah.out Wb aV.out aO.out⟩⟩
   have af:Hid (Below Wb.heap.size Wb Wb.drew):=(Below.refl _ _).drew;refine VN 10 (n:=11) (S:=fun w'=>∃c:zC fun W=>W.cell? ⟨X,0,none⟩=some r9∧W.cell? ⟨R.heap.size,0,none⟩=some (.string (za f.fn))∧W.cell? ⟨R.heap.size,1,none⟩=some (.int .i64 f.line)∧W.cell? ⟨R.heap.size,2,none⟩=some (.slice bu nv cu)∧W.cell? ⟨w.heap.size,5,none⟩=some (.int .i64 A)∧W.cell? ⟨w.heap.size+1,0,none⟩=some (.pointer (some ⟨h,0,none⟩)),w'=c.1) (by kernel_rfl) (by kernel_rfl) ?hq rfl rfl ?_
   case hq =>
    rintro ⟨a9,w9,h9⟩;exact h9
   refine Xc (fuel:=4) (fuel':=11) (idx:=[0,1,2,3,4,5,6]) (by kernel_rfl) rfl rfl rfl (fun _ _ _ _ _ h=>h) ⟨⟨Wb.drew,ah.out _ (aV.out.new af.out) ((af.out.block _ (zc aO.out)).trans aO.out)⟩,rfl⟩ ?_
   show wpQuiet _ _ _ _ [_,_,_,_,_,_,_] _
   iterate 7 (go_big_quiet_step (fail))
   refine wpQuiet_nil ?_;have cR:Hid (Below w.heap.size w Wb):=aV.out.strs.below;have cV:=aV.out.strs.low
   have cG:Hid (∀W,Below w.heap.size w W→Calls Tryz.prog 26 #[UW (.slice bu nv cu) f.fn f.line,.bool (decide ((i:Int)=A)),.pointer (some ⟨h,0,none⟩)] W fun e w'=>e=.returned (.string (za (ZB os f (decide ((i:Int)=A)))))∧Below W.heap.size W w'):=fun W hW =>
    xm f _ _ W (HH.out.below hW) (rowIn.kept HU.out (xC T) hW.size fun q _ hq=>hW.block q hq) bY.out (HT.out.below hW (Nat.le_refl _))
   obtain ⟨FB,cc⟩:∃FB,FB=ZB os f (decide ((i:Int)=A)):=⟨_,rfl⟩;rw [←cc] at cG bg;clear cc;refine zP (fuel:=3) (fuel':=4) (i:=7) rfl (by kernel_rfl) rfl rfl (by rfl) ?_
   intro K J;go_simp;refine (cG.out Wb.drew (cR.out.trans (af.out.mono cV))).mono ?_;rintro e z1 ⟨rfl,hb⟩;have aE:Hid (Below Wb.heap.size Wb z1):=af.out.trans (hb.mono af.out.size);clear hb
   (try go_simp)
   have ae:Hid _:=aV.out.new aE.out;have am:Hid _:=(aE.out.block _ (zc aO.out)).trans aO.out;refine J.out _ _ (fun _=>⟨⟨z1,ah.out z1 ae.out am.out⟩,rfl⟩) ?_
   clear J K;refine zP (fuel:=2) (fuel':=3) (i:=8) rfl (by kernel_rfl) rfl rfl (by rfl) ?_
   intro K J;go_simp;have aB:Hid (Below z1.heap.size z1 (z1.alloc (.cells #[.string (za FB)] 9))):=(Below.refl _ _).alloc (Nat.le_refl _) _;refine J.out _ _ (fun _=>⟨⟨_,ah.out _ (ae.out.new aB.out) ((aB.out.block _ (zc am.out)).trans am.out)⟩,rfl⟩) ?_
   clear J K;refine Xd (fuel:=1) (fuel':=2) (i:=9) rfl (by kernel_rfl) rfl rfl (by rfl) ?_
   intro K J;refine Zf (.tmp 33) (.tmp 41) rfl (by rfl) w.heap.size r9 ([PL]++zn os A 0 (frames.reverse.take i)) [FB] rfl z1 w ae.out.strs rfl rfl (by rw [List.length_append,ZL,List.length_take];simp;omega) ?_
   intro v9 z3 aj O;obtain ⟨n9,b9,c9,rfl⟩:=yn aj.row;have aC:Hid (ya w (z3.setCell ⟨X,0,none⟩ (.slice b9 n9 c9)) X (yS F m fault (.slice U frames.length V) out A (.slice bs y.length cs) B n z) (.pointer (some ⟨h,0,none⟩)) (.slice b9 n9 c9) ([PL]++zn os A 0 (frames.reverse.take i)++[FB])):=ae.out.put aj O;have bC:Hid _:=zp (ae.out.strs.row.alloc _) O ((Below.heap_alloc _ _ _ (zc ae.out.view)).trans ae.out.view) (by decide)
   have dd:Hid _:=zp (ae.out.strs.row.alloc _) O ((Below.heap_alloc _ _ _ (zc ae.out.ptr)).trans ae.out.ptr) (by decide)
   have ak:Hid _:=zp (ae.out.strs.row.alloc _) O ((Below.heap_alloc _ _ _ (zc ae.out.box)).trans ae.out.box) (by decide)
   have bN:Hid _:=zp (ae.out.strs.row.alloc _) O ((Below.heap_alloc _ _ _ (zc am.out)).trans am.out) (by decide)
   have aA:Hid (z3.cell? ⟨X,0,none⟩=some r9∧z3.cell? ⟨R.heap.size,0,none⟩=some (.string (za f.fn))∧z3.cell? ⟨R.heap.size,1,none⟩=some (.int .i64 f.line)∧z3.cell? ⟨R.heap.size,2,none⟩=some (.slice bu nv cu)∧z3.cell? ⟨w.heap.size,5,none⟩=some (.int .i64 A)∧z3.cell? ⟨w.heap.size+1,0,none⟩=some (.pointer (some ⟨h,0,none⟩))):=by
    obtain ⟨a0,a1,a2⟩:=Zp bN.out;obtain ⟨-,-,-,-,-,b5,-,-,-,-⟩:=zl bC.out;exact ⟨zA ak.out,a0,a1,a2,b5,zA dd.out⟩
   refine J.out _ _ (fun _=>⟨⟨z3,aA.out⟩,rfl⟩) ?_
   clear J K
   (try simp only [Act.put,List.setIfInBounds_toArray,List.set_cons_zero,List.set_cons_succ])
   refine zP (fuel:=0) (fuel':=1) (i:=10) rfl (by kernel_rfl) rfl rfl (by rfl) ?_
   intro K J;have ar:=aA.out.1;have aP:=xY ak.out 0;go_simp;refine J.out _ _ (fun h=>absurd rfl h) ?_
   clear J K;refine Y3 (by kernel_rfl) ?_
   clear x0 x1 x2 x3 x4 x5 ar aP;rw [List.append_assoc,←bg.out] at aC;have cy:=cW.out.step rfl aE.out ae.out O aC.out;have cE:=cy.loop;have bJ:=aC.out.strs.low;show ∃v w',_
   refine ⟨_,_,run_endRound none cE,rfl,?_⟩;rw [cU.out];exact cy.turn rfl ((Below.refl w.heap.size _).grown (grownBy_putObj' _ _ _) bJ (fun k e=>by cases e;omega)) (fun b _ hb=>World.putObj_heap_other hb) (World.putObj_heap_same (zK cE))
  rintro e W3 ⟨⟨u3,rfl⟩,aQ⟩;have aw:=aQ.loop;have bH:=aQ.wD;obtain ⟨r3,bZ⟩:=aQ.lin;refine ⟨r0.pending,_,run_endLoop (P:=Tryz.prog) aw (by rw [aJ];simp),?_⟩
  have a7:=aQ.turn (ob':=.loop { r0 with state:=.exhausted }) (W':=W3.putObj (D+1) (.loop { r0 with state:=.exhausted })) rfl ((Below.refl w.heap.size W3).grown (grownBy_putObj' W3 _ _) bZ.strs.low (fun k e=>by cases e;omega)) (fun b _ hb=>World.putObj_heap_other hb) (World.putObj_heap_same (zK aw))
  generalize W3.putObj (D+1) (.loop { r0 with state:=.exhausted })=W4 at a7 ⊢;obtain ⟨r4,aI⟩:=a7.lin;rw [show frames.reverse.take frames.length=frames.reverse by rw [←List.length_reverse,List.take_length]] at aI
  obtain ⟨L1,aZ⟩:∃L1,L1=[PL]++zn os A 0 frames.reverse:=⟨_,rfl⟩;rw [←aZ] at aI;have ae:Hid (L1=[PL]++zn os A 0 frames.reverse):=aZ
  have bn:Hid (L1.length≤1048577):=by
   have:=HS.out.nframes
   simp only at this;show _≤_
   rw [aZ,List.length_append,ZL,List.length_reverse]
   simp
   omega
  have aT:Hid (ya w W4 X (yS F m fault (.slice U frames.length V) out A (.slice bs y.length cs) B n z) (.pointer (some ⟨h,0,none⟩)) r4 L1):=aI;have aK:Hid (W4.heap[D]?=some (.deferred (some []))):=a7.dfr;have dc:Hid (w.heap.size≤D):=bH;obtain ⟨p0,p1,p2,p3,p4,p5,p6,p7,p8,p9⟩:=zl aI.view;have co:=xl out W4 HS.out.out (HT.out.below aI.strs.below (Nat.le_refl _));obtain ⟨E,ap⟩:∃E,E=Y1 out:=⟨_,rfl⟩;have di:E.length≤4:=by rw [ap];exact XV out
  rw [←ap] at co;have aM:Hid (E=Y1 out):=ap;clear aQ a7 bZ aI aw aZ ap bH bG;rw [hpe];show Exit.inBlock 1 _ Exit.normal _ W4
  clear hpe aJ htm hpa has hbo;go_wp2_with fail
  refine co.mono ?_;clear co p0 p1 p2 p3 p4 p5 p6 p7 p8 p9;rintro e w8 ⟨dk,rfl,bA⟩;have cj:=bA.in.at;obtain ⟨bo,co,rfl,ce,ct,bl⟩:=cj;have bW:Hid (∀i (hi:i<E.length),∃b o,bo=some ⟨b,o,none⟩∧W4.heap.size≤b∧b<w8.heap.size∧zY w8 b (o+i*1) E[i]):=bl;have av:=bA.below
  have bE:xq w w8 w8 X (fun q=>(∃o,bo=some ⟨q,o,none⟩∧W4.heap.size≤q∧q<w8.heap.size)∨q=D) (yS F m fault (.slice U frames.length V) out A (.slice bs y.length cs) B n z) (.pointer (some ⟨h,0,none⟩)) r4 L1:=by
   have cX:w8.heap[D]?=some (.deferred (some [])):=(av.block _ (zK aK.out)).trans aK.out;refine ⟨aT.out.new av,fun _ _=>rfl,?_,Nat.le_refl _,?_,?_⟩
   ·rintro q (⟨o,-,-,hq⟩ | rfl)
    ·exact hq
    ·exact zK cX
   ·intro q e hq
    rcases hq with ⟨o,-,hq,-⟩ | rfl
    ·have:=(aT.out.strs.row.lt q e).2
     omega
    ·obtain ⟨dg,hc⟩:=Zs aT.out.strs.row e
     rw [aK.out] at hc;cases hc
   ·rintro (⟨o,-,hq,-⟩ | e)
    ·have:=zc aT.out.box
     omega
    ·have hc:=aT.out.box
     rw [e,aK.out] at hc;cases hc
  obtain ⟨G,hG⟩:∃G:Nat→Prop,G=fun q=>(∃o,bo=some ⟨q,o,none⟩∧W4.heap.size≤q∧q<w8.heap.size)∨q=D:=⟨_,rfl⟩
  have c8:Hid (∀b o,bo=some ⟨b,o,none⟩→W4.heap.size≤b→b<w8.heap.size→G b):=fun b o e h1 h2=>by rw [hG];exact .inl ⟨o,e,h1,h2⟩
  have cq:Hid (G D):=by show G D;rw [hG];exact .inr rfl
  rw [←hG] at bE;have c4:Hid _:=bE;have c3:Hid (w8.heap[D]?=some (.deferred (some []))):=(av.block _ (zK aK.out)).trans aK.out;clear hG;clear bA bl av bE ce ct;go_wp2
  go_loopw [48] (fun vi wr=>∃(i:Nat) (r:Value),i≤E.length∧vi=.int .i64 (i:Int)∧xq w w8 wr X G (yS F m fault (.slice U frames.length V) out A (.slice bs y.length cs) B n z) (.pointer (some ⟨h,0,none⟩)) r (L1++(E.take i).map fun s=>zG ([124,32]++s))) (fun vi _=>E.length-(intOf vi).toNat)
  case atStart=>exact ⟨0,r4,Nat.zero_le _,rfl,by simpa using c4.out⟩
  case round =>
   obtain ⟨i,r9,hi,rfl,hj⟩:=hrel;have HJ:Hid (xq w w8 wr X G (yS F m fault (.slice U frames.length V) out A (.slice bs y.length cs) B n z) (.pointer (some ⟨h,0,none⟩)) r9 (L1++(E.take i).map fun s=>zG ([124,32]++s))):=hj
   clear hj
   by_cases hlt:i<E.length
   ·have bB:(i:Int)<E.length:=by omega
    obtain ⟨b,o,bh,cM,cO,hc⟩:=bW.out i hlt;have cN:=c8.out b o bh cM cO;subst bh
    have aU:wr.cell? ⟨b,o+i,none⟩=some (.string (za E[i])):=by
     have h1:wr.cell? ⟨b,o+i*1,none⟩=some (.string (za E[i])):=(World.cell?_of_block (HJ.out.kept b cN)).trans hc
     simpa only [Nat.mul_one] using h1
    have cY:=uA out E[i] (by rw [←aM.out];exact List.getElem_mem hlt)
    have ai:Hid ((E.take (i+1)).map (fun s=>zG ([124,32]++s))=(E.take i).map (fun s=>zG ([124,32]++s))++[zG ([124,32]++E[i])]):=XW _ E hlt
    obtain ⟨s,hs⟩:∃s,s=E[i]:=⟨_,rfl⟩;rw [←hs] at aU cY ai;have cH:=HS.out.out;simp only at cH
    have ay:Hid ((L1++(E.take i).map fun s=>zG ([124,32]++s)).length≤2000000):=by
     have:=bn.out
     show _≤_
     rw [List.length_append,List.length_map,List.length_take];omega
    obtain ⟨LB,aG⟩:∃LB,LB=zG ([124,32]++s):=⟨_,rfl⟩;rw [←aG] at ai
    have de:Hid (LB=zG ([[124,32],s]:List (List UInt8)).flatten):=by
     show _=_
     rw [aG];simp
    obtain ⟨PR,al⟩:∃PR,PR=(L1++(E.take i).map fun s=>zG ([124,32]++s)):=⟨_,rfl⟩
    have aN:Hid (L1++(E.take (i+1)).map (fun s=>zG ([124,32]++s))=PR++[LB]):=by
     show _=_
     rw [ai.out,al,List.append_assoc]
    rw [←al] at HJ ay;clear hs aG al hc ai
    go_upto_region 13 with fail
    clear aU;have ar:=zA HJ.out.lin.box;have x0:∀c:zC fun W=>W.cell? ⟨X,0,none⟩=some r9,c.1.cell? ⟨X,0,none⟩=some r9:=fun c=>c.2
    haveI aF:Nonempty (zC fun W=>W.cell? ⟨X,0,none⟩=some r9):=⟨⟨wr,ar⟩⟩
    refine xD 6 (n:=7) (S:=fun w'=>∃c:zC fun W=>W.cell? ⟨X,0,none⟩=some r9,w'=c.1) (by kernel_rfl) rfl rfl ?_
    have af:Hid (Below wr.heap.size wr wr.drew):=(Below.refl _ _).drew;obtain ⟨zd,aq⟩:∃zd,zd=wr.drew:=⟨_,rfl⟩;rw [←aq] at af ⊢;have an:Hid (xq w w8 zd X G (yS F m fault (.slice U frames.length V) out A (.slice bs y.length cs) B n z) (.pointer (some ⟨h,0,none⟩)) r9 PR):=HJ.out.new af.out;clear aq ar;refine Xc (fuel:=5) (fuel':=7) (idx:=[0,1]) (by kernel_rfl) rfl rfl rfl (fun _ _ _ _ _ h=>h) ⟨⟨zd,zA an.out.lin.box⟩,rfl⟩ ?_
    show wpQuiet _ _ _ _ [_,_] _
    iterate 2 (go_big_quiet_step (fail))
    refine wpQuiet_nil ?_;refine zP (fuel:=4) (fuel':=5) (i:=2) rfl (by kernel_rfl) rfl rfl (by rfl) ?_
    intro K J;go_simp;have cJ:Hid (xq w w8 (zd.alloc (.cells #[.string ⟨#[124,32]⟩,.string (za s)] 9)) X G (yS F m fault (.slice U frames.length V) out A (.slice bs y.length cs) B n z) (.pointer (some ⟨h,0,none⟩)) r9 PR):=an.out.new ((Below.refl _ _).alloc (Nat.le_refl _) _);refine J.out _ _ (fun _=>⟨⟨_,zA cJ.out.lin.box⟩,rfl⟩) ?_
    clear J K;refine zP (fuel:=3) (fuel':=4) (i:=3) rfl (by kernel_rfl) rfl rfl (by rfl) ?_
    intro K J;go_simp;have cl:=yO [[124,32],s] zd (by simp) (by simp;omega)
    rw [←de.out] at cl;refine cl.mono ?_;clear cl;rintro e z1 ⟨rfl,hb⟩;have I:Hid (xq w w8 z1 X G (yS F m fault (.slice U frames.length V) out A (.slice bs y.length cs) B n z) (.pointer (some ⟨h,0,none⟩)) r9 PR):=an.out.new hb;clear hb
    (try go_simp)
    refine J.out _ _ (fun _=>⟨⟨z1,zA I.out.lin.box⟩,rfl⟩) ?_
    clear J K;refine zP (fuel:=2) (fuel':=3) (i:=4) rfl (by kernel_rfl) rfl rfl (by rfl) ?_
    intro K J;go_simp;have c5:Hid (xq w w8 (z1.alloc (.cells #[.string (za LB)] 9)) X G (yS F m fault (.slice U frames.length V) out A (.slice bs y.length cs) B n z) (.pointer (some ⟨h,0,none⟩)) r9 PR):=I.out.new ((Below.refl _ _).alloc (Nat.le_refl _) _);refine J.out _ _ (fun _=>⟨⟨_,zA c5.out.lin.box⟩,rfl⟩) ?_
    clear J K;refine Xd (fuel:=1) (fuel':=2) (i:=5) rfl (by kernel_rfl) rfl rfl (by rfl) ?_
    intro K J;refine zW (.tmp 52) (.tmp 56) rfl (by rfl) w.heap.size r9 PR [LB] rfl z1 w I.out.lin.strs rfl rfl (by have:=ay.out;simp;omega) ?_
    intro v9 z3 aj O ag;obtain ⟨n9,b9,c9,rfl⟩:=yn aj.row;have aC:Hid (xq w w8 (z3.setCell ⟨X,0,none⟩ (.slice b9 n9 c9)) X G (yS F m fault (.slice U frames.length V) out A (.slice bs y.length cs) B n z) (.pointer (some ⟨h,0,none⟩)) (.slice b9 n9 c9) (PR++[LB])):=I.out.put aj O ag;have ak:Hid _:=zp (I.out.lin.strs.row.alloc _) O ((Below.heap_alloc _ _ _ (zc I.out.lin.box)).trans I.out.lin.box) (by decide)
    refine J.out _ _ (fun _=>⟨⟨z3,zA ak.out⟩,rfl⟩) ?_
    clear J K aj O ag
    (try simp only [Act.put,List.setIfInBounds_toArray,List.set_cons_zero,List.set_cons_succ])
    refine zP (fuel:=0) (fuel':=1) (i:=6) rfl (by kernel_rfl) rfl rfl (by rfl) ?_
    intro K J;have ar:=zA ak.out;have aP:=xY ak.out 0;go_simp;refine J.out _ _ (fun h=>absurd rfl h) ?_
    clear J K;refine Y3 (by kernel_rfl) ?_
    clear x0 ar aP aF;go_wp2
    exact ⟨⟨i+1,_,by omega,by go_num,by rw [aN.out];exact aC.out⟩,by simp [intOf];omega⟩
   ·have bB:¬ (i:Int)<E.length:=by omega
    obtain rfl:i=E.length:=by omega
    rw [List.take_length] at HJ;obtain ⟨L2,bc⟩:∃L2,L2=L1++E.map fun s=>zG ([124,32]++s):=⟨_,rfl⟩
    rw [←bc] at HJ;have cZ:Hid (L2=L1++E.map fun s=>zG ([124,32]++s)):=bc
    have bm:Hid (L2.length≤2000000):=by
     have:=bn.out
     show _≤_
     rw [bc,List.length_append,List.length_map];omega
    clear bc;obtain ⟨p0,p1,p2,p3,p4,p5,p6,p7,p8,p9⟩:=zl HJ.out.lin.view
    go_upto_region 15 with fail
    have c7:Hid (xq w w8 wr X G (yS F m fault (.slice U frames.length V) out A (.slice bs y.length cs) B n z) (.pointer (some ⟨h,0,none⟩)) r9 L2):=HJ.out;clear HJ
    go_upto_region 16 with fail
    clear p0 p1 p2 p3 p4 p5 p6 p7 p8 p9;have cI:=HS.out.nstops;simp only at cI
    go_loopw [62] (fun vi wr=>∃(i:Nat) (r:Value),i≤y.length∧vi=.int .i64 (i:Int)∧xq w w8 wr X G (yS F m fault (.slice U frames.length V) out A (.slice bs y.length cs) B n z) (.pointer (some ⟨h,0,none⟩)) r (L2++(y.take i).map Zl)) (fun vi _=>y.length-(intOf vi).toNat)
    case atStart=>exact ⟨0,r9,Nat.zero_le _,rfl,by simpa using c7.out⟩
    case round =>
     obtain ⟨i,r9,hi,rfl,hj⟩:=hrel;have HJ:Hid (xq w w8 wr X G (yS F m fault (.slice U frames.length V) out A (.slice bs y.length cs) B n z) (.pointer (some ⟨h,0,none⟩)) r9 (L2++(y.take i).map Zl)):=hj;clear hj
     by_cases hlt:i<y.length
     ·have bB:(i:Int)<y.length:=by omega
      obtain ⟨b,o,rfl,-,bM,e0,e1,e2,e3,e4⟩:=cC.out i hlt;have da:Hid (Below w.heap.size w wr):=HJ.out.lin.strs.below;have aH:∀q,wr.cell? ⟨b,q,none⟩=w.cell? ⟨b,q,none⟩:=fun q=>zb da.out bM
      rw [←aH] at e0 e1 e2 e3 e4;have cv:Hid (YJ y[i]):=HS.out.stops _ (List.getElem_mem hlt);have ai:Hid ((y.take (i+1)).map Zl=(y.take i).map Zl++[Zl y[i]]):=XW _ y hlt;obtain ⟨st,bj⟩:∃st,st=y[i]:=⟨_,rfl⟩;rw [←bj] at e0 e1 e2 e3 e4 cv ai;obtain ⟨aa,Y,Z,ad,ab⟩:=st;simp only at e0 e1 e2 e3 e4;have cr:Hid (∀W,Below w.heap.size w W→Calls Tryz.prog 29 #[UZ ⟨aa,Y,Z,ad,ab⟩] W fun e w'=>e=.returned (.string (za (Zl ⟨aa,Y,Z,ad,ab⟩)))∧Below W.heap.size W w'):=fun W hW=>Xe _ W cv.out (HT.out.below hW (Nat.le_refl _))
      obtain ⟨LB,aG⟩:∃LB,LB=Zl ⟨aa,Y,Z,ad,ab⟩:=⟨_,rfl⟩;rw [←aG] at ai cr
      have ay:Hid ((L2++(y.take i).map Zl).length≤4000000):=by
       have:=bm.out
       show _≤_
       rw [List.length_append,List.length_map,List.length_take];omega
      obtain ⟨PR,al⟩:∃PR,PR=L2++(y.take i).map Zl:=⟨_,rfl⟩
      have aN:Hid (L2++(y.take (i+1)).map Zl=PR++[LB]):=by
       show _=_
       rw [ai.out,al,List.append_assoc]
      rw [←al] at HJ ay;obtain ⟨au,bS,az,cS,h5⟩:=yE wr (.cells #[.int .i64 aa,.int .i64 Y,.string (za Z),.string (za ad),.bool ab] 82);have cQ:Hid (au=wr.alloc (.cells #[.int .i64 aa,.int .i64 Y,.string (za Z),.string (za ad),.bool ab] 82)):=bS;have bv:Hid (au.heap[wr.heap.size]?=some (.cells #[.int .i64 aa,.int .i64 Y,.string (za Z),.string (za ad),.bool ab] 82 (0,0))):=h5;have b1:Hid (xq w w8 au X G (yS F m fault (.slice U frames.length V) out A (.slice (some ⟨b,o,none⟩) y.length cs) B n z) (.pointer (some ⟨h,0,none⟩)) r9 PR):=HJ.out.new az;clear bj aG al ai bS az h5 cS aH
      go_upto_region 18 with fail
      rw [←cQ.out];clear e0 e1 e2 e3 e4
      have ah:Hid (∀W,xq w w8 W X G (yS F m fault (.slice U frames.length V) out A (.slice (some ⟨b,o,none⟩) y.length cs) B n z) (.pointer (some ⟨h,0,none⟩)) r9 PR→W.heap[wr.heap.size]?=some (.cells #[.int .i64 aa,.int .i64 Y,.string (za Z),.string (za ad),.bool ab] 82 (0,0))→W.cell? ⟨X,0,none⟩=some r9∧W.cell? ⟨wr.heap.size,0,none⟩=some (.int .i64 aa)∧W.cell? ⟨wr.heap.size,1,none⟩=some (.int .i64 Y)∧W.cell? ⟨wr.heap.size,2,none⟩=some (.string (za Z))∧W.cell? ⟨wr.heap.size,3,none⟩=some (.string (za ad))∧W.cell? ⟨wr.heap.size,4,none⟩=some (.bool ab)):=fun W hL hF=>by
       obtain ⟨a0,a1,a2,a3,a4⟩:=Zb hF;exact ⟨zA hL.lin.box,a0,a1,a2,a3,a4⟩
      have x0:∀c:zC fun W=>W.cell? ⟨X,0,none⟩=some r9∧W.cell? ⟨wr.heap.size,0,none⟩=some (.int .i64 aa)∧W.cell? ⟨wr.heap.size,1,none⟩=some (.int .i64 Y)∧W.cell? ⟨wr.heap.size,2,none⟩=some (.string (za Z))∧W.cell? ⟨wr.heap.size,3,none⟩=some (.string (za ad))∧W.cell? ⟨wr.heap.size,4,none⟩=some (.bool ab),c.1.cell? ⟨X,0,none⟩=some r9:=fun c=>c.2.1
      have x1:∀c:zC fun W=>W.cell? ⟨X,0,none⟩=some r9∧W.cell? ⟨wr.heap.size,0,none⟩=some (.int .i64 aa)∧W.cell? ⟨wr.heap.size,1,none⟩=some (.int .i64 Y)∧W.cell? ⟨wr.heap.size,2,none⟩=some (.string (za Z))∧W.cell? ⟨wr.heap.size,3,none⟩=some (.string (za ad))∧W.cell? ⟨wr.heap.size,4,none⟩=some (.bool ab),c.1.cell? ⟨wr.heap.size,0,none⟩=some (.int .i64 aa):=fun c=>c.2.2.1
      have x2:∀c:zC fun W=>W.cell? ⟨X,0,none⟩=some r9∧W.cell? ⟨wr.heap.size,0,none⟩=some (.int .i64 aa)∧W.cell? ⟨wr.heap.size,1,none⟩=some (.int .i64 Y)∧W.cell? ⟨wr.heap.size,2,none⟩=some (.string (za Z))∧W.cell? ⟨wr.heap.size,3,none⟩=some (.string (za ad))∧W.cell? ⟨wr.heap.size,4,none⟩=some (.bool ab),c.1.cell? ⟨wr.heap.size,1,none⟩=some (.int .i64 Y):=fun c=>c.2.2.2.1
      have x3:∀c:zC fun W=>W.cell? ⟨X,0,none⟩=some r9∧W.cell? ⟨wr.heap.size,0,none⟩=some (.int .i64 aa)∧W.cell? ⟨wr.heap.size,1,none⟩=some (.int .i64 Y)∧W.cell? ⟨wr.heap.size,2,none⟩=some (.string (za Z))∧W.cell? ⟨wr.heap.size,3,none⟩=some (.string (za ad))∧W.cell? ⟨wr.heap.size,4,none⟩=some (.bool ab),c.1.cell? ⟨wr.heap.size,2,none⟩=some (.string (za Z)):=fun c=>c.2.2.2.2.1
      have x4:∀c:zC fun W=>W.cell? ⟨X,0,none⟩=some r9∧W.cell? ⟨wr.heap.size,0,none⟩=some (.int .i64 aa)∧W.cell? ⟨wr.heap.size,1,none⟩=some (.int .i64 Y)∧W.cell? ⟨wr.heap.size,2,none⟩=some (.string (za Z))∧W.cell? ⟨wr.heap.size,3,none⟩=some (.string (za ad))∧W.cell? ⟨wr.heap.size,4,none⟩=some (.bool ab),c.1.cell? ⟨wr.heap.size,3,none⟩=some (.string (za ad)):=fun c=>c.2.2.2.2.2.1
      have x5:∀c:zC fun W=>W.cell? ⟨X,0,none⟩=some r9∧W.cell? ⟨wr.heap.size,0,none⟩=some (.int .i64 aa)∧W.cell? ⟨wr.heap.size,1,none⟩=some (.int .i64 Y)∧W.cell? ⟨wr.heap.size,2,none⟩=some (.string (za Z))∧W.cell? ⟨wr.heap.size,3,none⟩=some (.string (za ad))∧W.cell? ⟨wr.heap.size,4,none⟩=some (.bool ab),c.1.cell? ⟨wr.heap.size,4,none⟩=some (.bool ab):=fun c=>c.2.2.2.2.2.2
      haveI aF:Nonempty (zC fun W=>W.cell? ⟨X,0,none⟩=some r9∧W.cell? ⟨wr.heap.size,0,none⟩=some (.int .i64 aa)∧W.cell? ⟨wr.heap.size,1,none⟩=some (.int .i64 Y)∧W.cell? ⟨wr.heap.size,2,none⟩=some (.string (za Z))∧W.cell? ⟨wr.heap.size,3,none⟩=some (.string (za ad))∧W.cell? ⟨wr.heap.size,4,none⟩=some (.bool ab)):=⟨⟨au,ah.out _ b1.out bv.out⟩⟩
      refine xD 5 (n:=6) (S:=fun w'=>∃c:zC fun W=>W.cell? ⟨X,0,none⟩=some r9∧W.cell? ⟨wr.heap.size,0,none⟩=some (.int .i64 aa)∧W.cell? ⟨wr.heap.size,1,none⟩=some (.int .i64 Y)∧W.cell? ⟨wr.heap.size,2,none⟩=some (.string (za Z))∧W.cell? ⟨wr.heap.size,3,none⟩=some (.string (za ad))∧W.cell? ⟨wr.heap.size,4,none⟩=some (.bool ab),w'=c.1) (by kernel_rfl) rfl rfl ?_
      have af:Hid (Below au.heap.size au au.drew):=(Below.refl _ _).drew;obtain ⟨zd,aq⟩:∃zd,zd=au.drew:=⟨_,rfl⟩;rw [←aq] at af ⊢;have an:Hid _:=b1.out.new af.out;have bI:Hid _:=(af.out.block _ (zc bv.out)).trans bv.out;clear aq;refine Xc (fuel:=4) (fuel':=6) (idx:=[0,1]) (by kernel_rfl) rfl rfl rfl (fun _ _ _ _ _ h=>h) ⟨⟨zd,ah.out _ an.out bI.out⟩,rfl⟩ ?_
      show wpQuiet _ _ _ _ [_,_] _
      iterate 2 (go_big_quiet_step (fail))
      refine wpQuiet_nil ?_;refine zP (fuel:=3) (fuel':=4) (i:=2) rfl (by kernel_rfl) rfl rfl (by rfl) ?_
      intro K J;go_simp;refine (cr.out zd an.out.lin.strs.below).mono ?_;rintro e z1 ⟨rfl,hb⟩;have I:Hid _:=an.out.new hb;have am:Hid _:=(hb.block _ (zc bI.out)).trans bI.out;clear hb
      (try go_simp)
      refine J.out _ _ (fun _=>⟨⟨z1,ah.out _ I.out am.out⟩,rfl⟩) ?_
      clear J K;refine zP (fuel:=2) (fuel':=3) (i:=3) rfl (by kernel_rfl) rfl rfl (by rfl) ?_
      intro K J;go_simp;have aB:Hid (Below z1.heap.size z1 (z1.alloc (.cells #[.string (za LB)] 9))):=(Below.refl _ _).alloc (Nat.le_refl _) _;refine J.out _ _ (fun _=>⟨⟨_,ah.out _ (I.out.new aB.out) ((aB.out.block _ (zc am.out)).trans am.out)⟩,rfl⟩) ?_
      clear J K;refine Xd (fuel:=1) (fuel':=2) (i:=4) rfl (by kernel_rfl) rfl rfl (by rfl) ?_
      intro K J;refine zW (.tmp 66) (.tmp 69) rfl (by rfl) w.heap.size r9 PR [LB] rfl z1 w I.out.lin.strs rfl rfl (by have:=ay.out;simp;omega) ?_
      intro v9 z3 aj O ag;obtain ⟨n9,b9,c9,rfl⟩:=yn aj.row;have aC:Hid (xq w w8 (z3.setCell ⟨X,0,none⟩ (.slice b9 n9 c9)) X G (yS F m fault (.slice U frames.length V) out A (.slice (some ⟨b,o,none⟩) y.length cs) B n z) (.pointer (some ⟨h,0,none⟩)) (.slice b9 n9 c9) (PR++[LB])):=I.out.put aj O ag;have ak:Hid _:=zp (I.out.lin.strs.row.alloc _) O ((Below.heap_alloc _ _ _ (zc I.out.lin.box)).trans I.out.lin.box) (by decide)
      have bN:Hid _:=zp (I.out.lin.strs.row.alloc _) O ((Below.heap_alloc _ _ _ (zc am.out)).trans am.out) (by decide)
      have aA:Hid (z3.cell? ⟨X,0,none⟩=some r9∧z3.cell? ⟨wr.heap.size,0,none⟩=some (.int .i64 aa)∧z3.cell? ⟨wr.heap.size,1,none⟩=some (.int .i64 Y)∧z3.cell? ⟨wr.heap.size,2,none⟩=some (.string (za Z))∧z3.cell? ⟨wr.heap.size,3,none⟩=some (.string (za ad))∧z3.cell? ⟨wr.heap.size,4,none⟩=some (.bool ab)):=by
       obtain ⟨a0,a1,a2,a3,a4⟩:=Zb bN.out;exact ⟨zA ak.out,a0,a1,a2,a3,a4⟩
      refine J.out _ _ (fun _=>⟨⟨z3,aA.out⟩,rfl⟩) ?_
      clear J K aj O ag
      (try simp only [Act.put,List.setIfInBounds_toArray,List.set_cons_zero,List.set_cons_succ])
      refine zP (fuel:=0) (fuel':=1) (i:=5) rfl (by kernel_rfl) rfl rfl (by rfl) ?_
      intro K J;have ar:=zA ak.out;have aP:=xY ak.out 0;go_simp;refine J.out _ _ (fun h=>absurd rfl h) ?_
      clear J K;refine Y3 (by kernel_rfl) ?_
      clear x0 x1 x2 x3 x4 x5 ar aP aF;go_wp2
      exact ⟨⟨i+1,_,by omega,by go_num,by rw [aN.out];exact aC.out⟩,by simp [intOf];omega⟩
     ·have bB:¬ (i:Int)<y.length:=by omega
      obtain rfl:i=y.length:=by omega
      rw [List.take_length] at HJ;obtain ⟨PR,al⟩:∃PR,PR=L2++y.map Zl:=⟨_,rfl⟩;rw [←al] at HJ;have aN:Hid (PR=L2++y.map Zl):=al
      have ay:Hid (PR.length≤4000000):=by
       have:=bm.out
       show _≤_
       rw [al,List.length_append,List.length_map];omega
      clear al
      go_upto_region 20 with fail
      have ah:Hid (∀W,xq w w8 W X G (yS F m fault (.slice U frames.length V) out A (.slice bs y.length cs) B n z) (.pointer (some ⟨h,0,none⟩)) r9 PR→W.cell? ⟨X,0,none⟩=some r9∧W.cell? ⟨w.heap.size,7,none⟩=some (.int .i64 B)∧W.cell? ⟨w.heap.size,8,none⟩=some (.int .i64 n)∧W.cell? ⟨w.heap.size,9,none⟩=some (.string (za z))):=fun W hL=>by
       obtain ⟨-,-,-,-,-,-,-,b7,b8,b9⟩:=zl hL.lin.view;exact ⟨zA hL.lin.box,b7,b8,b9⟩
      have x0:∀c:zC fun W=>W.cell? ⟨X,0,none⟩=some r9∧W.cell? ⟨w.heap.size,7,none⟩=some (.int .i64 B)∧W.cell? ⟨w.heap.size,8,none⟩=some (.int .i64 n)∧W.cell? ⟨w.heap.size,9,none⟩=some (.string (za z)),c.1.cell? ⟨X,0,none⟩=some r9:=fun c=>c.2.1
      have x1:∀c:zC fun W=>W.cell? ⟨X,0,none⟩=some r9∧W.cell? ⟨w.heap.size,7,none⟩=some (.int .i64 B)∧W.cell? ⟨w.heap.size,8,none⟩=some (.int .i64 n)∧W.cell? ⟨w.heap.size,9,none⟩=some (.string (za z)),c.1.cell? ⟨w.heap.size,7,none⟩=some (.int .i64 B):=fun c=>c.2.2.1
      have x2:∀c:zC fun W=>W.cell? ⟨X,0,none⟩=some r9∧W.cell? ⟨w.heap.size,7,none⟩=some (.int .i64 B)∧W.cell? ⟨w.heap.size,8,none⟩=some (.int .i64 n)∧W.cell? ⟨w.heap.size,9,none⟩=some (.string (za z)),c.1.cell? ⟨w.heap.size,8,none⟩=some (.int .i64 n):=fun c=>c.2.2.2.1
      have x3:∀c:zC fun W=>W.cell? ⟨X,0,none⟩=some r9∧W.cell? ⟨w.heap.size,7,none⟩=some (.int .i64 B)∧W.cell? ⟨w.heap.size,8,none⟩=some (.int .i64 n)∧W.cell? ⟨w.heap.size,9,none⟩=some (.string (za z)),c.1.cell? ⟨w.heap.size,9,none⟩=some (.string (za z)):=fun c=>c.2.2.2.2
      haveI aF:Nonempty (zC fun W=>W.cell? ⟨X,0,none⟩=some r9∧W.cell? ⟨w.heap.size,7,none⟩=some (.int .i64 B)∧W.cell? ⟨w.heap.size,8,none⟩=some (.int .i64 n)∧W.cell? ⟨w.heap.size,9,none⟩=some (.string (za z))):=⟨⟨wr,ah.out _ HJ.out⟩⟩
      refine ZR (n:=8) (S:=fun w'=>∃c:zC fun W=>W.cell? ⟨X,0,none⟩=some r9∧W.cell? ⟨w.heap.size,7,none⟩=some (.int .i64 B)∧W.cell? ⟨w.heap.size,8,none⟩=some (.int .i64 n)∧W.cell? ⟨w.heap.size,9,none⟩=some (.string (za z)),w'=c.1) (by kernel_rfl) rfl rfl ?_
      have af:Hid (Below wr.heap.size wr wr.drew):=(Below.refl _ _).drew;obtain ⟨zd,aq⟩:∃zd,zd=wr.drew:=⟨_,rfl⟩;rw [←aq] at af ⊢;have an:Hid _:=HJ.out.new af.out;clear aq;refine zS (fuel:=5) (fuel':=8) (idx:=[0,1,2]) (by kernel_rfl) rfl rfl rfl (fun _ _ _ _ _ h=>h) ⟨⟨zd,ah.out _ an.out⟩,rfl⟩ ?_
      show wpQuiet _ _ _ _ [_,_,_] _
      iterate 3 (go_big_quiet_step (fail))
      refine wpQuiet_nil ?_;refine zB (fuel:=4) (fuel':=5) (i:=3) rfl (by kernel_rfl) rfl rfl (by rfl) ?_
      intro K J;go_simp;refine (xo B n z zd HS.out.err HS.out.n HS.out.says (HT.out.below an.out.lin.strs.below (Nat.le_refl _))).mono ?_;rintro e z1 ⟨rfl,hb⟩;have I:Hid _:=an.out.new hb;clear hb
      (try go_simp)
      refine J.out _ _ ⟨⟨z1,ah.out _ I.out⟩,rfl⟩ ?_;clear J K;refine zB (fuel:=3) (fuel':=4) (i:=4) rfl (by kernel_rfl) rfl rfl (by rfl) ?_
      intro K J;go_simp;have aB:Hid (Below z1.heap.size z1 (z1.alloc (.cells #[.string (za (ZO B n z))] 9))):=(Below.refl _ _).alloc (Nat.le_refl _) _;refine J.out _ _ ⟨⟨_,ah.out _ (I.out.new aB.out)⟩,rfl⟩ ?_;clear J K;refine ZG (fuel:=2) (fuel':=3) (i:=5) rfl (by kernel_rfl) rfl rfl (by rfl) ?_
      intro K J;refine zW (.tmp 72) (.tmp 76) rfl (by rfl) w.heap.size r9 PR [ZO B n z] rfl z1 w I.out.lin.strs rfl rfl (by have:=ay.out;simp;omega) ?_
      intro v9 z3 aj O ag;have cP:Hid (zo w.heap.size w z3 v9 (PR++[ZO B n z])):=aj;have bC:Hid _:=zp (I.out.lin.strs.row.alloc _) O ((Below.heap_alloc _ _ _ (zc I.out.lin.view)).trans I.out.lin.view) (by decide)
      have ak:Hid _:=zp (I.out.lin.strs.row.alloc _) O ((Below.heap_alloc _ _ _ (zc I.out.lin.box)).trans I.out.lin.box) (by decide)
      have aA:Hid (z3.cell? ⟨X,0,none⟩=some r9∧z3.cell? ⟨w.heap.size,7,none⟩=some (.int .i64 B)∧z3.cell? ⟨w.heap.size,8,none⟩=some (.int .i64 n)∧z3.cell? ⟨w.heap.size,9,none⟩=some (.string (za z))):=by
       obtain ⟨-,-,-,-,-,-,-,b7,b8,b9⟩:=zl bC.out;exact ⟨zA ak.out,b7,b8,b9⟩
      have db:Hid (z3.heap[D]?=some (.deferred (some []))):=by
       have cg:z1.heap[D]?=some (.deferred (some [])):=(I.out.kept D cq.out).trans c3.out;have cB:(z1.alloc (.cells #[.string (za (ZO B n z))] 9)).heap[D]?=some (.deferred (some [])):=(Below.heap_alloc _ _ _ (zK cg)).trans cg;exact (O.block D (zK cB) (fun e=>I.out.away D e.symm cq.out)).trans cB
      refine J.out _ _ ⟨⟨z3,aA.out⟩,rfl⟩ ?_;clear J K aj O ag
      (try simp only [Act.put,List.setIfInBounds_toArray,List.set_cons_zero,List.set_cons_succ])
      refine zS (fuel:=0) (fuel':=2) (idx:=[6,7]) (by kernel_rfl) rfl rfl rfl (fun _ _ _ _ _ h=>h) ⟨⟨z3,aA.out⟩,rfl⟩ ?_
      show wpQuiet _ _ _ _ [_,_] _
      iterate 2 (go_big_quiet_step (fail))
      refine wpQuiet_nil ?_;refine Zv (by kernel_rfl) ?_
      clear x0 x1 x2 x3 aF;go_wp2
      have J:=db.out;refine ⟨by simp,.inl ⟨_,_,rfl,run_takeDeferred J,?_⟩⟩
      refine ⟨_,results_tmp2 rfl _ _ _,.inr ⟨HM.out,v9,rfl,?_⟩⟩;have bT:=cP.out.putObj (o':=.deferred none) J rfl dc.out
      have e:ZC os ⟨⟨F,m,fault,frames,out⟩,A,y,⟨B,n,z⟩⟩=PR++[ZO B n z]:=by
       rw [aN.out,cZ.out,ae.out,cK.out,aM.out];rfl
      rw [e];exact bT
end Go.Proofs.YtbjndgachcdbcaaGreatDoor
