import Derived.Test.YtpejpbbdgblbeaaGreatDoorMC27
namespace Go.Proofs.YtpejpbbdgblbeaaGreatDoor
open Go.RowKit Go.Shelf
set_option maxHeartbeats 16000000
set_option maxRecDepth 100000
theorem zaZ {f line:Nat} {t1 t2:Tk} {us:List Tk} {R:PR Rc} (h:Zx f line (t1::t2::us)=some R):∃res,R=xA line t1 t2 res∧(t1.k=1→zo t2 [123]=true→zZ f [] us=some res):=by
 unfold Zx yo zW at h
 simp only [zz,List.tail_cons] at h
 unfold xA
 by_cases h1:t1.k=1
 ·simp only [if_pos h1,zm,zz,List.tail_cons] at h
  by_cases h2:zo t2 [123]=true
  ·simp only [if_pos h2] at h
   cases h3:zZ f [] us with
   | none=>rw [h3] at h;cases h
   | some r3 =>
    rw [h3] at h;refine ⟨r3,?_,fun _ _=>rfl⟩
    rw [if_pos h1,if_pos h2];rcases r3 with a | ⟨e,o⟩
    ·simp only [Option.some.injEq] at h
     exact h.symm
    ·simp only at h ⊢
     by_cases h4:zo (zw o) [125]=true
     ·simp only [if_pos h4,Option.some.injEq] at h ⊢
      exact h.symm
     ·simp only [if_neg h4,Option.some.injEq] at h ⊢
      exact h.symm
  ·simp only [if_neg h2,Option.some.injEq] at h
   refine ⟨.error 0,?_,fun _ h9=>absurd h9 h2⟩
   rw [if_pos h1,if_neg h2];exact h.symm
 ·simp only [if_neg h1,zm,Option.some.injEq] at h
  refine ⟨.error 0,?_,fun h9=>absurd h9 h1⟩
  rw [if_neg h1];exact h.symm
theorem QV (r g o cap line:Nat) (t:Tk) (w:World) (h:zf r g o cap [t] w) (hk:t.k≠1):Calls Tryz.prog 53 #[.pointer (some ⟨r,0,none⟩),.int .i64 (line:Int)] w (XC r g w (.error t.at0)):=by
 obtain ⟨w0,s⟩:∃w0,w0=w.alloc rcZ:=⟨_,rfl⟩;have D:zf r g o cap [t] w0:=by rw [s];exact h.alloc _
 have G:zd r w w0:=by rw [s];exact (zd.refl r w).alloc _
 have A:=xe r g o cap t [] w0 D (fun h=>absurd h hk)
 have y:Hid (w0=w.alloc rcZ):=s;clear h D s;simp only [if_neg hk] at A
 go_enter Tryz.func53,Tryz.ntmps53
 go_wp2_with fail
 rw [←y.out];refine A.mono ?_;clear A;rintro e H ⟨z,rfl⟩;exact ⟨rfl,G.trans z,rfl⟩
theorem qJ (r g o cap line F:Nat) (ts:List Tk) (w:World) (R:PR Rc) (h:zf r g o cap ts w) (hE:zg ts) (hp:Zx F line ts=some R)
  (hrow:∀w1 o1 cap1 ts1 r1,zZ F [] ts1=some r1→zg ts1→zf r g o1 cap1 ts1 w1→zd r w w1→Calls Tryz.prog 96 #[.pointer (some ⟨r,0,none⟩),.func (.func 97) #[.pointer (some ⟨r,0,none⟩)] #[]] w1 (QK r g w1 r1)) :
  Calls Tryz.prog 53 #[.pointer (some ⟨r,0,none⟩),.int .i64 (line:Int)] w (XC r g w R):=by
 obtain ⟨s,A,rfl⟩:=hE.cons;cases A with
 | nil =>
  have H:s.k=0:=hE
  have e:R=.error s.at0:=by
   simp only [Zx,yo,zz,zm,if_neg (show ¬ s.k=1 by omega),Option.some.injEq] at hp
   exact hp.symm
  rw [e];exact QV r g o cap line s w h (by omega)
 | cons t2 us2 =>
  obtain ⟨res,I,z⟩:=zaZ hp;rw [I]
  by_cases hc:s.k=1∧zo t2 [123]=true
  ·have D:=z hc.1 hc.2
   have y:zg us2:=(hE.tail (by omega)).tail (zi hc.2)
   exact QL r g o cap line s t2 us2 w res h hE (fun l us e=>by subst e;exact yS D y) fun _ _ w3 o3 cap3 hR3 hK3=>hrow w3 o3 cap3 us2 res D y hR3 hK3
  ·have G:xA line s t2 res=xA line s t2 (.error 0):=by
    unfold xA
    by_cases h1:s.k=1
    ·rw [if_pos h1,if_pos h1,if_neg (fun h9=>hc ⟨h1,h9⟩),if_neg (fun h9=>hc ⟨h1,h9⟩)]
    ·rw [if_neg h1,if_neg h1]
   rw [G];exact QL r g o cap line s t2 us2 w (.error 0) h hE (fun l us e=>by cases e) fun h1 h9=>absurd ⟨h1,h9⟩ hc
abbrev uj (a b:Value):Obj:=.cells #[a,b] 25
abbrev x7:Obj:=uj (.slice none 0 0) (.slice none 0 0)
def zdF (r g:Nat) (w:World) (res:PR Pg) (e:Ending) (w':World):Prop :=
 zd r w w'∧match res with
  | .error a=>e=ZH a
  | .ok (x,ts)=>∃v o cap,e=.returned v∧xu (fun k=>w.heap.size≤k) w' x v∧zf r g o cap ts w'
theorem xu.agg {S:Nat→Prop} {w:World} {p:Pg} {v:Value} (h:xu S w p v):∃(a0:Option Addr) (a1 a2:Nat) (b0:Option Addr) (b1 b2:Nat),v=.agg #[.slice a0 a1 a2,.slice b0 b1 b2]:=by
 obtain ⟨z,D,rfl,o,s⟩:=h;obtain ⟨b,c,rfl⟩:=o.slice;obtain ⟨A,y,rfl⟩:=s.slice;exact ⟨_,_,_,_,_,_,rfl⟩
theorem QW:(Tryz.prog.info? 74).map (fun i=>(i.zero,i.size,i.bytes))=some (some (.agg #[.string ⟨#[]⟩,.slice none 0 0,.int .i64 0]),3,48):=by kernel_rfl
theorem zct:(Tryz.prog.info? 72).map (fun i=>(i.zero,i.size,i.bytes))=some (some (.agg #[.string ⟨#[]⟩,.slice none 0 0,.string ⟨#[]⟩,.slice none 0 0,.int .i64 0]),5,88):=by kernel_rfl
theorem XG {f line:Nat} {ts us:List Tk} {x:Rc} (h:Zx f line ts=some (.ok (x,us))) (hE:zg ts):us.length<ts.length:=by
 have o:=hE.pos;obtain ⟨s,A,y,z⟩:=vZ line (n:=ts.length-1) ts (by omega) hE
 have a:=uR (k:=s) h;have b:=y f;rw [Nat.add_comm] at a;have e:=Option.some.inj (a.symm.trans b)
 have:=(z x us e.symm).1
 omega
theorem zcu {f line:Nat} {ts us:List Tk} {x:Fc} (h:ye f line ts=some (.ok (x,us))) (hE:zg ts):us.length<ts.length:=by
 have o:=hE.pos;obtain ⟨s,A,y,z⟩:=uS line (n:=ts.length-1) ts (by omega) hE
 have a:=QU (k:=s) h;have b:=y f;rw [Nat.add_comm] at a;have e:=Option.some.inj (a.symm.trans b)
 have:=(z x us e.symm).1
 omega
structure qK (r g:Nat) (w:World) (F:Nat) (res:PR Pg) (wr:World):Prop where
 ex:∃(rs:List Rc) (fs:List Fc) (vr vf:Value) (o2 cap2:Nat) (ts2:List Tk) (f2:Nat),f2≤F∧Zy f2 rs fs ts2=some res∧zg ts2∧rs.length+fs.length+ts2.length≤1099511627776∧wr.heap[w.heap.size]?=some x7∧wr.heap[w.heap.size+1]?=some (uj vr vf)∧yP (w.heap.size+2) wr rs fs vr vf∧zf r g o2 cap2 ts2 wr∧zd r w wr
theorem qK.addR {r g P o7 cap7 F f3:Nat} {w w6 w7 w9:World} {res:PR Pg} {rs:List Rc} {fs:List Fc} {vr vf v':Value} {x:Rc} {c:List Value} {us:List Tk} {ob:Obj} {lus:List (List Value)} (hP:P=w.heap.size+1) (hK6:zd r w w6) (b6:w6.heap[w.heap.size]?=some x7) (p6:w6.heap[P]?=some (uj vr vf)) (hpg7:yP (w.heap.size+2) w7 rs fs vr vf) (hbr:∀q,vr.ownBlock=some q→w.heap.size+2≤q∧q<w6.heap.size) (hbf:∀q,vf.ownBlock=some q→q<w6.heap.size)
  (hnext:∀{w':World} {v':Value} {x:Rc} {c:List Value} {ob:Obj} {N:Nat},EX RcE (fun k=>vf.ownBlock≠some k) (fun k=>N≤k) w7 x c→w.heap.size+2≤N→(∀q,vr.ownBlock=some q→q<N)→c.length=3→w'.ownsRow (w.heap.size+2) 74 3 v' (rs.length+1) (lus.flatten++c)→(w7.alloc ob).grownBy w' vr.ownBlock→(v'.ownBlock=vr.ownBlock∨v'.ownBlock=some (w7.alloc ob).heap.size)→yC (EX RcE fun k=>vf.ownBlock≠some k) 3 74 (w.heap.size+2) w' (rs++[x]) v')
  (hr:r<w.heap.size) (hg:g<w.heap.size) (hk7:zd r w6 w7) (hx7:RcE (fun k=>w6.heap.size≤k) w7 x c) (hc:c.length=3) (hrd7:zf r g o7 cap7 us w7) (ho:w9.ownsRow (w.heap.size+2) 74 3 v' (rs.length+1) (lus.flatten++c)) (hgr:(w7.alloc ob).grownBy w9 vr.ownBlock) (hat:v'.ownBlock=vr.ownBlock∨v'.ownBlock=some (w7.alloc ob).heap.size)
  (hf3:f3≤F) (hp:Zy f3 (rs++[x]) fs us=some res) (hE:zg us) (hn:rs.length+1+fs.length+us.length≤1099511627776):qK r g w F res (w9.setCell ⟨P,0,none⟩ v')∧ZQ r (w9.setCell ⟨P,0,none⟩ v')=us.length:=by
 subst hP;have D:=hk7.size;have z:w.heap.size+1<w6.heap.size:=(Array.getElem?_eq_some_iff.1 p6).1;have h:∀k,vr.ownBlock≠some k→k<w7.heap.size→w9.heap[k]?=w7.heap[k]?:=fun k hk hlt=>(hgr.block k (by simp;omega) (fun e=>hk e.symm)).trans (Below.heap_alloc _ _ _ hlt)
 have o:∀k,k<w.heap.size+2→vr.ownBlock≠some k:=fun k hk e=>by have:=(hbr k e).1;omega
 have A:w9.heap[w.heap.size+1]?=some (uj vr vf):=(h _ (o _ (by omega)) (by omega)).trans ((hk7.block _ z (by omega)).trans p6)
 have G:zd r w w9:=((hK6.trans hk7).alloc ob).grown hgr fun k hk=>by have:=(hbr k hk).1;omega
 have s:zf r g o7 cap7 us (w9.setCell ⟨w.heap.size+1,0,none⟩ v'):=(hrd7.keep (h r (o r (by omega)) (by omega)) (h g (o g (by omega)) (by omega))).setP _ (by omega) (by omega)
 have y:yP (w.heap.size+2) w9 (rs++[x]) fs v' vf:=hpg7.addR hnext hx7 (by omega) (fun q hq=>(hbr q hq).2) hbf (fun q hq=>by have:=hbf q hq;omega) hc ho hgr hat
 refine ⟨⟨rs++[x],fs,v',vf,o7,cap7,us,f3,hf3,hp,hE,by simp only [List.length_append,List.length_cons,List.length_nil];omega,?_,zn _ A,y.kept (by simp) fun k hk _=>Below.heap_setCell _ _ _ _ (by simp;omega),s,G.setOther (by simp) _⟩,s.left⟩
 rw [Below.heap_setCell _ _ _ _ (by simp)]
 exact (h _ (o _ (by omega)) (by omega)).trans ((hk7.block _ (by omega) (by omega)).trans b6)
theorem qK.addF {r g P o7 cap7 F f3:Nat} {w w6 w7 w9:World} {res:PR Pg} {rs:List Rc} {fs:List Fc} {vr vf v':Value} {x:Fc} {c:List Value} {us:List Tk} {ob:Obj} {lus:List (List Value)} (hP:P=w.heap.size+1) (hK6:zd r w w6) (b6:w6.heap[w.heap.size]?=some x7) (p6:w6.heap[P]?=some (uj vr vf)) (hpg7:yP (w.heap.size+2) w7 rs fs vr vf) (hbr:∀q,vf.ownBlock=some q→w.heap.size+2≤q∧q<w6.heap.size) (hbf:∀q,vr.ownBlock=some q→q<w6.heap.size)
  (hnext:∀{w':World} {v':Value} {x:Fc} {c:List Value} {ob:Obj} {N:Nat},EX FcE (fun k=>vr.ownBlock≠some k) (fun k=>N≤k) w7 x c→w.heap.size+2≤N→(∀q,vf.ownBlock=some q→q<N)→c.length=5→w'.ownsRow (w.heap.size+2) 72 5 v' (fs.length+1) (lus.flatten++c)→(w7.alloc ob).grownBy w' vf.ownBlock→(v'.ownBlock=vf.ownBlock∨v'.ownBlock=some (w7.alloc ob).heap.size)→yC (EX FcE fun k=>vr.ownBlock≠some k) 5 72 (w.heap.size+2) w' (fs++[x]) v')
  (hr:r<w.heap.size) (hg:g<w.heap.size) (hk7:zd r w6 w7) (hx7:FcE (fun k=>w6.heap.size≤k) w7 x c) (hc:c.length=5) (hrd7:zf r g o7 cap7 us w7) (ho:w9.ownsRow (w.heap.size+2) 72 5 v' (fs.length+1) (lus.flatten++c)) (hgr:(w7.alloc ob).grownBy w9 vf.ownBlock) (hat:v'.ownBlock=vf.ownBlock∨v'.ownBlock=some (w7.alloc ob).heap.size)
  (hf3:f3≤F) (hp:Zy f3 rs (fs++[x]) us=some res) (hE:zg us) (hn:rs.length+(fs.length+1)+us.length≤1099511627776):qK r g w F res (w9.setCell ⟨P,1,none⟩ v')∧ZQ r (w9.setCell ⟨P,1,none⟩ v')=us.length:=by
 subst hP;have D:=hk7.size;have z:w.heap.size+1<w6.heap.size:=(Array.getElem?_eq_some_iff.1 p6).1;have h:∀k,vf.ownBlock≠some k→k<w7.heap.size→w9.heap[k]?=w7.heap[k]?:=fun k hk hlt=>(hgr.block k (by simp;omega) (fun e=>hk e.symm)).trans (Below.heap_alloc _ _ _ hlt)
 have o:∀k,k<w.heap.size+2→vf.ownBlock≠some k:=fun k hk e=>by have:=(hbr k e).1;omega
 have A:w9.heap[w.heap.size+1]?=some (uj vr vf):=(h _ (o _ (by omega)) (by omega)).trans ((hk7.block _ z (by omega)).trans p6)
 have G:zd r w w9:=((hK6.trans hk7).alloc ob).grown hgr fun k hk=>by have:=(hbr k hk).1;omega
 have s:zf r g o7 cap7 us (w9.setCell ⟨w.heap.size+1,1,none⟩ v'):=(hrd7.keep (h r (o r (by omega)) (by omega)) (h g (o g (by omega)) (by omega))).setP _ (by omega) (by omega)
 have y:yP (w.heap.size+2) w9 rs (fs++[x]) vr v':=hpg7.addF hnext hx7 (by omega) (fun q hq=>(hbr q hq).2) hbf (fun q hq=>by have:=hbf q hq;omega) hc ho hgr hat
 refine ⟨⟨rs,fs++[x],vr,v',o7,cap7,us,f3,hf3,hp,hE,by simp only [List.length_append,List.length_cons,List.length_nil];omega,?_,zn _ A,y.kept (by simp) fun k hk _=>Below.heap_setCell _ _ _ _ (by simp;omega),s,G.setOther (by simp) _⟩,s.left⟩
 rw [Below.heap_setCell _ _ _ _ (by simp)]
 exact (h _ (o _ (by omega)) (by omega)).trans ((hk7.block _ (by omega) (by omega)).trans b6)
theorem zcv (r g o cap F:Nat) (ts:List Tk) (w:World) (res:PR Pg) (h:zf r g o cap ts w) (hE:zg ts) (hp:Zy F [] [] ts=some res)
  (hrec:∀w1 o1 cap1 ts1 r1 line,Zx F line ts1=some r1→zg ts1→zf r g o1 cap1 ts1 w1→zd r w w1→Calls Tryz.prog 53 #[.pointer (some ⟨r,0,none⟩),.int .i64 (line:Int)] w1 (XC r g w1 r1))
  (hfun:∀w1 o1 cap1 ts1 r1 line,ye F line ts1=some r1→zg ts1→zf r g o1 cap1 ts1 w1→zd r w w1→Calls Tryz.prog 54 #[.pointer (some ⟨r,0,none⟩),.int .i64 (line:Int)] w1 (uO r g w1 r1)) :
  Calls Tryz.prog 22 #[.pointer (some ⟨r,0,none⟩)] w (zdF r g w res):=by
 obtain ⟨iR,a8,aY,aT,aP⟩:=info_parts QW;obtain ⟨iF,bf,aW,aR,aQ⟩:=info_parts zct;have hN:=h.few;obtain ⟨t0,bD,rfl⟩:=hE.cons;have hr:=h.lt.1;have aO:=h.lt.2;have bL:=vw;have bM:=x9;obtain ⟨w1,aG⟩:∃w1,w1=(w.alloc x7).alloc x7:=⟨_,rfl⟩
 have bA:qK r g w F res w1:=by
  have hz:w1.heap.size=w.heap.size+2:=by rw [aG];simp
  refine ⟨[],[],_,_,o,cap,t0::bD,F,Nat.le_refl _,hp,hE,by simpa using hN,?_,?_,yP.nil _ _,by rw [aG];exact (h.alloc _).alloc _,by rw [aG];exact ((zd.refl r w).alloc _).alloc _⟩
  ·rw [aG,Below.heap_alloc _ _ _ (by simp)];exact World.alloc_heap_new _ _
  ·rw [aG]
   have:=World.alloc_heap_new (w.alloc x7) x7
   simpa using this
 have bx:Hid (qK r g w F res w1):=bA;have bq:Hid (w1=(w.alloc x7).alloc x7):=aG;obtain ⟨P,hP⟩:∃P,P=w.heap.size+1:=⟨_,rfl⟩;have HP:Hid (P=w.heap.size+1):=hP;have bv:Hid (∀w1 o1 cap1 ts1 r1 line,Zx F line ts1=some r1→zg ts1→zf r g o1 cap1 ts1 w1→zd r w w1→Calls Tryz.prog 53 #[.pointer (some ⟨r,0,none⟩),.int .i64 (line:Int)] w1 (XC r g w1 r1)):=hrec;have bn:Hid (∀w1 o1 cap1 ts1 r1 line,ye F line ts1=some r1→zg ts1→zf r g o1 cap1 ts1 w1→zd r w w1→Calls Tryz.prog 54 #[.pointer (some ⟨r,0,none⟩),.int .i64 (line:Int)] w1 (uO r g w1 r1)):=hfun;clear h aG bA hrec hfun hN hp hE
 go_enter Tryz.func22,Tryz.ntmps22
 go_wp2_with fail
 rw [←bq.out,←HP.out];clear hP
 go_loopw [4] (fun _ wr=>qK r g w F res wr) (fun _ wr=>ZQ r wr)
 case atStart=>exact bx.out
 case round =>
  clear bx bq;obtain ⟨rs,fs,vr,vf,o2,ag,bO,f2,bQ,hT,aX,aq,bN,bP,a1,aD,br⟩:=hrel.ex;rw [←HP.out] at bP;obtain ⟨t2,ab,rfl⟩:=aX.cons;have ap:=aD.left;have aE:Hid (zd r w wr):=br;have HB:Hid (wr.heap[w.heap.size]?=some x7∧wr.heap[P]?=some (uj vr vf)):=⟨bN,bP⟩;have aL:Hid (yP (w.heap.size+2) wr rs fs vr vf):=a1;obtain ⟨rb,rc,bE⟩:=a1.r.slice;obtain ⟨fb,fc,bC⟩:=a1.f.slice;subst bE bC;obtain ⟨U,bb⟩:∃U,U=rs.length:=⟨_,rfl⟩;obtain ⟨V,bj⟩:∃V,V=fs.length:=⟨_,rfl⟩;have am:Hid (U=rs.length):=bb;have an:Hid (V=fs.length):=bj;rw [←bb,←bj] at HB aL;have ch:=Z3 r g o2 ag t2 ab wr aD;obtain ⟨wa,a2⟩:∃wa,wa=wr.alloc (ZK t2):=⟨_,rfl⟩;rw [←a2] at ch;have aB:zf r g o2 ag (t2::ab) wa:=by rw [a2];exact aD.alloc _
  have aF:Hid (zd r wr wa):=by rw [a2];exact (zd.refl r wr).alloc _
  have bK:=aD.lt.1;cases f2 with
  | zero=>simp [Zy] at hT
  | succ f3 =>
  rw [Zy] at hT;simp only [zz,List.tail_cons] at hT;clear hrel bN bP a1 aD br a2 bb bj
  by_cases h0:t2.k=0
  ·rw [if_pos h0] at hT
   simp only [Option.some.injEq] at hT;subst hT;have aV:=aE.out.size;have aN:=HP.out;have az:w.heap.size<wr.heap.size:=(Array.getElem?_eq_some_iff.1 HB.out.1).1;have aA:P<wr.heap.size:=(Array.getElem?_eq_some_iff.1 HB.out.2).1;have ba:=(aF.out.block w.heap.size az (by omega)).trans HB.out.1
   have pa:=(aF.out.block P aA (by omega)).trans HB.out.2
   have a6:=aL.out.kept aF.out.size fun k hk hlt=>aF.out.block k hlt (by omega)
   have ka:=aE.out.trans aF.out;obtain ⟨e0,e1,-⟩:=Zv pa;obtain ⟨q0,q1,qf⟩:=Zv ba;have bz:(((wa.setCell ⟨w.heap.size,0,none⟩ (.slice rb U rc)).setCell ⟨w.heap.size,1,none⟩ (.slice fb V fc))).heap[w.heap.size]?=some (uj (.slice rb U rc) (.slice fb V fc)):=zn _ (zn _ ba);obtain ⟨z0,z1,-⟩:=Zv bz;have a0:∀k,k≠w.heap.size→((wa.setCell ⟨w.heap.size,0,none⟩ (.slice rb U rc)).setCell ⟨w.heap.size,1,none⟩ (.slice fb V fc)).heap[k]?=wa.heap[k]?:=fun k hk=>by rw [Below.heap_setCell _ _ _ _ (by simpa using hk),Below.heap_setCell _ _ _ _ (by simpa using hk)]
   have bH:Hid (zdF r g w (.ok (⟨rs,fs⟩,t2::ab)) (.returned (.agg #[.slice rb U rc,.slice fb V fc])) ((wa.setCell ⟨w.heap.size,0,none⟩ (.slice rb U rc)).setCell ⟨w.heap.size,1,none⟩ (.slice fb V fc))):=by
    refine ⟨(ka.setOther (p:=⟨w.heap.size,0,none⟩) (by simp) _).setOther (p:=⟨w.heap.size,1,none⟩) (by simp) _,_,_,_,rfl,?_,aB.keep (a0 r (by omega)) (a0 g (by omega))⟩
    exact (a6.pg.kept (by simp) fun k hk _=>a0 k (by omega)).wide fun k hk=>by omega
   have bl:((t2.k:Int)==0)=true:=by rw [h0];rfl
   have bB:((t2.k:Int) != 0)=false:=by rw [bne,bl];rfl
   clear ba pa a6 ka bz a0 aB HB aL aF aE aV az aA h0 aN;go_wp2_with fail
   refine ch.mono ?_;clear ch;rintro e w' ⟨rfl,he⟩;obtain rfl:=he.symm;clear he;simp only [VP];go_wp2
   exact bodyPost_ret (v:=.agg #[.slice rb U rc,.slice fb V fc]) (by simp [results,Tryz.results22,go_sem,z0,z1]) rfl bH.out
  ·rw [if_neg h0] at hT
   have bl:((t2.k:Int)==0)=false:=by rw [beq_eq_false_iff_ne];omega
   have bB:((t2.k:Int) != 0)=true:=by rw [bne,bl];rfl
   have bg:=Z3 r g o2 ag t2 ab wa aB;obtain ⟨wb,aZ⟩:∃wb,wb=wa.alloc (ZK t2):=⟨_,rfl⟩;rw [←aZ] at bg;have bt:zf r g o2 ag (t2::ab) wb:=by rw [aZ];exact aB.alloc _
   have bk:Hid (zd r wr wb):=by rw [aZ];exact aF.out.alloc _
   have c1:=Zt r g o2 ag t2 ab [114,101,99,111,114,100] wb bt (fun hi=>(aX.tail (zi hi)).ne)
   obtain ⟨LN,bh⟩:∃LN,LN=t2.line:=⟨_,rfl⟩;have bF:Hid (LN=t2.line):=bh;rw [←bh] at hT;clear aZ aB aF bh;go_wp2_with fail
   refine ch.mono ?_;clear ch;rintro e w' ⟨rfl,he⟩;obtain rfl:=he.symm;clear he;simp only [VP];go_wp2_with fail
   refine bg.mono ?_;clear bg;rintro e w' ⟨rfl,he⟩;obtain rfl:=he.symm;clear he;simp only [VP];rw [←bF.out]
   by_cases i1:zo t2 [114,101,99,111,114,100]=true
   ·rw [i1] at c1
    rw [if_pos i1] at hT;go_wp2_with fail
    refine c1.mono ?_;clear c1;rintro e w6 ⟨rfl,aM,h6⟩;have aC:zf r g (o2+5) (ag-1) ab w6:=by simpa using h6
    have aw:Hid (zd r w w6):=aE.out.trans (bk.out.trans aM);have aa:zd r wr w6:=bk.out.trans aM;have aK:=aX.tail (zi i1);have aV:=aE.out.size;have bc:=aa.size;have aN:=HP.out;have az:w.heap.size<wr.heap.size:=(Array.getElem?_eq_some_iff.1 HB.out.1).1;have aA:P<wr.heap.size:=(Array.getElem?_eq_some_iff.1 HB.out.2).1;have Y:Hid (w6.heap[w.heap.size]?=some x7∧w6.heap[P]?=some (uj (.slice rb U rc) (.slice fb V fc))):=⟨(aa.block _ az (by omega)).trans HB.out.1,(aa.block _ aA (by omega)).trans HB.out.2⟩
    have D:Hid (yP (w.heap.size+2) w6 rs fs (.slice rb U rc) (.slice fb V fc)):=aL.out.kept aa.size fun k hk hlt=>aa.block k hlt (by omega)
    have O:Hid (P=w.heap.size+1∧P<w6.heap.size∧r<w.heap.size):=⟨aN,by omega,hr⟩
    cases hb3:Zx f3 LN ab with
    | none=>rw [hb3] at hT;cases hT
    | some r3 =>
     rw [hb3] at hT;have av:f3≤F:=by omega
     have ay:Zx F LN ab=some r3:=by
      have:=uR (k:=F-f3) hb3
      rwa [show f3+(F-f3)=F by omega] at this
     have cb:∀W:World,W.heap=w6.heap→W.os=w6.os→W.tape=w6.tape→W.output=w6.output→Calls Tryz.prog 53 #[.pointer (some ⟨r,0,none⟩),.int .i64 (LN:Int)] W (XC r g w6 r3):=fun W e1 e2 e3 e4=>by
      have aU:zd r w6 W:=⟨e2,e3,e4,by rw [e1];exact Nat.le_refl _,fun k _ _=>by rw [e1]⟩
      refine (bv.out W _ _ ab r3 LN ay aK (aC.keep (by rw [e1]) (by rw [e1])) (aw.out.trans aU)).mono fun e w' hh=>?_
      refine ⟨aU.trans hh.1,?_⟩;have h9:=hh.2;rw [e1] at h9;exact h9
     have CB:Hid (∀W:World,W.heap=w6.heap→W.os=w6.os→W.tape=w6.tape→W.output=w6.output→Calls Tryz.prog 53 #[.pointer (some ⟨r,0,none⟩),.int .i64 (LN:Int)] W (XC r g w6 r3)):=cb;obtain ⟨l0,l1,-⟩:=Zv Y.out.2;clear cb aC h6 aM aa aV bc aN az aA HB aL;rcases r3 with a3 | ⟨x,ae⟩
     ·simp only [zm,Option.some.injEq] at hT
      subst hT;have a7:∀W:World,W.heap=w6.heap→W.os=w6.os→W.tape=w6.tape→W.output=w6.output→Calls Tryz.prog 53 #[.pointer (some ⟨r,0,none⟩),.int .i64 (LN:Int)] W fun e w'=>e=ZH a3∧zd r w w':=fun W e1 e2 e3 e4=>(CB.out W e1 e2 e3 e4).mono fun e w' h=>⟨h.2,aw.out.trans h.1⟩
      clear CB;go_wp2_with fail
      go_region_dies
      all_goals (go_wp2_with fail;refine (a7 _ (by rfl) (by rfl) (by rfl) (by rfl)).mono ?_;rintro e w4 ⟨rfl,a9⟩;exact ⟨rfl,a9,rfl⟩)
     ·have aJ:=Yn ay aK
      have aH:=XG ay aK;have aI:Hid (Zy f3 (rs++[x]) fs ae=some res):=hT
      have CU:Hid (∀W:World,W.heap=w6.heap→W.os=w6.os→W.tape=w6.tape→W.output=w6.output→Calls Tryz.prog 53 #[.pointer (some ⟨r,0,none⟩),.int .i64 (LN:Int)] W fun e w'=>∃(ya:ByteArray) (y0:Option Addr) (y1 y2:Nat) (yl:Int),e=.returned (.agg #[.string ya,.slice y0 y1 y2,.int .i64 yl])∧Hid (zd r w6 w'∧RcE (fun k=>w6.heap.size≤k) w' x [.string ya,.slice y0 y1 y2,.int .i64 yl]∧∃o7 Q,zf r g o7 Q ae w')):=fun W e1 e2 e3 e4=>(CB.out W e1 e2 e3 e4).mono fun e w' h=>by
       obtain ⟨J,v,o7,Q,rfl,ao,N⟩:=h;obtain ⟨y0,y1,y2,rfl⟩:=ao.slice;exact ⟨_,y0,y1,y2,_,rfl,J,⟨_,rfl,ao.toG⟩,o7,Q,N⟩
      clear CB hT hb3 ay;go_wp2_with fail
      refine xZ (n:=9) (S:=fun _=>True) (by kernel_rfl) rfl rfl ?_
      refine Z8 (fuel:=6) (fuel':=9) (idx:=[0,2,3]) (by decide +kernel) rfl rfl rfl (fun _ _ _ _ _ h=>h) trivial ?_
      show wpQuiet _ _ _ _ [_,_,_] _
      iterate 3 (go_big_quiet_step (exact rfl))
      refine wpQuiet_nil ?_;refine x6 (fuel:=5) (fuel':=6) (i:=1) (k:=4) rfl rfl (by decide +kernel) rfl rfl rfl (by rfl) (by rfl) ?_ ?_
      ·intro K I
       go_simp;refine I.out _ _ trivial ?_;clear I K;refine Za (fuel:=4) (fuel':=5) (i:=4) rfl (by decide +kernel) rfl rfl (by rfl) ?_
       intro K I;go_simp;refine (CU.out _ (by rfl) (by rfl) (by rfl) (by rfl)).mono ?_
       rintro e T ⟨ya,y0,y1,y2,yl,rfl,H7⟩
       (try go_simp)
       refine I.out _ _ trivial ?_;clear I K;refine Za (fuel:=3) (fuel':=4) (i:=5) rfl (by decide +kernel) rfl rfl (by rfl) ?_
       intro K I;go_simp;refine I.out _ _ trivial ?_;clear I K;obtain ⟨J,ao,o7,Q,N⟩:=H7.out;have ad:Hid (zf r g o7 Q ae T):=N;have L:=D.out.kept J.size fun k hk hlt=>J.block k hlt (by have:=O.out;omega)
       obtain ⟨ar,y,G⟩:=yC.more (xN YB _) L.r;rw [←am.out] at y;have aj:Hid (T.ownsRow (w.heap.size+2) 74 3 (.slice rb U rc) U ar.flatten):=y;have au:Hid (T.heap[P]?=some (uj (.slice rb U rc) (.slice fb V fc))):=(J.block P O.out.2.1 (by have:=O.out;omega)).trans Y.out.2
       have Z:Hid (w.heap.size+2≤T.heap.size∧P<T.heap.size):=by have:=O.out;have:=J.size;exact ⟨by omega,by omega⟩
       have ai:Hid (U+1≤1099511627776):=show _≤_ by have:=am.out;have:=an.out;simp only [List.length_cons] at aq;omega
       clear J ao N y;refine Y3 (fuel:=2) (fuel':=3) (i:=6) rfl (by decide +kernel) rfl rfl (by rfl) ?_
       intro K I;refine Z7 _ _ 22 rfl (by rfl) (w.heap.size+2) 74 iR _ 3 48 Tryz.underlying22 a8 aY aT aP rfl (by decide) _ _ _ rfl (aj.out.alloc _) ⟨T.heap.size,0,none⟩ 1 1 [.string ya,.slice y0 y1 y2,.int .i64 yl] rfl rfl (ZR _ _ _) (by simp [Value.oneCell']) (by have:=ai.out;unfold maxLen;omega) (by have:=ai.out;omega) (by have:=Z.out;simp;omega) ?_
       intro v' w9 A H R;have z:(T.alloc (.cells #[.string ya,.slice y0 y1 y2,.int .i64 yl] 74)).grownBy w9 (Value.ownBlock (.slice rb U rc)):=H;have ah:v'.ownBlock=Value.ownBlock (.slice rb U rc)∨v'.ownBlock=some (T.alloc (.cells #[.string ya,.slice y0 y1 y2,.int .i64 yl] 74)).heap.size:=R;clear H R
       obtain ⟨vg,vc,ax⟩:∃vg vc,v'=.slice (some ⟨vg,0,none⟩) (U+1) vc:=by
        rcases A.2 with ⟨_,h0⟩ | ⟨g',af,_,h1,_⟩
        ·omega
        ·exact ⟨g',af,h1⟩
       subst ax;have s:=A;rw [am.out] at s
       have ak:Hid (qK r g w F res (w9.setCell ⟨P,0,none⟩ (.slice (some ⟨vg,0,none⟩) (U+1) vc))∧ZQ r (w9.setCell ⟨P,0,none⟩ (.slice (some ⟨vg,0,none⟩) (U+1) vc))=ae.length):=by
        rw [am.out];exact qK.addR HP.out aw.out Y.out.1 Y.out.2 L (fun q hq=>⟨(D.out.r.block q hq).1,(D.out.r.block q hq).2⟩) (fun q hq=>(D.out.f.block q hq).2) G hr aO H7.out.1 H7.out.2.1 rfl ad.out s z ah av aI.out aJ (by simp only [List.length_cons] at aq aH;omega)
       have p9:w9.heap[P]?=some (uj (.slice rb U rc) (.slice fb V fc)):=(z.block P (by have:=Z.out;simp;omega) (fun e=>by have:=(D.out.r.block P e.symm).1;have:=HP.out;omega)).trans ((Below.heap_alloc _ _ _ Z.out.2).trans au.out)
       obtain ⟨n0,n1,al⟩:=Zv p9;have aS:=al 0;clear A s z ah p9 al L G;refine I.out _ _ trivial ?_;clear I K;simp only [Act.put,List.setIfInBounds_toArray,List.set_cons_zero,List.set_cons_succ];refine Z8 (fuel:=1) (fuel':=2) (idx:=[7]) (by decide +kernel) rfl rfl rfl (fun _ _ _ _ _ h=>h) trivial ?_
       show wpQuiet _ _ _ _ [_] _
       iterate 1 (go_big_quiet_step (exact rfl))
       refine wpQuiet_nil ?_;refine Za (fuel:=0) (fuel':=1) (i:=8) rfl (by decide +kernel) rfl rfl (by rfl) ?_
       intro K I;go_simp;refine I.out _ _ trivial ?_;clear I K;refine yQ (by decide +kernel) ?_
       go_wp2_with fail
       exact ⟨ak.out.1,by rw [ak.out.2,ap];simp only [List.length_cons];omega⟩
      ·intro K I
       go_simp;refine (CU.out _ (by rfl) (by rfl) (by rfl) (by rfl)).mono ?_
       rintro e T ⟨ya,y0,y1,y2,yl,rfl,H7⟩
       (try go_simp)
       refine I.out _ _ trivial ?_;clear I K;obtain ⟨bd,bi,-⟩:=Zv ((H7.out.1.block P O.out.2.1 (by have:=O.out;omega)).trans Y.out.2)
       have bp:=zj bd;have bo:=zj bi;refine x6 (fuel:=4) (fuel':=5) (i:=1) (k:=5) rfl rfl (by decide +kernel) rfl rfl rfl (by rfl) (by rfl) ?_ ?_
       ·intro K I
        go_simp;refine I.out _ _ trivial ?_;clear I K;refine Za (fuel:=3) (fuel':=4) (i:=5) rfl (by decide +kernel) rfl rfl (by rfl) ?_
        intro K I;go_simp;refine I.out _ _ trivial ?_;clear I K;obtain ⟨J,ao,o7,Q,N⟩:=H7.out;have ad:Hid (zf r g o7 Q ae T):=N;have L:=D.out.kept J.size fun k hk hlt=>J.block k hlt (by have:=O.out;omega)
        obtain ⟨ar,y,G⟩:=yC.more (xN YB _) L.r;rw [←am.out] at y;have aj:Hid (T.ownsRow (w.heap.size+2) 74 3 (.slice rb U rc) U ar.flatten):=y;have au:Hid (T.heap[P]?=some (uj (.slice rb U rc) (.slice fb V fc))):=(J.block P O.out.2.1 (by have:=O.out;omega)).trans Y.out.2
        have Z:Hid (w.heap.size+2≤T.heap.size∧P<T.heap.size):=by have:=O.out;have:=J.size;exact ⟨by omega,by omega⟩
        have ai:Hid (U+1≤1099511627776):=show _≤_ by have:=am.out;have:=an.out;simp only [List.length_cons] at aq;omega
        clear J ao N y;refine Y3 (fuel:=2) (fuel':=3) (i:=6) rfl (by decide +kernel) rfl rfl (by rfl) ?_
        intro K I;refine Z7 _ _ 22 rfl (by rfl) (w.heap.size+2) 74 iR _ 3 48 Tryz.underlying22 a8 aY aT aP rfl (by decide) _ _ _ rfl (aj.out.alloc _) ⟨T.heap.size,0,none⟩ 1 1 [.string ya,.slice y0 y1 y2,.int .i64 yl] rfl rfl (ZR _ _ _) (by simp [Value.oneCell']) (by have:=ai.out;unfold maxLen;omega) (by have:=ai.out;omega) (by have:=Z.out;simp;omega) ?_
        intro v' w9 A H R;have z:(T.alloc (.cells #[.string ya,.slice y0 y1 y2,.int .i64 yl] 74)).grownBy w9 (Value.ownBlock (.slice rb U rc)):=H;have ah:v'.ownBlock=Value.ownBlock (.slice rb U rc)∨v'.ownBlock=some (T.alloc (.cells #[.string ya,.slice y0 y1 y2,.int .i64 yl] 74)).heap.size:=R;clear H R
        obtain ⟨vg,vc,ax⟩:∃vg vc,v'=.slice (some ⟨vg,0,none⟩) (U+1) vc:=by
         rcases A.2 with ⟨_,h0⟩ | ⟨g',af,_,h1,_⟩
         ·omega
         ·exact ⟨g',af,h1⟩
        subst ax;have s:=A;rw [am.out] at s
        have ak:Hid (qK r g w F res (w9.setCell ⟨P,0,none⟩ (.slice (some ⟨vg,0,none⟩) (U+1) vc))∧ZQ r (w9.setCell ⟨P,0,none⟩ (.slice (some ⟨vg,0,none⟩) (U+1) vc))=ae.length):=by
         rw [am.out];exact qK.addR HP.out aw.out Y.out.1 Y.out.2 L (fun q hq=>⟨(D.out.r.block q hq).1,(D.out.r.block q hq).2⟩) (fun q hq=>(D.out.f.block q hq).2) G hr aO H7.out.1 H7.out.2.1 rfl ad.out s z ah av aI.out aJ (by simp only [List.length_cons] at aq aH;omega)
        have p9:w9.heap[P]?=some (uj (.slice rb U rc) (.slice fb V fc)):=(z.block P (by have:=Z.out;simp;omega) (fun e=>by have:=(D.out.r.block P e.symm).1;have:=HP.out;omega)).trans ((Below.heap_alloc _ _ _ Z.out.2).trans au.out)
        obtain ⟨n0,n1,al⟩:=Zv p9;have aS:=al 0;clear A s z ah p9 al L G;refine I.out _ _ trivial ?_;clear I K;simp only [Act.put,List.setIfInBounds_toArray,List.set_cons_zero,List.set_cons_succ];refine Z8 (fuel:=1) (fuel':=2) (idx:=[7]) (by decide +kernel) rfl rfl rfl (fun _ _ _ _ _ h=>h) trivial ?_
        show wpQuiet _ _ _ _ [_] _
        iterate 1 (go_big_quiet_step (exact rfl))
        refine wpQuiet_nil ?_;refine Za (fuel:=0) (fuel':=1) (i:=8) rfl (by decide +kernel) rfl rfl (by rfl) ?_
        intro K I;go_simp;refine I.out _ _ trivial ?_;clear I K;refine yQ (by decide +kernel) ?_
        go_wp2_with fail
        exact ⟨ak.out.1,by rw [ak.out.2,ap];simp only [List.length_cons];omega⟩
       ·intro K I
        go_simp;refine I.out _ _ trivial ?_;clear I K;refine Za (fuel:=3) (fuel':=4) (i:=1) rfl (by decide +kernel) rfl rfl (by rfl) ?_
        intro K I;go_simp;refine I.out _ _ trivial ?_;clear I K;obtain ⟨J,ao,o7,Q,N⟩:=H7.out;have ad:Hid (zf r g o7 Q ae T):=N;have L:=D.out.kept J.size fun k hk hlt=>J.block k hlt (by have:=O.out;omega)
        obtain ⟨ar,y,G⟩:=yC.more (xN YB _) L.r;rw [←am.out] at y;have aj:Hid (T.ownsRow (w.heap.size+2) 74 3 (.slice rb U rc) U ar.flatten):=y;have au:Hid (T.heap[P]?=some (uj (.slice rb U rc) (.slice fb V fc))):=(J.block P O.out.2.1 (by have:=O.out;omega)).trans Y.out.2
        have Z:Hid (w.heap.size+2≤T.heap.size∧P<T.heap.size):=by have:=O.out;have:=J.size;exact ⟨by omega,by omega⟩
        have ai:Hid (U+1≤1099511627776):=show _≤_ by have:=am.out;have:=an.out;simp only [List.length_cons] at aq;omega
        clear J ao N y;refine Y3 (fuel:=2) (fuel':=3) (i:=6) rfl (by decide +kernel) rfl rfl (by rfl) ?_
        intro K I;refine Z7 _ _ 22 rfl (by rfl) (w.heap.size+2) 74 iR _ 3 48 Tryz.underlying22 a8 aY aT aP rfl (by decide) _ _ _ rfl (aj.out.alloc _) ⟨T.heap.size,0,none⟩ 1 1 [.string ya,.slice y0 y1 y2,.int .i64 yl] rfl rfl (ZR _ _ _) (by simp [Value.oneCell']) (by have:=ai.out;unfold maxLen;omega) (by have:=ai.out;omega) (by have:=Z.out;simp;omega) ?_
        intro v' w9 A H R;have z:(T.alloc (.cells #[.string ya,.slice y0 y1 y2,.int .i64 yl] 74)).grownBy w9 (Value.ownBlock (.slice rb U rc)):=H;have ah:v'.ownBlock=Value.ownBlock (.slice rb U rc)∨v'.ownBlock=some (T.alloc (.cells #[.string ya,.slice y0 y1 y2,.int .i64 yl] 74)).heap.size:=R;clear H R
        obtain ⟨vg,vc,ax⟩:∃vg vc,v'=.slice (some ⟨vg,0,none⟩) (U+1) vc:=by
         rcases A.2 with ⟨_,h0⟩ | ⟨g',af,_,h1,_⟩
         ·omega
         ·exact ⟨g',af,h1⟩
        subst ax;have s:=A;rw [am.out] at s
        have ak:Hid (qK r g w F res (w9.setCell ⟨P,0,none⟩ (.slice (some ⟨vg,0,none⟩) (U+1) vc))∧ZQ r (w9.setCell ⟨P,0,none⟩ (.slice (some ⟨vg,0,none⟩) (U+1) vc))=ae.length):=by
         rw [am.out];exact qK.addR HP.out aw.out Y.out.1 Y.out.2 L (fun q hq=>⟨(D.out.r.block q hq).1,(D.out.r.block q hq).2⟩) (fun q hq=>(D.out.f.block q hq).2) G hr aO H7.out.1 H7.out.2.1 rfl ad.out s z ah av aI.out aJ (by simp only [List.length_cons] at aq aH;omega)
        have p9:w9.heap[P]?=some (uj (.slice rb U rc) (.slice fb V fc)):=(z.block P (by have:=Z.out;simp;omega) (fun e=>by have:=(D.out.r.block P e.symm).1;have:=HP.out;omega)).trans ((Below.heap_alloc _ _ _ Z.out.2).trans au.out)
        obtain ⟨n0,n1,al⟩:=Zv p9;have aS:=al 0;clear A s z ah p9 al L G;refine I.out _ _ trivial ?_;clear I K;simp only [Act.put,List.setIfInBounds_toArray,List.set_cons_zero,List.set_cons_succ];refine Z8 (fuel:=1) (fuel':=2) (idx:=[7]) (by decide +kernel) rfl rfl rfl (fun _ _ _ _ _ h=>h) trivial ?_
        show wpQuiet _ _ _ _ [_] _
        iterate 1 (go_big_quiet_step (exact rfl))
        refine wpQuiet_nil ?_;refine Za (fuel:=0) (fuel':=1) (i:=8) rfl (by decide +kernel) rfl rfl (by rfl) ?_
        intro K I;go_simp;refine I.out _ _ trivial ?_;clear I K;refine yQ (by decide +kernel) ?_
        go_wp2_with fail
        exact ⟨ak.out.1,by rw [ak.out.2,ap];simp only [List.length_cons];omega⟩
   ·have bJ:zo t2 [114,101,99,111,114,100]=false:=by simpa using i1
    rw [bJ] at c1;rw [if_neg i1] at hT;go_wp2_with fail
    refine c1.mono ?_;clear c1;rintro e wd ⟨rfl,bm,hd⟩;have a4:zf r g o2 ag (t2::ab) wd:=by simpa using hd
    have be:Hid (zd r wr wd):=bk.out.trans bm;have c2:=Zt r g o2 ag t2 ab [102,110] wd a4 (fun hi=>(aX.tail (zi hi)).ne)
    clear hd bm
    by_cases i2:zo t2 [102,110]=true
    ·rw [i2] at c2
     rw [if_pos i2] at hT;go_wp2_with fail
     refine c2.mono ?_;clear c2;rintro e w6 ⟨rfl,aM,h6⟩;have aC:zf r g (o2+5) (ag-1) ab w6:=by simpa using h6
     have aw:Hid (zd r w w6):=aE.out.trans (be.out.trans aM);have aa:zd r wr w6:=be.out.trans aM;have aK:=aX.tail (zi i2);have aV:=aE.out.size;have bc:=aa.size;have aN:=HP.out;have az:w.heap.size<wr.heap.size:=(Array.getElem?_eq_some_iff.1 HB.out.1).1;have aA:P<wr.heap.size:=(Array.getElem?_eq_some_iff.1 HB.out.2).1;have Y:Hid (w6.heap[w.heap.size]?=some x7∧w6.heap[P]?=some (uj (.slice rb U rc) (.slice fb V fc))):=⟨(aa.block _ az (by omega)).trans HB.out.1,(aa.block _ aA (by omega)).trans HB.out.2⟩
     have D:Hid (yP (w.heap.size+2) w6 rs fs (.slice rb U rc) (.slice fb V fc)):=aL.out.kept aa.size fun k hk hlt=>aa.block k hlt (by omega)
     have O:Hid (P=w.heap.size+1∧P<w6.heap.size∧r<w.heap.size):=⟨aN,by omega,hr⟩
     cases hb3:ye f3 LN ab with
     | none=>rw [hb3] at hT;cases hT
     | some r3 =>
      rw [hb3] at hT;have av:f3≤F:=by omega
      have ay:ye F LN ab=some r3:=by
       have:=QU (k:=F-f3) hb3
       rwa [show f3+(F-f3)=F by omega] at this
      have cb:∀W:World,W.heap=w6.heap→W.os=w6.os→W.tape=w6.tape→W.output=w6.output→Calls Tryz.prog 54 #[.pointer (some ⟨r,0,none⟩),.int .i64 (LN:Int)] W (uO r g w6 r3):=fun W e1 e2 e3 e4=>by
       have aU:zd r w6 W:=⟨e2,e3,e4,by rw [e1];exact Nat.le_refl _,fun k _ _=>by rw [e1]⟩
       refine (bn.out W _ _ ab r3 LN ay aK (aC.keep (by rw [e1]) (by rw [e1])) (aw.out.trans aU)).mono fun e w' hh=>?_
       refine ⟨aU.trans hh.1,?_⟩;have h9:=hh.2;rw [e1] at h9;exact h9
      have CB:Hid (∀W:World,W.heap=w6.heap→W.os=w6.os→W.tape=w6.tape→W.output=w6.output→Calls Tryz.prog 54 #[.pointer (some ⟨r,0,none⟩),.int .i64 (LN:Int)] W (uO r g w6 r3)):=cb;obtain ⟨l0,l1,-⟩:=Zv Y.out.2;clear cb aC h6 aM aa aV bc aN az aA HB aL;rcases r3 with a3 | ⟨x,ae⟩
      ·simp only [zm,Option.some.injEq] at hT
       subst hT;have a7:∀W:World,W.heap=w6.heap→W.os=w6.os→W.tape=w6.tape→W.output=w6.output→Calls Tryz.prog 54 #[.pointer (some ⟨r,0,none⟩),.int .i64 (LN:Int)] W fun e w'=>e=ZH a3∧zd r w w':=fun W e1 e2 e3 e4=>(CB.out W e1 e2 e3 e4).mono fun e w' h=>⟨h.2,aw.out.trans h.1⟩
       clear CB;go_wp2_with fail
       go_region_dies
       all_goals (go_wp2_with fail;refine (a7 _ (by rfl) (by rfl) (by rfl) (by rfl)).mono ?_;rintro e w4 ⟨rfl,a9⟩;exact ⟨rfl,a9,rfl⟩)
      ·have aJ:=xh ay aK
       have aH:=zcu ay aK;have aI:Hid (Zy f3 rs (fs++[x]) ae=some res):=hT
       have CU:Hid (∀W:World,W.heap=w6.heap→W.os=w6.os→W.tape=w6.tape→W.output=w6.output→Calls Tryz.prog 54 #[.pointer (some ⟨r,0,none⟩),.int .i64 (LN:Int)] W fun e w'=>∃(ya:ByteArray) (y0:Option Addr) (y1 y2:Nat) (yt:ByteArray) (u0:Option Addr) (u1 u2:Nat) (yl:Int),e=.returned (.agg #[.string ya,.slice y0 y1 y2,.string yt,.slice u0 u1 u2,.int .i64 yl])∧Hid (zd r w6 w'∧FcE (fun k=>w6.heap.size≤k) w' x [.string ya,.slice y0 y1 y2,.string yt,.slice u0 u1 u2,.int .i64 yl]∧∃o7 Q,zf r g o7 Q ae w')):=fun W e1 e2 e3 e4=>(CB.out W e1 e2 e3 e4).mono fun e w' h=>by
        obtain ⟨J,v,o7,Q,rfl,⟨vp,vb,rfl,bs,bu⟩,N⟩:=h;obtain ⟨y0,y1,y2,rfl⟩:=bs.slice;obtain ⟨u0,u1,u2,rfl⟩:=bu.slice;exact ⟨_,y0,y1,y2,_,u0,u1,u2,_,rfl,J,⟨_,_,rfl,bs.toG,bu⟩,o7,Q,N⟩
       clear CB hT hb3 ay;go_wp2_with fail
       refine xZ (n:=9) (S:=fun _=>True) (by kernel_rfl) rfl rfl ?_
       refine Z8 (fuel:=6) (fuel':=9) (idx:=[0,2,3]) (by decide +kernel) rfl rfl rfl (fun _ _ _ _ _ h=>h) trivial ?_
       show wpQuiet _ _ _ _ [_,_,_] _
       iterate 3 (go_big_quiet_step (exact rfl))
       refine wpQuiet_nil ?_;refine x6 (fuel:=5) (fuel':=6) (i:=1) (k:=4) rfl rfl (by decide +kernel) rfl rfl rfl (by rfl) (by rfl) ?_ ?_
       ·intro K I
        go_simp;refine I.out _ _ trivial ?_;clear I K;refine Za (fuel:=4) (fuel':=5) (i:=4) rfl (by decide +kernel) rfl rfl (by rfl) ?_
        intro K I;go_simp;refine (CU.out _ (by rfl) (by rfl) (by rfl) (by rfl)).mono ?_
        rintro e T ⟨ya,y0,y1,y2,yt,u0,u1,u2,yl,rfl,H7⟩
        (try go_simp)
        refine I.out _ _ trivial ?_;clear I K;refine Za (fuel:=3) (fuel':=4) (i:=5) rfl (by decide +kernel) rfl rfl (by rfl) ?_
        intro K I;go_simp;refine I.out _ _ trivial ?_;clear I K;obtain ⟨J,ao,o7,Q,N⟩:=H7.out;have ad:Hid (zf r g o7 Q ae T):=N;have L:=D.out.kept J.size fun k hk hlt=>J.block k hlt (by have:=O.out;omega)
        obtain ⟨ar,y,G⟩:=yC.more (xN YC _) L.f;rw [←an.out] at y;have aj:Hid (T.ownsRow (w.heap.size+2) 72 5 (.slice fb V fc) V ar.flatten):=y;have au:Hid (T.heap[P]?=some (uj (.slice rb U rc) (.slice fb V fc))):=(J.block P O.out.2.1 (by have:=O.out;omega)).trans Y.out.2
        have Z:Hid (w.heap.size+2≤T.heap.size∧P<T.heap.size):=by have:=O.out;have:=J.size;exact ⟨by omega,by omega⟩
        have ai:Hid (V+1≤1099511627776):=show _≤_ by have:=am.out;have:=an.out;simp only [List.length_cons] at aq;omega
        clear J ao N y;refine Y3 (fuel:=2) (fuel':=3) (i:=6) rfl (by decide +kernel) rfl rfl (by rfl) ?_
        intro K I;refine Z7 _ _ 23 rfl (by rfl) (w.heap.size+2) 72 iF _ 5 88 Tryz.underlying23 bf aW aR aQ rfl (by decide) _ _ _ rfl (aj.out.alloc _) ⟨T.heap.size,0,none⟩ 1 1 [.string ya,.slice y0 y1 y2,.string yt,.slice u0 u1 u2,.int .i64 yl] rfl rfl (ZR _ _ _) (by simp [Value.oneCell']) (by have:=ai.out;unfold maxLen;omega) (by have:=ai.out;omega) (by have:=Z.out;simp;omega) ?_
        intro v' w9 A H R;have z:(T.alloc (.cells #[.string ya,.slice y0 y1 y2,.string yt,.slice u0 u1 u2,.int .i64 yl] 72)).grownBy w9 (Value.ownBlock (.slice fb V fc)):=H;have ah:v'.ownBlock=Value.ownBlock (.slice fb V fc)∨v'.ownBlock=some (T.alloc (.cells #[.string ya,.slice y0 y1 y2,.string yt,.slice u0 u1 u2,.int .i64 yl] 72)).heap.size:=R;clear H R
        obtain ⟨vg,vc,ax⟩:∃vg vc,v'=.slice (some ⟨vg,0,none⟩) (V+1) vc:=by
         rcases A.2 with ⟨_,h0⟩ | ⟨g',af,_,h1,_⟩
         ·omega
         ·exact ⟨g',af,h1⟩
        subst ax;have s:=A;rw [an.out] at s
        have ak:Hid (qK r g w F res (w9.setCell ⟨P,1,none⟩ (.slice (some ⟨vg,0,none⟩) (V+1) vc))∧ZQ r (w9.setCell ⟨P,1,none⟩ (.slice (some ⟨vg,0,none⟩) (V+1) vc))=ae.length):=by
         rw [an.out];exact qK.addF HP.out aw.out Y.out.1 Y.out.2 L (fun q hq=>⟨(D.out.f.block q hq).1,(D.out.f.block q hq).2⟩) (fun q hq=>(D.out.r.block q hq).2) G hr aO H7.out.1 H7.out.2.1 rfl ad.out s z ah av aI.out aJ (by simp only [List.length_cons] at aq aH;omega)
        have p9:w9.heap[P]?=some (uj (.slice rb U rc) (.slice fb V fc)):=(z.block P (by have:=Z.out;simp;omega) (fun e=>by have:=(D.out.f.block P e.symm).1;have:=HP.out;omega)).trans ((Below.heap_alloc _ _ _ Z.out.2).trans au.out)
        obtain ⟨n0,n1,al⟩:=Zv p9;have aS:=al 1;clear A s z ah p9 al L G;refine I.out _ _ trivial ?_;clear I K;simp only [Act.put,List.setIfInBounds_toArray,List.set_cons_zero,List.set_cons_succ];refine Z8 (fuel:=1) (fuel':=2) (idx:=[7]) (by decide +kernel) rfl rfl rfl (fun _ _ _ _ _ h=>h) trivial ?_
        show wpQuiet _ _ _ _ [_] _
        iterate 1 (go_big_quiet_step (exact rfl))
        refine wpQuiet_nil ?_;refine Za (fuel:=0) (fuel':=1) (i:=8) rfl (by decide +kernel) rfl rfl (by rfl) ?_
        intro K I;go_simp;refine I.out _ _ trivial ?_;clear I K;refine yQ (by decide +kernel) ?_
        go_wp2_with fail
        exact ⟨ak.out.1,by rw [ak.out.2,ap];simp only [List.length_cons];omega⟩
       ·intro K I
        go_simp;refine (CU.out _ (by rfl) (by rfl) (by rfl) (by rfl)).mono ?_
        rintro e T ⟨ya,y0,y1,y2,yt,u0,u1,u2,yl,rfl,H7⟩
        (try go_simp)
        refine I.out _ _ trivial ?_;clear I K;obtain ⟨bd,bi,-⟩:=Zv ((H7.out.1.block P O.out.2.1 (by have:=O.out;omega)).trans Y.out.2)
        have bp:=zj bd;have bo:=zj bi;refine x6 (fuel:=4) (fuel':=5) (i:=1) (k:=5) rfl rfl (by decide +kernel) rfl rfl rfl (by rfl) (by rfl) ?_ ?_
        ·intro K I
         go_simp;refine I.out _ _ trivial ?_;clear I K;refine Za (fuel:=3) (fuel':=4) (i:=5) rfl (by decide +kernel) rfl rfl (by rfl) ?_
         intro K I;go_simp;refine I.out _ _ trivial ?_;clear I K;obtain ⟨J,ao,o7,Q,N⟩:=H7.out;have ad:Hid (zf r g o7 Q ae T):=N;have L:=D.out.kept J.size fun k hk hlt=>J.block k hlt (by have:=O.out;omega)
         obtain ⟨ar,y,G⟩:=yC.more (xN YC _) L.f;rw [←an.out] at y;have aj:Hid (T.ownsRow (w.heap.size+2) 72 5 (.slice fb V fc) V ar.flatten):=y;have au:Hid (T.heap[P]?=some (uj (.slice rb U rc) (.slice fb V fc))):=(J.block P O.out.2.1 (by have:=O.out;omega)).trans Y.out.2
         have Z:Hid (w.heap.size+2≤T.heap.size∧P<T.heap.size):=by have:=O.out;have:=J.size;exact ⟨by omega,by omega⟩
         have ai:Hid (V+1≤1099511627776):=show _≤_ by have:=am.out;have:=an.out;simp only [List.length_cons] at aq;omega
         clear J ao N y;refine Y3 (fuel:=2) (fuel':=3) (i:=6) rfl (by decide +kernel) rfl rfl (by rfl) ?_
         intro K I;refine Z7 _ _ 23 rfl (by rfl) (w.heap.size+2) 72 iF _ 5 88 Tryz.underlying23 bf aW aR aQ rfl (by decide) _ _ _ rfl (aj.out.alloc _) ⟨T.heap.size,0,none⟩ 1 1 [.string ya,.slice y0 y1 y2,.string yt,.slice u0 u1 u2,.int .i64 yl] rfl rfl (ZR _ _ _) (by simp [Value.oneCell']) (by have:=ai.out;unfold maxLen;omega) (by have:=ai.out;omega) (by have:=Z.out;simp;omega) ?_
         intro v' w9 A H R;have z:(T.alloc (.cells #[.string ya,.slice y0 y1 y2,.string yt,.slice u0 u1 u2,.int .i64 yl] 72)).grownBy w9 (Value.ownBlock (.slice fb V fc)):=H;have ah:v'.ownBlock=Value.ownBlock (.slice fb V fc)∨v'.ownBlock=some (T.alloc (.cells #[.string ya,.slice y0 y1 y2,.string yt,.slice u0 u1 u2,.int .i64 yl] 72)).heap.size:=R;clear H R
         obtain ⟨vg,vc,ax⟩:∃vg vc,v'=.slice (some ⟨vg,0,none⟩) (V+1) vc:=by
          rcases A.2 with ⟨_,h0⟩ | ⟨g',af,_,h1,_⟩
          ·omega
          ·exact ⟨g',af,h1⟩
         subst ax;have s:=A;rw [an.out] at s
         have ak:Hid (qK r g w F res (w9.setCell ⟨P,1,none⟩ (.slice (some ⟨vg,0,none⟩) (V+1) vc))∧ZQ r (w9.setCell ⟨P,1,none⟩ (.slice (some ⟨vg,0,none⟩) (V+1) vc))=ae.length):=by
          rw [an.out];exact qK.addF HP.out aw.out Y.out.1 Y.out.2 L (fun q hq=>⟨(D.out.f.block q hq).1,(D.out.f.block q hq).2⟩) (fun q hq=>(D.out.r.block q hq).2) G hr aO H7.out.1 H7.out.2.1 rfl ad.out s z ah av aI.out aJ (by simp only [List.length_cons] at aq aH;omega)
         have p9:w9.heap[P]?=some (uj (.slice rb U rc) (.slice fb V fc)):=(z.block P (by have:=Z.out;simp;omega) (fun e=>by have:=(D.out.f.block P e.symm).1;have:=HP.out;omega)).trans ((Below.heap_alloc _ _ _ Z.out.2).trans au.out)
         obtain ⟨n0,n1,al⟩:=Zv p9;have aS:=al 1;clear A s z ah p9 al L G;refine I.out _ _ trivial ?_;clear I K;simp only [Act.put,List.setIfInBounds_toArray,List.set_cons_zero,List.set_cons_succ];refine Z8 (fuel:=1) (fuel':=2) (idx:=[7]) (by decide +kernel) rfl rfl rfl (fun _ _ _ _ _ h=>h) trivial ?_
         show wpQuiet _ _ _ _ [_] _
         iterate 1 (go_big_quiet_step (exact rfl))
         refine wpQuiet_nil ?_;refine Za (fuel:=0) (fuel':=1) (i:=8) rfl (by decide +kernel) rfl rfl (by rfl) ?_
         intro K I;go_simp;refine I.out _ _ trivial ?_;clear I K;refine yQ (by decide +kernel) ?_
         go_wp2_with fail
         exact ⟨ak.out.1,by rw [ak.out.2,ap];simp only [List.length_cons];omega⟩
        ·intro K I
         go_simp;refine I.out _ _ trivial ?_;clear I K;refine Za (fuel:=3) (fuel':=4) (i:=1) rfl (by decide +kernel) rfl rfl (by rfl) ?_
         intro K I;go_simp;refine I.out _ _ trivial ?_;clear I K;obtain ⟨J,ao,o7,Q,N⟩:=H7.out;have ad:Hid (zf r g o7 Q ae T):=N;have L:=D.out.kept J.size fun k hk hlt=>J.block k hlt (by have:=O.out;omega)
         obtain ⟨ar,y,G⟩:=yC.more (xN YC _) L.f;rw [←an.out] at y;have aj:Hid (T.ownsRow (w.heap.size+2) 72 5 (.slice fb V fc) V ar.flatten):=y;have au:Hid (T.heap[P]?=some (uj (.slice rb U rc) (.slice fb V fc))):=(J.block P O.out.2.1 (by have:=O.out;omega)).trans Y.out.2
         have Z:Hid (w.heap.size+2≤T.heap.size∧P<T.heap.size):=by have:=O.out;have:=J.size;exact ⟨by omega,by omega⟩
         have ai:Hid (V+1≤1099511627776):=show _≤_ by have:=am.out;have:=an.out;simp only [List.length_cons] at aq;omega
         clear J ao N y;refine Y3 (fuel:=2) (fuel':=3) (i:=6) rfl (by decide +kernel) rfl rfl (by rfl) ?_
         intro K I;refine Z7 _ _ 23 rfl (by rfl) (w.heap.size+2) 72 iF _ 5 88 Tryz.underlying23 bf aW aR aQ rfl (by decide) _ _ _ rfl (aj.out.alloc _) ⟨T.heap.size,0,none⟩ 1 1 [.string ya,.slice y0 y1 y2,.string yt,.slice u0 u1 u2,.int .i64 yl] rfl rfl (ZR _ _ _) (by simp [Value.oneCell']) (by have:=ai.out;unfold maxLen;omega) (by have:=ai.out;omega) (by have:=Z.out;simp;omega) ?_
         intro v' w9 A H R;have z:(T.alloc (.cells #[.string ya,.slice y0 y1 y2,.string yt,.slice u0 u1 u2,.int .i64 yl] 72)).grownBy w9 (Value.ownBlock (.slice fb V fc)):=H;have ah:v'.ownBlock=Value.ownBlock (.slice fb V fc)∨v'.ownBlock=some (T.alloc (.cells #[.string ya,.slice y0 y1 y2,.string yt,.slice u0 u1 u2,.int .i64 yl] 72)).heap.size:=R;clear H R
         obtain ⟨vg,vc,ax⟩:∃vg vc,v'=.slice (some ⟨vg,0,none⟩) (V+1) vc:=by
          rcases A.2 with ⟨_,h0⟩ | ⟨g',af,_,h1,_⟩
          ·omega
          ·exact ⟨g',af,h1⟩
         subst ax;have s:=A;rw [an.out] at s
         have ak:Hid (qK r g w F res (w9.setCell ⟨P,1,none⟩ (.slice (some ⟨vg,0,none⟩) (V+1) vc))∧ZQ r (w9.setCell ⟨P,1,none⟩ (.slice (some ⟨vg,0,none⟩) (V+1) vc))=ae.length):=by
          rw [an.out];exact qK.addF HP.out aw.out Y.out.1 Y.out.2 L (fun q hq=>⟨(D.out.f.block q hq).1,(D.out.f.block q hq).2⟩) (fun q hq=>(D.out.r.block q hq).2) G hr aO H7.out.1 H7.out.2.1 rfl ad.out s z ah av aI.out aJ (by simp only [List.length_cons] at aq aH;omega)
         have p9:w9.heap[P]?=some (uj (.slice rb U rc) (.slice fb V fc)):=(z.block P (by have:=Z.out;simp;omega) (fun e=>by have:=(D.out.f.block P e.symm).1;have:=HP.out;omega)).trans ((Below.heap_alloc _ _ _ Z.out.2).trans au.out)
         obtain ⟨n0,n1,al⟩:=Zv p9;have aS:=al 1;clear A s z ah p9 al L G;refine I.out _ _ trivial ?_;clear I K;simp only [Act.put,List.setIfInBounds_toArray,List.set_cons_zero,List.set_cons_succ];refine Z8 (fuel:=1) (fuel':=2) (idx:=[7]) (by decide +kernel) rfl rfl rfl (fun _ _ _ _ _ h=>h) trivial ?_
         show wpQuiet _ _ _ _ [_] _
         iterate 1 (go_big_quiet_step (exact rfl))
         refine wpQuiet_nil ?_;refine Za (fuel:=0) (fuel':=1) (i:=8) rfl (by decide +kernel) rfl rfl (by rfl) ?_
         intro K I;go_simp;refine I.out _ _ trivial ?_;clear I K;refine yQ (by decide +kernel) ?_
         go_wp2_with fail
         exact ⟨ak.out.1,by rw [ak.out.2,ap];simp only [List.length_cons];omega⟩
    ·have bI:zo t2 [102,110]=false:=by simpa using i2
     rw [bI] at c2;rw [if_neg i2] at hT;simp only [Option.some.injEq] at hT;subst hT;go_wp2_with fail
     refine c2.mono ?_;clear c2;rintro e we ⟨rfl,bw,he⟩;have a5:zf r g o2 ag (t2::ab) we:=by simpa using he
     have cg:=uA r g o2 ag t2 ab we a5;have bG:Hid (zd r w we):=aE.out.trans (be.out.trans bw);clear he a5 bw a4;go_wp2_with fail
     refine cg.mono ?_;clear cg;rintro e w' ⟨rfl,rfl⟩;exact ⟨rfl,bG.out.alloc _,rfl⟩
end Go.Proofs.YtpejpbbdgblbeaaGreatDoor
