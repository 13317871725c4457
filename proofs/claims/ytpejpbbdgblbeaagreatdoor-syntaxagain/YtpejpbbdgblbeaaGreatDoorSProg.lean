import Derived.Test.YtpejpbbdgblbeaaGreatDoorMC27
namespace Go.Proofs.YtpejpbbdgblbeaaGreatDoor
open Go.RowKit Go.Shelf
set_option maxHeartbeats 16000000
set_option maxRecDepth 100000
theorem zb8 {f line:Nat} {t1 t2:Tk} {us:List Tk} {R:PR Rc} (h:Zl f line (t1::t2::us)=some R):∃res,R=xP line t1 t2 res∧(t1.k=1→zm t2 [123]=true→zN f [] us=some res):=by
 unfold Zl Z3 zR at h
 simp only [zE,List.tail_cons] at h
 unfold xP
 by_cases h1:t1.k=1
 ·simp only [if_pos h1,zh,zE,List.tail_cons] at h
  by_cases h2:zm t2 [123]=true
  ·simp only [if_pos h2] at h
   cases h3:zN f [] us with
   | none=>rw [h3] at h;cases h
   | some r3 =>
    rw [h3] at h;refine ⟨r3,?_,fun _ _=>rfl⟩
    rw [if_pos h1,if_pos h2];rcases r3 with a | ⟨e,o⟩
    ·simp only [Option.some.injEq] at h
     exact h.symm
    ·simp only at h ⊢
     by_cases h4:zm (zv o) [125]=true
     ·simp only [if_pos h4,Option.some.injEq] at h ⊢
      exact h.symm
     ·simp only [if_neg h4,Option.some.injEq] at h ⊢
      exact h.symm
  ·simp only [if_neg h2,Option.some.injEq] at h
   refine ⟨.error 0,?_,fun _ h9=>absurd h9 h2⟩
   rw [if_pos h1,if_neg h2];exact h.symm
 ·simp only [if_neg h1,zh,Option.some.injEq] at h
  refine ⟨.error 0,?_,fun h9=>absurd h9 h1⟩
  rw [if_neg h1];exact h.symm
theorem za3 (r g o cap line:Nat) (t:Tk) (w:World) (h:zg r g o cap [t] w) (hk:t.k≠1):Calls Tryz.prog 53 #[.pointer (some ⟨r,0,none⟩),.int .i64 (line:Int)] w (X4 r g w (.error t.at0)):=by
 obtain ⟨w0,y⟩:∃w0,w0=w.alloc rcZ:=⟨_,rfl⟩;have G:zg r g o cap [t] w0:=by rw [y];exact h.alloc _
 have H:zd r w w0:=by rw [y];exact (zd.refl r w).alloc _
 have D:=xu r g o cap t [] w0 G (fun h=>absurd h hk)
 have z:Hid (w0=w.alloc rcZ):=y;clear h G y;simp only [if_neg hk] at D
 go_enter Tryz.func53,Tryz.ntmps53
 go_wp2_with fail
 rw [←z.out];refine D.mono ?_;clear D;rintro e I ⟨A,rfl⟩;exact ⟨rfl,H.trans A,rfl⟩
theorem QV (r g o cap line F:Nat) (ts:List Tk) (w:World) (R:PR Rc) (h:zg r g o cap ts w) (hE:zi ts) (hp:Zl F line ts=some R)
  (hrow:∀w1 o1 cap1 ts1 r1,zN F [] ts1=some r1→zi ts1→zg r g o1 cap1 ts1 w1→zd r w w1→Calls Tryz.prog 96 #[.pointer (some ⟨r,0,none⟩),.func (.func 97) #[.pointer (some ⟨r,0,none⟩)] #[]] w1 (zaR r g w1 r1)) :
  Calls Tryz.prog 53 #[.pointer (some ⟨r,0,none⟩),.int .i64 (line:Int)] w (X4 r g w R):=by
 obtain ⟨y,D,rfl⟩:=hE.cons;cases D with
 | nil =>
  have J:y.k=0:=hE
  have e:R=.error y.at0:=by
   simp only [Zl,Z3,zE,zh,if_neg (show ¬ y.k=1 by omega),Option.some.injEq] at hp
   exact hp.symm
  rw [e];exact za3 r g o cap line y w h (by omega)
 | cons t2 us2 =>
  obtain ⟨res,I,z⟩:=zb8 hp;rw [I]
  by_cases hc:y.k=1∧zm t2 [123]=true
  ·have G:=z hc.1 hc.2
   have A:zi us2:=(hE.tail (by omega)).tail (zj hc.2)
   exact zaS r g o cap line y t2 us2 w res h hE (fun l us e=>by subst e;exact Ya G A) fun _ _ w3 o3 cap3 hR3 hK3=>hrow w3 o3 cap3 us2 res G A hR3 hK3
  ·have H:xP line y t2 res=xP line y t2 (.error 0):=by
    unfold xP
    by_cases h1:y.k=1
    ·rw [if_pos h1,if_pos h1,if_neg (fun h9=>hc ⟨h1,h9⟩),if_neg (fun h9=>hc ⟨h1,h9⟩)]
    ·rw [if_neg h1,if_neg h1]
   rw [H];exact zaS r g o cap line y t2 us2 w (.error 0) h hE (fun l us e=>by cases e) fun h1 h9=>absurd ⟨h1,h9⟩ hc
abbrev Ud (a b:Value):Obj:=.cells #[a,b] 25
abbrev Xq:Obj:=Ud (.slice none 0 0) (.slice none 0 0)
def zfe (r g:Nat) (w:World) (res:PR Pg) (e:Ending) (w':World):Prop :=
 zd r w w'∧match res with
  | .error a=>e=ZI a
  | .ok (x,ts)=>∃v o cap,e=.returned v∧xL (fun k=>w.heap.size≤k) w' x v∧zg r g o cap ts w'
theorem xL.agg {S:Nat→Prop} {w:World} {p:Pg} {v:Value} (h:xL S w p v):∃(a0:Option Addr) (a1 a2:Nat) (b0:Option Addr) (b1 b2:Nat),v=.agg #[.slice a0 a1 a2,.slice b0 b1 b2]:=by
 obtain ⟨z,G,rfl,y,o⟩:=h;obtain ⟨b,c,rfl⟩:=y.slice;obtain ⟨D,A,rfl⟩:=o.slice;exact ⟨_,_,_,_,_,_,rfl⟩
theorem za4:(Tryz.prog.info? 74).map (fun i=>(i.zero,i.size,i.bytes))=some (some (.agg #[.string ⟨#[]⟩,.slice none 0 0,.int .i64 0]),3,48):=by kernel_rfl
theorem zdP:(Tryz.prog.info? 72).map (fun i=>(i.zero,i.size,i.bytes))=some (some (.agg #[.string ⟨#[]⟩,.slice none 0 0,.string ⟨#[]⟩,.slice none 0 0,.int .i64 0]),5,88):=by kernel_rfl
theorem vh {f line:Nat} {ts us:List Tk} {x:Rc} (h:Zl f line ts=some (.ok (x,us))) (hE:zi ts):us.length<ts.length:=by
 have o:=hE.pos;obtain ⟨z,D,A,y⟩:=VM line (n:=ts.length-1) ts (by omega) hE
 have a:=Vp (k:=z) h;have b:=A f;rw [Nat.add_comm] at a;have e:=Option.some.inj (a.symm.trans b)
 have:=(y x us e.symm).1
 omega
theorem zdQ {f line:Nat} {ts us:List Tk} {x:Fc} (h:ZX f line ts=some (.ok (x,us))) (hE:zi ts):us.length<ts.length:=by
 have o:=hE.pos;obtain ⟨z,D,A,y⟩:=UL line (n:=ts.length-1) ts (by omega) hE
 have a:=UK (k:=z) h;have b:=A f;rw [Nat.add_comm] at a;have e:=Option.some.inj (a.symm.trans b)
 have:=(y x us e.symm).1
 omega
structure QW (r g:Nat) (w:World) (F:Nat) (res:PR Pg) (wr:World):Prop where
 ex:∃(rs:List Rc) (fs:List Fc) (vr vf:Value) (o2 cap2:Nat) (ts2:List Tk) (f2:Nat),f2≤F∧Zm f2 rs fs ts2=some res∧zi ts2∧rs.length+fs.length+ts2.length≤1099511627776∧wr.heap[w.heap.size]?=some Xq∧wr.heap[w.heap.size+1]?=some (Ud vr vf)∧yY (w.heap.size+2) wr rs fs vr vf∧zg r g o2 cap2 ts2 wr∧zd r w wr
theorem QW.addR {r g P o7 cap7 F f3:Nat} {w w6 w7 w9:World} {res:PR Pg} {rs:List Rc} {fs:List Fc} {vr vf v':Value} {x:Rc} {c:List Value} {us:List Tk} {ob:Obj} {lus:List (List Value)} (hP:P=w.heap.size+1) (hK6:zd r w w6) (b6:w6.heap[w.heap.size]?=some Xq) (p6:w6.heap[P]?=some (Ud vr vf)) (hpg7:yY (w.heap.size+2) w7 rs fs vr vf) (hbr:∀q,vr.ownBlock=some q→w.heap.size+2≤q∧q<w6.heap.size) (hbf:∀q,vf.ownBlock=some q→q<w6.heap.size)
  (hnext:∀{w':World} {v':Value} {x:Rc} {c:List Value} {ob:Obj} {N:Nat},EX RcE (fun k=>vf.ownBlock≠some k) (fun k=>N≤k) w7 x c→w.heap.size+2≤N→(∀q,vr.ownBlock=some q→q<N)→c.length=3→w'.ownsRow (w.heap.size+2) 74 3 v' (rs.length+1) (lus.flatten++c)→(w7.alloc ob).grownBy w' vr.ownBlock→(v'.ownBlock=vr.ownBlock∨v'.ownBlock=some (w7.alloc ob).heap.size)→yK (EX RcE fun k=>vf.ownBlock≠some k) 3 74 (w.heap.size+2) w' (rs++[x]) v')
  (hr:r<w.heap.size) (hg:g<w.heap.size) (hk7:zd r w6 w7) (hx7:RcE (fun k=>w6.heap.size≤k) w7 x c) (hc:c.length=3) (hrd7:zg r g o7 cap7 us w7) (ho:w9.ownsRow (w.heap.size+2) 74 3 v' (rs.length+1) (lus.flatten++c)) (hgr:(w7.alloc ob).grownBy w9 vr.ownBlock) (hat:v'.ownBlock=vr.ownBlock∨v'.ownBlock=some (w7.alloc ob).heap.size)
  (hf3:f3≤F) (hp:Zm f3 (rs++[x]) fs us=some res) (hE:zi us) (hn:rs.length+1+fs.length+us.length≤1099511627776):QW r g w F res (w9.setCell ⟨P,0,none⟩ v')∧ZP r (w9.setCell ⟨P,0,none⟩ v')=us.length:=by
 subst hP;have H:=hk7.size;have A:w.heap.size+1<w6.heap.size:=(Array.getElem?_eq_some_iff.1 p6).1;have h:∀k,vr.ownBlock≠some k→k<w7.heap.size→w9.heap[k]?=w7.heap[k]?:=fun k hk hlt=>(hgr.block k (by simp;omega) (fun e=>hk e.symm)).trans (Below.heap_alloc _ _ _ hlt)
 have o:∀k,k<w.heap.size+2→vr.ownBlock≠some k:=fun k hk e=>by have:=(hbr k e).1;omega
 have G:w9.heap[w.heap.size+1]?=some (Ud vr vf):=(h _ (o _ (by omega)) (by omega)).trans ((hk7.block _ A (by omega)).trans p6)
 have D:zd r w w9:=((hK6.trans hk7).alloc ob).grown hgr fun k hk=>by have:=(hbr k hk).1;omega
 have y:zg r g o7 cap7 us (w9.setCell ⟨w.heap.size+1,0,none⟩ v'):=(hrd7.keep (h r (o r (by omega)) (by omega)) (h g (o g (by omega)) (by omega))).setP _ (by omega) (by omega)
 have z:yY (w.heap.size+2) w9 (rs++[x]) fs v' vf:=hpg7.addR hnext hx7 (by omega) (fun q hq=>(hbr q hq).2) hbf (fun q hq=>by have:=hbf q hq;omega) hc ho hgr hat
 refine ⟨⟨rs++[x],fs,v',vf,o7,cap7,us,f3,hf3,hp,hE,by simp only [List.length_append,List.length_cons,List.length_nil];omega,?_,zq _ G,z.kept (by simp) fun k hk _=>Below.heap_setCell _ _ _ _ (by simp;omega),y,D.setOther (by simp) _⟩,y.left⟩
 rw [Below.heap_setCell _ _ _ _ (by simp)]
 exact (h _ (o _ (by omega)) (by omega)).trans ((hk7.block _ (by omega) (by omega)).trans b6)
theorem QW.addF {r g P o7 cap7 F f3:Nat} {w w6 w7 w9:World} {res:PR Pg} {rs:List Rc} {fs:List Fc} {vr vf v':Value} {x:Fc} {c:List Value} {us:List Tk} {ob:Obj} {lus:List (List Value)} (hP:P=w.heap.size+1) (hK6:zd r w w6) (b6:w6.heap[w.heap.size]?=some Xq) (p6:w6.heap[P]?=some (Ud vr vf)) (hpg7:yY (w.heap.size+2) w7 rs fs vr vf) (hbr:∀q,vf.ownBlock=some q→w.heap.size+2≤q∧q<w6.heap.size) (hbf:∀q,vr.ownBlock=some q→q<w6.heap.size)
  (hnext:∀{w':World} {v':Value} {x:Fc} {c:List Value} {ob:Obj} {N:Nat},EX FcE (fun k=>vr.ownBlock≠some k) (fun k=>N≤k) w7 x c→w.heap.size+2≤N→(∀q,vf.ownBlock=some q→q<N)→c.length=5→w'.ownsRow (w.heap.size+2) 72 5 v' (fs.length+1) (lus.flatten++c)→(w7.alloc ob).grownBy w' vf.ownBlock→(v'.ownBlock=vf.ownBlock∨v'.ownBlock=some (w7.alloc ob).heap.size)→yK (EX FcE fun k=>vr.ownBlock≠some k) 5 72 (w.heap.size+2) w' (fs++[x]) v')
  (hr:r<w.heap.size) (hg:g<w.heap.size) (hk7:zd r w6 w7) (hx7:FcE (fun k=>w6.heap.size≤k) w7 x c) (hc:c.length=5) (hrd7:zg r g o7 cap7 us w7) (ho:w9.ownsRow (w.heap.size+2) 72 5 v' (fs.length+1) (lus.flatten++c)) (hgr:(w7.alloc ob).grownBy w9 vf.ownBlock) (hat:v'.ownBlock=vf.ownBlock∨v'.ownBlock=some (w7.alloc ob).heap.size)
  (hf3:f3≤F) (hp:Zm f3 rs (fs++[x]) us=some res) (hE:zi us) (hn:rs.length+(fs.length+1)+us.length≤1099511627776):QW r g w F res (w9.setCell ⟨P,1,none⟩ v')∧ZP r (w9.setCell ⟨P,1,none⟩ v')=us.length:=by
 subst hP;have H:=hk7.size;have A:w.heap.size+1<w6.heap.size:=(Array.getElem?_eq_some_iff.1 p6).1;have h:∀k,vf.ownBlock≠some k→k<w7.heap.size→w9.heap[k]?=w7.heap[k]?:=fun k hk hlt=>(hgr.block k (by simp;omega) (fun e=>hk e.symm)).trans (Below.heap_alloc _ _ _ hlt)
 have o:∀k,k<w.heap.size+2→vf.ownBlock≠some k:=fun k hk e=>by have:=(hbr k e).1;omega
 have G:w9.heap[w.heap.size+1]?=some (Ud vr vf):=(h _ (o _ (by omega)) (by omega)).trans ((hk7.block _ A (by omega)).trans p6)
 have D:zd r w w9:=((hK6.trans hk7).alloc ob).grown hgr fun k hk=>by have:=(hbr k hk).1;omega
 have y:zg r g o7 cap7 us (w9.setCell ⟨w.heap.size+1,1,none⟩ v'):=(hrd7.keep (h r (o r (by omega)) (by omega)) (h g (o g (by omega)) (by omega))).setP _ (by omega) (by omega)
 have z:yY (w.heap.size+2) w9 rs (fs++[x]) vr v':=hpg7.addF hnext hx7 (by omega) (fun q hq=>(hbr q hq).2) hbf (fun q hq=>by have:=hbf q hq;omega) hc ho hgr hat
 refine ⟨⟨rs,fs++[x],vr,v',o7,cap7,us,f3,hf3,hp,hE,by simp only [List.length_append,List.length_cons,List.length_nil];omega,?_,zq _ G,z.kept (by simp) fun k hk _=>Below.heap_setCell _ _ _ _ (by simp;omega),y,D.setOther (by simp) _⟩,y.left⟩
 rw [Below.heap_setCell _ _ _ _ (by simp)]
 exact (h _ (o _ (by omega)) (by omega)).trans ((hk7.block _ (by omega) (by omega)).trans b6)
theorem zdR (r g o cap F:Nat) (ts:List Tk) (w:World) (res:PR Pg) (h:zg r g o cap ts w) (hE:zi ts) (hp:Zm F [] [] ts=some res)
  (hrec:∀w1 o1 cap1 ts1 r1 line,Zl F line ts1=some r1→zi ts1→zg r g o1 cap1 ts1 w1→zd r w w1→Calls Tryz.prog 53 #[.pointer (some ⟨r,0,none⟩),.int .i64 (line:Int)] w1 (X4 r g w1 r1))
  (hfun:∀w1 o1 cap1 ts1 r1 line,ZX F line ts1=some r1→zi ts1→zg r g o1 cap1 ts1 w1→zd r w w1→Calls Tryz.prog 54 #[.pointer (some ⟨r,0,none⟩),.int .i64 (line:Int)] w1 (UH r g w1 r1)) :
  Calls Tryz.prog 22 #[.pointer (some ⟨r,0,none⟩)] w (zfe r g w res):=by
 obtain ⟨iR,a8,aR,aV,aU⟩:=info_parts za4;obtain ⟨iF,be,aZ,aY,aT⟩:=info_parts zdP;have hN:=h.few;obtain ⟨t0,bD,rfl⟩:=hE.cons;have hr:=h.lt.1;have aP:=h.lt.2;have bS:=Va;have bR:=Xv;obtain ⟨w1,aO⟩:∃w1,w1=(w.alloc Xq).alloc Xq:=⟨_,rfl⟩
 have bx:QW r g w F res w1:=by
  have hz:w1.heap.size=w.heap.size+2:=by rw [aO];simp
  refine ⟨[],[],_,_,o,cap,t0::bD,F,Nat.le_refl _,hp,hE,by simpa using hN,?_,?_,yY.nil _ _,by rw [aO];exact (h.alloc _).alloc _,by rw [aO];exact ((zd.refl r w).alloc _).alloc _⟩
  ·rw [aO,Below.heap_alloc _ _ _ (by simp)];exact World.alloc_heap_new _ _
  ·rw [aO]
   have:=World.alloc_heap_new (w.alloc Xq) Xq
   simpa using this
 have bs:Hid (QW r g w F res w1):=bx;have bq:Hid (w1=(w.alloc Xq).alloc Xq):=aO;obtain ⟨P,hP⟩:∃P,P=w.heap.size+1:=⟨_,rfl⟩;have HP:Hid (P=w.heap.size+1):=hP;have bv:Hid (∀w1 o1 cap1 ts1 r1 line,Zl F line ts1=some r1→zi ts1→zg r g o1 cap1 ts1 w1→zd r w w1→Calls Tryz.prog 53 #[.pointer (some ⟨r,0,none⟩),.int .i64 (line:Int)] w1 (X4 r g w1 r1)):=hrec;have bp:Hid (∀w1 o1 cap1 ts1 r1 line,ZX F line ts1=some r1→zi ts1→zg r g o1 cap1 ts1 w1→zd r w w1→Calls Tryz.prog 54 #[.pointer (some ⟨r,0,none⟩),.int .i64 (line:Int)] w1 (UH r g w1 r1)):=hfun;clear h aO bx hrec hfun hN hp hE
 go_enter Tryz.func22,Tryz.ntmps22
 go_wp2_with fail
 rw [←bq.out,←HP.out];clear hP
 go_loopw [4] (fun _ wr=>QW r g w F res wr) (fun _ wr=>ZP r wr)
 case atStart=>exact bs.out
 case round =>
  clear bs bq;obtain ⟨rs,fs,vr,vf,o2,ag,bQ,f2,bO,hT,aW,ar,bN,bP,a4,aF,bt⟩:=hrel.ex;rw [←HP.out] at bP;obtain ⟨t2,ad,rfl⟩:=aW.cons;have aq:=aF.left;have aG:Hid (zd r w wr):=bt;have HB:Hid (wr.heap[w.heap.size]?=some Xq∧wr.heap[P]?=some (Ud vr vf)):=⟨bN,bP⟩;have aM:Hid (yY (w.heap.size+2) wr rs fs vr vf):=a4;obtain ⟨rb,rc,bL⟩:=a4.r.slice;obtain ⟨fb,fc,bJ⟩:=a4.f.slice;subst bL bJ;obtain ⟨Y,bc⟩:∃Y,Y=rs.length:=⟨_,rfl⟩;obtain ⟨V,bb⟩:∃V,V=fs.length:=⟨_,rfl⟩;have an:Hid (Y=rs.length):=bc;have ao:Hid (V=fs.length):=bb;rw [←bc,←bb] at HB aM;have ch:=yh r g o2 ag t2 ad wr aF;obtain ⟨wa,a0⟩:∃wa,wa=wr.alloc (ZK t2):=⟨_,rfl⟩;rw [←a0] at ch;have aC:zg r g o2 ag (t2::ad) wa:=by rw [a0];exact aF.alloc _
  have aB:Hid (zd r wr wa):=by rw [a0];exact (zd.refl r wr).alloc _
  have bM:=aF.lt.1;cases f2 with
  | zero=>simp [Zm] at hT
  | succ f3 =>
  rw [Zm] at hT;simp only [zE,List.tail_cons] at hT;clear hrel bN bP a4 aF bt a0 bc bb
  by_cases h0:t2.k=0
  ·rw [if_pos h0] at hT
   simp only [Option.some.injEq] at hT;subst hT;have aS:=aG.out.size;have aJ:=HP.out;have aD:w.heap.size<wr.heap.size:=(Array.getElem?_eq_some_iff.1 HB.out.1).1;have aE:P<wr.heap.size:=(Array.getElem?_eq_some_iff.1 HB.out.2).1;have ba:=(aB.out.block w.heap.size aD (by omega)).trans HB.out.1
   have pa:=(aB.out.block P aE (by omega)).trans HB.out.2
   have a6:=aM.out.kept aB.out.size fun k hk hlt=>aB.out.block k hlt (by omega)
   have ka:=aG.out.trans aB.out;obtain ⟨e0,e1,-⟩:=ZA pa;obtain ⟨q0,q1,qf⟩:=ZA ba;have bz:(((wa.setCell ⟨w.heap.size,0,none⟩ (.slice rb Y rc)).setCell ⟨w.heap.size,1,none⟩ (.slice fb V fc))).heap[w.heap.size]?=some (Ud (.slice rb Y rc) (.slice fb V fc)):=zq _ (zq _ ba);obtain ⟨z0,z1,-⟩:=ZA bz;have a1:∀k,k≠w.heap.size→((wa.setCell ⟨w.heap.size,0,none⟩ (.slice rb Y rc)).setCell ⟨w.heap.size,1,none⟩ (.slice fb V fc)).heap[k]?=wa.heap[k]?:=fun k hk=>by rw [Below.heap_setCell _ _ _ _ (by simpa using hk),Below.heap_setCell _ _ _ _ (by simpa using hk)]
   have bH:Hid (zfe r g w (.ok (⟨rs,fs⟩,t2::ad)) (.returned (.agg #[.slice rb Y rc,.slice fb V fc])) ((wa.setCell ⟨w.heap.size,0,none⟩ (.slice rb Y rc)).setCell ⟨w.heap.size,1,none⟩ (.slice fb V fc))):=by
    refine ⟨(ka.setOther (p:=⟨w.heap.size,0,none⟩) (by simp) _).setOther (p:=⟨w.heap.size,1,none⟩) (by simp) _,_,_,_,rfl,?_,aC.keep (a1 r (by omega)) (a1 g (by omega))⟩
    exact (a6.pg.kept (by simp) fun k hk _=>a1 k (by omega)).wide fun k hk=>by omega
   have bi:((t2.k:Int)==0)=true:=by rw [h0];rfl
   have bF:((t2.k:Int) != 0)=false:=by rw [bne,bi];rfl
   clear ba pa a6 ka bz a1 aC HB aM aB aG aS aD aE h0 aJ;go_wp2_with fail
   refine ch.mono ?_;clear ch;rintro e w' ⟨rfl,he⟩;obtain rfl:=he.symm;clear he;simp only [uA];go_wp2
   exact bodyPost_ret (v:=.agg #[.slice rb Y rc,.slice fb V fc]) (by simp [results,Tryz.results22,go_sem,z0,z1]) rfl bH.out
  ·rw [if_neg h0] at hT
   have bi:((t2.k:Int)==0)=false:=by rw [beq_eq_false_iff_ne];omega
   have bF:((t2.k:Int) != 0)=true:=by rw [bne,bi];rfl
   have bf:=yh r g o2 ag t2 ad wa aC;obtain ⟨wb,a2⟩:∃wb,wb=wa.alloc (ZK t2):=⟨_,rfl⟩;rw [←a2] at bf;have bo:zg r g o2 ag (t2::ad) wb:=by rw [a2];exact aC.alloc _
   have a9:Hid (zd r wr wb):=by rw [a2];exact aB.out.alloc _
   have c1:=Zx r g o2 ag t2 ad [114,101,99,111,114,100] wb bo (fun hi=>(aW.tail (zj hi)).ne)
   obtain ⟨LN,bn⟩:∃LN,LN=t2.line:=⟨_,rfl⟩;have bE:Hid (LN=t2.line):=bn;rw [←bn] at hT;clear a2 aC aB bn;go_wp2_with fail
   refine ch.mono ?_;clear ch;rintro e w' ⟨rfl,he⟩;obtain rfl:=he.symm;clear he;simp only [uA];go_wp2_with fail
   refine bf.mono ?_;clear bf;rintro e w' ⟨rfl,he⟩;obtain rfl:=he.symm;clear he;simp only [uA];rw [←bE.out]
   by_cases i1:zm t2 [114,101,99,111,114,100]=true
   ·rw [i1] at c1
    rw [if_pos i1] at hT;go_wp2_with fail
    refine c1.mono ?_;clear c1;rintro e w6 ⟨rfl,aN,h6⟩;have aA:zg r g (o2+5) (ag-1) ad w6:=by simpa using h6
    have aw:Hid (zd r w w6):=aG.out.trans (a9.out.trans aN);have ab:zd r wr w6:=a9.out.trans aN;have aI:=aW.tail (zj i1);have aS:=aG.out.size;have bh:=ab.size;have aJ:=HP.out;have aD:w.heap.size<wr.heap.size:=(Array.getElem?_eq_some_iff.1 HB.out.1).1;have aE:P<wr.heap.size:=(Array.getElem?_eq_some_iff.1 HB.out.2).1;have aa:Hid (w6.heap[w.heap.size]?=some Xq∧w6.heap[P]?=some (Ud (.slice rb Y rc) (.slice fb V fc))):=⟨(ab.block _ aD (by omega)).trans HB.out.1,(ab.block _ aE (by omega)).trans HB.out.2⟩
    have D:Hid (yY (w.heap.size+2) w6 rs fs (.slice rb Y rc) (.slice fb V fc)):=aM.out.kept ab.size fun k hk hlt=>ab.block k hlt (by omega)
    have Q:Hid (P=w.heap.size+1∧P<w6.heap.size∧r<w.heap.size):=⟨aJ,by omega,hr⟩
    cases hb3:Zl f3 LN ad with
    | none=>rw [hb3] at hT;cases hT
    | some r3 =>
     rw [hb3] at hT;have av:f3≤F:=by omega
     have az:Zl F LN ad=some r3:=by
      have:=Vp (k:=F-f3) hb3
      rwa [show f3+(F-f3)=F by omega] at this
     have cb:∀W:World,W.heap=w6.heap→W.os=w6.os→W.tape=w6.tape→W.output=w6.output→Calls Tryz.prog 53 #[.pointer (some ⟨r,0,none⟩),.int .i64 (LN:Int)] W (X4 r g w6 r3):=fun W e1 e2 e3 e4=>by
      have aQ:zd r w6 W:=⟨e2,e3,e4,by rw [e1];exact Nat.le_refl _,fun k _ _=>by rw [e1]⟩
      refine (bv.out W _ _ ad r3 LN az aI (aA.keep (by rw [e1]) (by rw [e1])) (aw.out.trans aQ)).mono fun e w' hh=>?_
      refine ⟨aQ.trans hh.1,?_⟩;have h9:=hh.2;rw [e1] at h9;exact h9
     have CB:Hid (∀W:World,W.heap=w6.heap→W.os=w6.os→W.tape=w6.tape→W.output=w6.output→Calls Tryz.prog 53 #[.pointer (some ⟨r,0,none⟩),.int .i64 (LN:Int)] W (X4 r g w6 r3)):=cb;obtain ⟨l0,l1,-⟩:=ZA aa.out.2;clear cb aA h6 aN ab aS bh aJ aD aE HB aM;rcases r3 with a3 | ⟨x,am⟩
     ·simp only [zh,Option.some.injEq] at hT
      subst hT;have bj:∀W:World,W.heap=w6.heap→W.os=w6.os→W.tape=w6.tape→W.output=w6.output→Calls Tryz.prog 53 #[.pointer (some ⟨r,0,none⟩),.int .i64 (LN:Int)] W fun e w'=>e=ZI a3∧zd r w w':=fun W e1 e2 e3 e4=>(CB.out W e1 e2 e3 e4).mono fun e w' h=>⟨h.2,aw.out.trans h.1⟩
      clear CB;go_wp2_with fail
      go_region_dies
      all_goals (go_wp2_with fail;refine (bj _ (by rfl) (by rfl) (by rfl) (by rfl)).mono ?_;rintro e w4 ⟨rfl,bg⟩;exact ⟨rfl,bg,rfl⟩)
     ·have aK:=Yy az aI
      have aL:=vh az aI;have aH:Hid (Zm f3 (rs++[x]) fs am=some res):=hT
      have CU:Hid (∀W:World,W.heap=w6.heap→W.os=w6.os→W.tape=w6.tape→W.output=w6.output→Calls Tryz.prog 53 #[.pointer (some ⟨r,0,none⟩),.int .i64 (LN:Int)] W fun e w'=>∃(ya:ByteArray) (y0:Option Addr) (y1 y2:Nat) (yl:Int),e=.returned (.agg #[.string ya,.slice y0 y1 y2,.int .i64 yl])∧Hid (zd r w6 w'∧RcE (fun k=>w6.heap.size≤k) w' x [.string ya,.slice y0 y1 y2,.int .i64 yl]∧∃o7 R,zg r g o7 R am w')):=fun W e1 e2 e3 e4=>(CB.out W e1 e2 e3 e4).mono fun e w' h=>by
       obtain ⟨L,v,o7,R,rfl,ap,O⟩:=h;obtain ⟨y0,y1,y2,rfl⟩:=ap.slice;exact ⟨_,y0,y1,y2,_,rfl,L,⟨_,rfl,ap.toG⟩,o7,R,O⟩
      clear CB hT hb3 az;go_wp2_with fail
      refine vJ (n:=9) (S:=fun _=>True) (by kernel_rfl) rfl rfl ?_
      refine yD (fuel:=6) (fuel':=9) (idx:=[0,2,3]) (by decide +kernel) rfl rfl rfl (fun _ _ _ _ _ h=>h) trivial ?_
      show wpQuiet _ _ _ _ [_,_,_] _
      iterate 3 (go_big_quiet_step (exact rfl))
      refine wpQuiet_nil ?_;refine Xm (fuel:=5) (fuel':=6) (i:=1) (k:=4) rfl rfl (by decide +kernel) rfl rfl rfl (by rfl) (by rfl) ?_ ?_
      ·intro K J
       go_simp;refine J.out _ _ trivial ?_;clear J K;refine Zk (fuel:=4) (fuel':=5) (i:=4) rfl (by decide +kernel) rfl rfl (by rfl) ?_
       intro K J;go_simp;refine (CU.out _ (by rfl) (by rfl) (by rfl) (by rfl)).mono ?_
       rintro e U ⟨ya,y0,y1,y2,yl,rfl,H7⟩
       (try go_simp)
       refine J.out _ _ trivial ?_;clear J K;refine Zk (fuel:=3) (fuel':=4) (i:=5) rfl (by decide +kernel) rfl rfl (by rfl) ?_
       intro K J;go_simp;refine J.out _ _ trivial ?_;clear J K;obtain ⟨L,ap,o7,R,O⟩:=H7.out;have af:Hid (zg r g o7 R am U):=O;have N:=D.out.kept L.size fun k hk hlt=>L.block k hlt (by have:=Q.out;omega)
       obtain ⟨ay,A,H⟩:=yK.more (Xa YO _) N.r;rw [←an.out] at A;have ak:Hid (U.ownsRow (w.heap.size+2) 74 3 (.slice rb Y rc) Y ay.flatten):=A;have au:Hid (U.heap[P]?=some (Ud (.slice rb Y rc) (.slice fb V fc))):=(L.block P Q.out.2.1 (by have:=Q.out;omega)).trans aa.out.2
       have Z:Hid (w.heap.size+2≤U.heap.size∧P<U.heap.size):=by have:=Q.out;have:=L.size;exact ⟨by omega,by omega⟩
       have ah:Hid (Y+1≤1099511627776):=show _≤_ by have:=an.out;have:=ao.out;simp only [List.length_cons] at ar;omega
       clear L ap O A;refine xg (fuel:=2) (fuel':=3) (i:=6) rfl (by decide +kernel) rfl rfl (by rfl) ?_
       intro K J;refine ym _ _ 22 rfl (by rfl) (w.heap.size+2) 74 iR _ 3 48 Tryz.underlying22 a8 aR aV aU rfl (by decide) _ _ _ rfl (ak.out.alloc _) ⟨U.heap.size,0,none⟩ 1 1 [.string ya,.slice y0 y1 y2,.int .i64 yl] rfl rfl (ZQ _ _ _) (by simp [Value.oneCell']) (by have:=ah.out;unfold maxLen;omega) (by have:=ah.out;omega) (by have:=Z.out;simp;omega) ?_
       intro v' w9 z I T;have G:(U.alloc (.cells #[.string ya,.slice y0 y1 y2,.int .i64 yl] 74)).grownBy w9 (Value.ownBlock (.slice rb Y rc)):=I;have al:v'.ownBlock=Value.ownBlock (.slice rb Y rc)∨v'.ownBlock=some (U.alloc (.cells #[.string ya,.slice y0 y1 y2,.int .i64 yl] 74)).heap.size:=T;clear I T
       obtain ⟨vg,vc,ax⟩:∃vg vc,v'=.slice (some ⟨vg,0,none⟩) (Y+1) vc:=by
        rcases z.2 with ⟨_,h0⟩ | ⟨g',ai,_,h1,_⟩
        ·omega
        ·exact ⟨g',ai,h1⟩
       subst ax;have y:=z;rw [an.out] at y
       have ae:Hid (QW r g w F res (w9.setCell ⟨P,0,none⟩ (.slice (some ⟨vg,0,none⟩) (Y+1) vc))∧ZP r (w9.setCell ⟨P,0,none⟩ (.slice (some ⟨vg,0,none⟩) (Y+1) vc))=am.length):=by
        rw [an.out];exact QW.addR HP.out aw.out aa.out.1 aa.out.2 N (fun q hq=>⟨(D.out.r.block q hq).1,(D.out.r.block q hq).2⟩) (fun q hq=>(D.out.f.block q hq).2) H hr aP H7.out.1 H7.out.2.1 rfl af.out y G al av aH.out aK (by simp only [List.length_cons] at ar aL;omega)
       have p9:w9.heap[P]?=some (Ud (.slice rb Y rc) (.slice fb V fc)):=(G.block P (by have:=Z.out;simp;omega) (fun e=>by have:=(D.out.r.block P e.symm).1;have:=HP.out;omega)).trans ((Below.heap_alloc _ _ _ Z.out.2).trans au.out)
       obtain ⟨n0,n1,aj⟩:=ZA p9;have aX:=aj 0;clear z y G al p9 aj N H;refine J.out _ _ trivial ?_;clear J K;simp only [Act.put,List.setIfInBounds_toArray,List.set_cons_zero,List.set_cons_succ];refine yD (fuel:=1) (fuel':=2) (idx:=[7]) (by decide +kernel) rfl rfl rfl (fun _ _ _ _ _ h=>h) trivial ?_
       show wpQuiet _ _ _ _ [_] _
       iterate 1 (go_big_quiet_step (exact rfl))
       refine wpQuiet_nil ?_;refine Zk (fuel:=0) (fuel':=1) (i:=8) rfl (by decide +kernel) rfl rfl (by rfl) ?_
       intro K J;go_simp;refine J.out _ _ trivial ?_;clear J K;refine Yf (by decide +kernel) ?_
       go_wp2_with fail
       exact ⟨ae.out.1,by rw [ae.out.2,aq];simp only [List.length_cons];omega⟩
      ·intro K J
       go_simp;refine (CU.out _ (by rfl) (by rfl) (by rfl) (by rfl)).mono ?_
       rintro e U ⟨ya,y0,y1,y2,yl,rfl,H7⟩
       (try go_simp)
       refine J.out _ _ trivial ?_;clear J K;obtain ⟨bm,bk,-⟩:=ZA ((H7.out.1.block P Q.out.2.1 (by have:=Q.out;omega)).trans aa.out.2)
       have bw:=zl bm;have bB:=zl bk;refine Xm (fuel:=4) (fuel':=5) (i:=1) (k:=5) rfl rfl (by decide +kernel) rfl rfl rfl (by rfl) (by rfl) ?_ ?_
       ·intro K J
        go_simp;refine J.out _ _ trivial ?_;clear J K;refine Zk (fuel:=3) (fuel':=4) (i:=5) rfl (by decide +kernel) rfl rfl (by rfl) ?_
        intro K J;go_simp;refine J.out _ _ trivial ?_;clear J K;obtain ⟨L,ap,o7,R,O⟩:=H7.out;have af:Hid (zg r g o7 R am U):=O;have N:=D.out.kept L.size fun k hk hlt=>L.block k hlt (by have:=Q.out;omega)
        obtain ⟨ay,A,H⟩:=yK.more (Xa YO _) N.r;rw [←an.out] at A;have ak:Hid (U.ownsRow (w.heap.size+2) 74 3 (.slice rb Y rc) Y ay.flatten):=A;have au:Hid (U.heap[P]?=some (Ud (.slice rb Y rc) (.slice fb V fc))):=(L.block P Q.out.2.1 (by have:=Q.out;omega)).trans aa.out.2
        have Z:Hid (w.heap.size+2≤U.heap.size∧P<U.heap.size):=by have:=Q.out;have:=L.size;exact ⟨by omega,by omega⟩
        have ah:Hid (Y+1≤1099511627776):=show _≤_ by have:=an.out;have:=ao.out;simp only [List.length_cons] at ar;omega
        clear L ap O A;refine xg (fuel:=2) (fuel':=3) (i:=6) rfl (by decide +kernel) rfl rfl (by rfl) ?_
        intro K J;refine ym _ _ 22 rfl (by rfl) (w.heap.size+2) 74 iR _ 3 48 Tryz.underlying22 a8 aR aV aU rfl (by decide) _ _ _ rfl (ak.out.alloc _) ⟨U.heap.size,0,none⟩ 1 1 [.string ya,.slice y0 y1 y2,.int .i64 yl] rfl rfl (ZQ _ _ _) (by simp [Value.oneCell']) (by have:=ah.out;unfold maxLen;omega) (by have:=ah.out;omega) (by have:=Z.out;simp;omega) ?_
        intro v' w9 z I T;have G:(U.alloc (.cells #[.string ya,.slice y0 y1 y2,.int .i64 yl] 74)).grownBy w9 (Value.ownBlock (.slice rb Y rc)):=I;have al:v'.ownBlock=Value.ownBlock (.slice rb Y rc)∨v'.ownBlock=some (U.alloc (.cells #[.string ya,.slice y0 y1 y2,.int .i64 yl] 74)).heap.size:=T;clear I T
        obtain ⟨vg,vc,ax⟩:∃vg vc,v'=.slice (some ⟨vg,0,none⟩) (Y+1) vc:=by
         rcases z.2 with ⟨_,h0⟩ | ⟨g',ai,_,h1,_⟩
         ·omega
         ·exact ⟨g',ai,h1⟩
        subst ax;have y:=z;rw [an.out] at y
        have ae:Hid (QW r g w F res (w9.setCell ⟨P,0,none⟩ (.slice (some ⟨vg,0,none⟩) (Y+1) vc))∧ZP r (w9.setCell ⟨P,0,none⟩ (.slice (some ⟨vg,0,none⟩) (Y+1) vc))=am.length):=by
         rw [an.out];exact QW.addR HP.out aw.out aa.out.1 aa.out.2 N (fun q hq=>⟨(D.out.r.block q hq).1,(D.out.r.block q hq).2⟩) (fun q hq=>(D.out.f.block q hq).2) H hr aP H7.out.1 H7.out.2.1 rfl af.out y G al av aH.out aK (by simp only [List.length_cons] at ar aL;omega)
        have p9:w9.heap[P]?=some (Ud (.slice rb Y rc) (.slice fb V fc)):=(G.block P (by have:=Z.out;simp;omega) (fun e=>by have:=(D.out.r.block P e.symm).1;have:=HP.out;omega)).trans ((Below.heap_alloc _ _ _ Z.out.2).trans au.out)
        obtain ⟨n0,n1,aj⟩:=ZA p9;have aX:=aj 0;clear z y G al p9 aj N H;refine J.out _ _ trivial ?_;clear J K;simp only [Act.put,List.setIfInBounds_toArray,List.set_cons_zero,List.set_cons_succ];refine yD (fuel:=1) (fuel':=2) (idx:=[7]) (by decide +kernel) rfl rfl rfl (fun _ _ _ _ _ h=>h) trivial ?_
        show wpQuiet _ _ _ _ [_] _
        iterate 1 (go_big_quiet_step (exact rfl))
        refine wpQuiet_nil ?_;refine Zk (fuel:=0) (fuel':=1) (i:=8) rfl (by decide +kernel) rfl rfl (by rfl) ?_
        intro K J;go_simp;refine J.out _ _ trivial ?_;clear J K;refine Yf (by decide +kernel) ?_
        go_wp2_with fail
        exact ⟨ae.out.1,by rw [ae.out.2,aq];simp only [List.length_cons];omega⟩
       ·intro K J
        go_simp;refine J.out _ _ trivial ?_;clear J K;refine Zk (fuel:=3) (fuel':=4) (i:=1) rfl (by decide +kernel) rfl rfl (by rfl) ?_
        intro K J;go_simp;refine J.out _ _ trivial ?_;clear J K;obtain ⟨L,ap,o7,R,O⟩:=H7.out;have af:Hid (zg r g o7 R am U):=O;have N:=D.out.kept L.size fun k hk hlt=>L.block k hlt (by have:=Q.out;omega)
        obtain ⟨ay,A,H⟩:=yK.more (Xa YO _) N.r;rw [←an.out] at A;have ak:Hid (U.ownsRow (w.heap.size+2) 74 3 (.slice rb Y rc) Y ay.flatten):=A;have au:Hid (U.heap[P]?=some (Ud (.slice rb Y rc) (.slice fb V fc))):=(L.block P Q.out.2.1 (by have:=Q.out;omega)).trans aa.out.2
        have Z:Hid (w.heap.size+2≤U.heap.size∧P<U.heap.size):=by have:=Q.out;have:=L.size;exact ⟨by omega,by omega⟩
        have ah:Hid (Y+1≤1099511627776):=show _≤_ by have:=an.out;have:=ao.out;simp only [List.length_cons] at ar;omega
        clear L ap O A;refine xg (fuel:=2) (fuel':=3) (i:=6) rfl (by decide +kernel) rfl rfl (by rfl) ?_
        intro K J;refine ym _ _ 22 rfl (by rfl) (w.heap.size+2) 74 iR _ 3 48 Tryz.underlying22 a8 aR aV aU rfl (by decide) _ _ _ rfl (ak.out.alloc _) ⟨U.heap.size,0,none⟩ 1 1 [.string ya,.slice y0 y1 y2,.int .i64 yl] rfl rfl (ZQ _ _ _) (by simp [Value.oneCell']) (by have:=ah.out;unfold maxLen;omega) (by have:=ah.out;omega) (by have:=Z.out;simp;omega) ?_
        intro v' w9 z I T;have G:(U.alloc (.cells #[.string ya,.slice y0 y1 y2,.int .i64 yl] 74)).grownBy w9 (Value.ownBlock (.slice rb Y rc)):=I;have al:v'.ownBlock=Value.ownBlock (.slice rb Y rc)∨v'.ownBlock=some (U.alloc (.cells #[.string ya,.slice y0 y1 y2,.int .i64 yl] 74)).heap.size:=T;clear I T
        obtain ⟨vg,vc,ax⟩:∃vg vc,v'=.slice (some ⟨vg,0,none⟩) (Y+1) vc:=by
         rcases z.2 with ⟨_,h0⟩ | ⟨g',ai,_,h1,_⟩
         ·omega
         ·exact ⟨g',ai,h1⟩
        subst ax;have y:=z;rw [an.out] at y
        have ae:Hid (QW r g w F res (w9.setCell ⟨P,0,none⟩ (.slice (some ⟨vg,0,none⟩) (Y+1) vc))∧ZP r (w9.setCell ⟨P,0,none⟩ (.slice (some ⟨vg,0,none⟩) (Y+1) vc))=am.length):=by
         rw [an.out];exact QW.addR HP.out aw.out aa.out.1 aa.out.2 N (fun q hq=>⟨(D.out.r.block q hq).1,(D.out.r.block q hq).2⟩) (fun q hq=>(D.out.f.block q hq).2) H hr aP H7.out.1 H7.out.2.1 rfl af.out y G al av aH.out aK (by simp only [List.length_cons] at ar aL;omega)
        have p9:w9.heap[P]?=some (Ud (.slice rb Y rc) (.slice fb V fc)):=(G.block P (by have:=Z.out;simp;omega) (fun e=>by have:=(D.out.r.block P e.symm).1;have:=HP.out;omega)).trans ((Below.heap_alloc _ _ _ Z.out.2).trans au.out)
        obtain ⟨n0,n1,aj⟩:=ZA p9;have aX:=aj 0;clear z y G al p9 aj N H;refine J.out _ _ trivial ?_;clear J K;simp only [Act.put,List.setIfInBounds_toArray,List.set_cons_zero,List.set_cons_succ];refine yD (fuel:=1) (fuel':=2) (idx:=[7]) (by decide +kernel) rfl rfl rfl (fun _ _ _ _ _ h=>h) trivial ?_
        show wpQuiet _ _ _ _ [_] _
        iterate 1 (go_big_quiet_step (exact rfl))
        refine wpQuiet_nil ?_;refine Zk (fuel:=0) (fuel':=1) (i:=8) rfl (by decide +kernel) rfl rfl (by rfl) ?_
        intro K J;go_simp;refine J.out _ _ trivial ?_;clear J K;refine Yf (by decide +kernel) ?_
        go_wp2_with fail
        exact ⟨ae.out.1,by rw [ae.out.2,aq];simp only [List.length_cons];omega⟩
   ·have bK:zm t2 [114,101,99,111,114,100]=false:=by simpa using i1
    rw [bK] at c1;rw [if_neg i1] at hT;go_wp2_with fail
    refine c1.mono ?_;clear c1;rintro e wd ⟨rfl,br,hd⟩;have a5:zg r g o2 ag (t2::ad) wd:=by simpa using hd
    have bd:Hid (zd r wr wd):=a9.out.trans br;have c2:=Zx r g o2 ag t2 ad [102,110] wd a5 (fun hi=>(aW.tail (zj hi)).ne)
    clear hd br
    by_cases i2:zm t2 [102,110]=true
    ·rw [i2] at c2
     rw [if_pos i2] at hT;go_wp2_with fail
     refine c2.mono ?_;clear c2;rintro e w6 ⟨rfl,aN,h6⟩;have aA:zg r g (o2+5) (ag-1) ad w6:=by simpa using h6
     have aw:Hid (zd r w w6):=aG.out.trans (bd.out.trans aN);have ab:zd r wr w6:=bd.out.trans aN;have aI:=aW.tail (zj i2);have aS:=aG.out.size;have bh:=ab.size;have aJ:=HP.out;have aD:w.heap.size<wr.heap.size:=(Array.getElem?_eq_some_iff.1 HB.out.1).1;have aE:P<wr.heap.size:=(Array.getElem?_eq_some_iff.1 HB.out.2).1;have aa:Hid (w6.heap[w.heap.size]?=some Xq∧w6.heap[P]?=some (Ud (.slice rb Y rc) (.slice fb V fc))):=⟨(ab.block _ aD (by omega)).trans HB.out.1,(ab.block _ aE (by omega)).trans HB.out.2⟩
     have D:Hid (yY (w.heap.size+2) w6 rs fs (.slice rb Y rc) (.slice fb V fc)):=aM.out.kept ab.size fun k hk hlt=>ab.block k hlt (by omega)
     have Q:Hid (P=w.heap.size+1∧P<w6.heap.size∧r<w.heap.size):=⟨aJ,by omega,hr⟩
     cases hb3:ZX f3 LN ad with
     | none=>rw [hb3] at hT;cases hT
     | some r3 =>
      rw [hb3] at hT;have av:f3≤F:=by omega
      have az:ZX F LN ad=some r3:=by
       have:=UK (k:=F-f3) hb3
       rwa [show f3+(F-f3)=F by omega] at this
      have cb:∀W:World,W.heap=w6.heap→W.os=w6.os→W.tape=w6.tape→W.output=w6.output→Calls Tryz.prog 54 #[.pointer (some ⟨r,0,none⟩),.int .i64 (LN:Int)] W (UH r g w6 r3):=fun W e1 e2 e3 e4=>by
       have aQ:zd r w6 W:=⟨e2,e3,e4,by rw [e1];exact Nat.le_refl _,fun k _ _=>by rw [e1]⟩
       refine (bp.out W _ _ ad r3 LN az aI (aA.keep (by rw [e1]) (by rw [e1])) (aw.out.trans aQ)).mono fun e w' hh=>?_
       refine ⟨aQ.trans hh.1,?_⟩;have h9:=hh.2;rw [e1] at h9;exact h9
      have CB:Hid (∀W:World,W.heap=w6.heap→W.os=w6.os→W.tape=w6.tape→W.output=w6.output→Calls Tryz.prog 54 #[.pointer (some ⟨r,0,none⟩),.int .i64 (LN:Int)] W (UH r g w6 r3)):=cb;obtain ⟨l0,l1,-⟩:=ZA aa.out.2;clear cb aA h6 aN ab aS bh aJ aD aE HB aM;rcases r3 with a3 | ⟨x,am⟩
      ·simp only [zh,Option.some.injEq] at hT
       subst hT;have bj:∀W:World,W.heap=w6.heap→W.os=w6.os→W.tape=w6.tape→W.output=w6.output→Calls Tryz.prog 54 #[.pointer (some ⟨r,0,none⟩),.int .i64 (LN:Int)] W fun e w'=>e=ZI a3∧zd r w w':=fun W e1 e2 e3 e4=>(CB.out W e1 e2 e3 e4).mono fun e w' h=>⟨h.2,aw.out.trans h.1⟩
       clear CB;go_wp2_with fail
       go_region_dies
       all_goals (go_wp2_with fail;refine (bj _ (by rfl) (by rfl) (by rfl) (by rfl)).mono ?_;rintro e w4 ⟨rfl,bg⟩;exact ⟨rfl,bg,rfl⟩)
      ·have aK:=xz az aI
       have aL:=zdQ az aI;have aH:Hid (Zm f3 rs (fs++[x]) am=some res):=hT
       have CU:Hid (∀W:World,W.heap=w6.heap→W.os=w6.os→W.tape=w6.tape→W.output=w6.output→Calls Tryz.prog 54 #[.pointer (some ⟨r,0,none⟩),.int .i64 (LN:Int)] W fun e w'=>∃(ya:ByteArray) (y0:Option Addr) (y1 y2:Nat) (yt:ByteArray) (u0:Option Addr) (u1 u2:Nat) (yl:Int),e=.returned (.agg #[.string ya,.slice y0 y1 y2,.string yt,.slice u0 u1 u2,.int .i64 yl])∧Hid (zd r w6 w'∧FcE (fun k=>w6.heap.size≤k) w' x [.string ya,.slice y0 y1 y2,.string yt,.slice u0 u1 u2,.int .i64 yl]∧∃o7 R,zg r g o7 R am w')):=fun W e1 e2 e3 e4=>(CB.out W e1 e2 e3 e4).mono fun e w' h=>by
        obtain ⟨L,v,o7,R,rfl,⟨vp,vb,rfl,bC,bA⟩,O⟩:=h;obtain ⟨y0,y1,y2,rfl⟩:=bC.slice;obtain ⟨u0,u1,u2,rfl⟩:=bA.slice;exact ⟨_,y0,y1,y2,_,u0,u1,u2,_,rfl,L,⟨_,_,rfl,bC.toG,bA⟩,o7,R,O⟩
       clear CB hT hb3 az;go_wp2_with fail
       refine vJ (n:=9) (S:=fun _=>True) (by kernel_rfl) rfl rfl ?_
       refine yD (fuel:=6) (fuel':=9) (idx:=[0,2,3]) (by decide +kernel) rfl rfl rfl (fun _ _ _ _ _ h=>h) trivial ?_
       show wpQuiet _ _ _ _ [_,_,_] _
       iterate 3 (go_big_quiet_step (exact rfl))
       refine wpQuiet_nil ?_;refine Xm (fuel:=5) (fuel':=6) (i:=1) (k:=4) rfl rfl (by decide +kernel) rfl rfl rfl (by rfl) (by rfl) ?_ ?_
       ·intro K J
        go_simp;refine J.out _ _ trivial ?_;clear J K;refine Zk (fuel:=4) (fuel':=5) (i:=4) rfl (by decide +kernel) rfl rfl (by rfl) ?_
        intro K J;go_simp;refine (CU.out _ (by rfl) (by rfl) (by rfl) (by rfl)).mono ?_
        rintro e U ⟨ya,y0,y1,y2,yt,u0,u1,u2,yl,rfl,H7⟩
        (try go_simp)
        refine J.out _ _ trivial ?_;clear J K;refine Zk (fuel:=3) (fuel':=4) (i:=5) rfl (by decide +kernel) rfl rfl (by rfl) ?_
        intro K J;go_simp;refine J.out _ _ trivial ?_;clear J K;obtain ⟨L,ap,o7,R,O⟩:=H7.out;have af:Hid (zg r g o7 R am U):=O;have N:=D.out.kept L.size fun k hk hlt=>L.block k hlt (by have:=Q.out;omega)
        obtain ⟨ay,A,H⟩:=yK.more (Xa YP _) N.f;rw [←ao.out] at A;have ak:Hid (U.ownsRow (w.heap.size+2) 72 5 (.slice fb V fc) V ay.flatten):=A;have au:Hid (U.heap[P]?=some (Ud (.slice rb Y rc) (.slice fb V fc))):=(L.block P Q.out.2.1 (by have:=Q.out;omega)).trans aa.out.2
        have Z:Hid (w.heap.size+2≤U.heap.size∧P<U.heap.size):=by have:=Q.out;have:=L.size;exact ⟨by omega,by omega⟩
        have ah:Hid (V+1≤1099511627776):=show _≤_ by have:=an.out;have:=ao.out;simp only [List.length_cons] at ar;omega
        clear L ap O A;refine xg (fuel:=2) (fuel':=3) (i:=6) rfl (by decide +kernel) rfl rfl (by rfl) ?_
        intro K J;refine ym _ _ 23 rfl (by rfl) (w.heap.size+2) 72 iF _ 5 88 Tryz.underlying23 be aZ aY aT rfl (by decide) _ _ _ rfl (ak.out.alloc _) ⟨U.heap.size,0,none⟩ 1 1 [.string ya,.slice y0 y1 y2,.string yt,.slice u0 u1 u2,.int .i64 yl] rfl rfl (ZQ _ _ _) (by simp [Value.oneCell']) (by have:=ah.out;unfold maxLen;omega) (by have:=ah.out;omega) (by have:=Z.out;simp;omega) ?_
        intro v' w9 z I T;have G:(U.alloc (.cells #[.string ya,.slice y0 y1 y2,.string yt,.slice u0 u1 u2,.int .i64 yl] 72)).grownBy w9 (Value.ownBlock (.slice fb V fc)):=I;have al:v'.ownBlock=Value.ownBlock (.slice fb V fc)∨v'.ownBlock=some (U.alloc (.cells #[.string ya,.slice y0 y1 y2,.string yt,.slice u0 u1 u2,.int .i64 yl] 72)).heap.size:=T;clear I T
        obtain ⟨vg,vc,ax⟩:∃vg vc,v'=.slice (some ⟨vg,0,none⟩) (V+1) vc:=by
         rcases z.2 with ⟨_,h0⟩ | ⟨g',ai,_,h1,_⟩
         ·omega
         ·exact ⟨g',ai,h1⟩
        subst ax;have y:=z;rw [ao.out] at y
        have ae:Hid (QW r g w F res (w9.setCell ⟨P,1,none⟩ (.slice (some ⟨vg,0,none⟩) (V+1) vc))∧ZP r (w9.setCell ⟨P,1,none⟩ (.slice (some ⟨vg,0,none⟩) (V+1) vc))=am.length):=by
         rw [ao.out];exact QW.addF HP.out aw.out aa.out.1 aa.out.2 N (fun q hq=>⟨(D.out.f.block q hq).1,(D.out.f.block q hq).2⟩) (fun q hq=>(D.out.r.block q hq).2) H hr aP H7.out.1 H7.out.2.1 rfl af.out y G al av aH.out aK (by simp only [List.length_cons] at ar aL;omega)
        have p9:w9.heap[P]?=some (Ud (.slice rb Y rc) (.slice fb V fc)):=(G.block P (by have:=Z.out;simp;omega) (fun e=>by have:=(D.out.f.block P e.symm).1;have:=HP.out;omega)).trans ((Below.heap_alloc _ _ _ Z.out.2).trans au.out)
        obtain ⟨n0,n1,aj⟩:=ZA p9;have aX:=aj 1;clear z y G al p9 aj N H;refine J.out _ _ trivial ?_;clear J K;simp only [Act.put,List.setIfInBounds_toArray,List.set_cons_zero,List.set_cons_succ];refine yD (fuel:=1) (fuel':=2) (idx:=[7]) (by decide +kernel) rfl rfl rfl (fun _ _ _ _ _ h=>h) trivial ?_
        show wpQuiet _ _ _ _ [_] _
        iterate 1 (go_big_quiet_step (exact rfl))
        refine wpQuiet_nil ?_;refine Zk (fuel:=0) (fuel':=1) (i:=8) rfl (by decide +kernel) rfl rfl (by rfl) ?_
        intro K J;go_simp;refine J.out _ _ trivial ?_;clear J K;refine Yf (by decide +kernel) ?_
        go_wp2_with fail
        exact ⟨ae.out.1,by rw [ae.out.2,aq];simp only [List.length_cons];omega⟩
       ·intro K J
        go_simp;refine (CU.out _ (by rfl) (by rfl) (by rfl) (by rfl)).mono ?_
        rintro e U ⟨ya,y0,y1,y2,yt,u0,u1,u2,yl,rfl,H7⟩
        (try go_simp)
        refine J.out _ _ trivial ?_;clear J K;obtain ⟨bm,bk,-⟩:=ZA ((H7.out.1.block P Q.out.2.1 (by have:=Q.out;omega)).trans aa.out.2)
        have bw:=zl bm;have bB:=zl bk;refine Xm (fuel:=4) (fuel':=5) (i:=1) (k:=5) rfl rfl (by decide +kernel) rfl rfl rfl (by rfl) (by rfl) ?_ ?_
        ·intro K J
         go_simp;refine J.out _ _ trivial ?_;clear J K;refine Zk (fuel:=3) (fuel':=4) (i:=5) rfl (by decide +kernel) rfl rfl (by rfl) ?_
         intro K J;go_simp;refine J.out _ _ trivial ?_;clear J K;obtain ⟨L,ap,o7,R,O⟩:=H7.out;have af:Hid (zg r g o7 R am U):=O;have N:=D.out.kept L.size fun k hk hlt=>L.block k hlt (by have:=Q.out;omega)
         obtain ⟨ay,A,H⟩:=yK.more (Xa YP _) N.f;rw [←ao.out] at A;have ak:Hid (U.ownsRow (w.heap.size+2) 72 5 (.slice fb V fc) V ay.flatten):=A;have au:Hid (U.heap[P]?=some (Ud (.slice rb Y rc) (.slice fb V fc))):=(L.block P Q.out.2.1 (by have:=Q.out;omega)).trans aa.out.2
         have Z:Hid (w.heap.size+2≤U.heap.size∧P<U.heap.size):=by have:=Q.out;have:=L.size;exact ⟨by omega,by omega⟩
         have ah:Hid (V+1≤1099511627776):=show _≤_ by have:=an.out;have:=ao.out;simp only [List.length_cons] at ar;omega
         clear L ap O A;refine xg (fuel:=2) (fuel':=3) (i:=6) rfl (by decide +kernel) rfl rfl (by rfl) ?_
         intro K J;refine ym _ _ 23 rfl (by rfl) (w.heap.size+2) 72 iF _ 5 88 Tryz.underlying23 be aZ aY aT rfl (by decide) _ _ _ rfl (ak.out.alloc _) ⟨U.heap.size,0,none⟩ 1 1 [.string ya,.slice y0 y1 y2,.string yt,.slice u0 u1 u2,.int .i64 yl] rfl rfl (ZQ _ _ _) (by simp [Value.oneCell']) (by have:=ah.out;unfold maxLen;omega) (by have:=ah.out;omega) (by have:=Z.out;simp;omega) ?_
         intro v' w9 z I T;have G:(U.alloc (.cells #[.string ya,.slice y0 y1 y2,.string yt,.slice u0 u1 u2,.int .i64 yl] 72)).grownBy w9 (Value.ownBlock (.slice fb V fc)):=I;have al:v'.ownBlock=Value.ownBlock (.slice fb V fc)∨v'.ownBlock=some (U.alloc (.cells #[.string ya,.slice y0 y1 y2,.string yt,.slice u0 u1 u2,.int .i64 yl] 72)).heap.size:=T;clear I T
         obtain ⟨vg,vc,ax⟩:∃vg vc,v'=.slice (some ⟨vg,0,none⟩) (V+1) vc:=by
          rcases z.2 with ⟨_,h0⟩ | ⟨g',ai,_,h1,_⟩
          ·omega
          ·exact ⟨g',ai,h1⟩
         subst ax;have y:=z;rw [ao.out] at y
         have ae:Hid (QW r g w F res (w9.setCell ⟨P,1,none⟩ (.slice (some ⟨vg,0,none⟩) (V+1) vc))∧ZP r (w9.setCell ⟨P,1,none⟩ (.slice (some ⟨vg,0,none⟩) (V+1) vc))=am.length):=by
          rw [ao.out];exact QW.addF HP.out aw.out aa.out.1 aa.out.2 N (fun q hq=>⟨(D.out.f.block q hq).1,(D.out.f.block q hq).2⟩) (fun q hq=>(D.out.r.block q hq).2) H hr aP H7.out.1 H7.out.2.1 rfl af.out y G al av aH.out aK (by simp only [List.length_cons] at ar aL;omega)
         have p9:w9.heap[P]?=some (Ud (.slice rb Y rc) (.slice fb V fc)):=(G.block P (by have:=Z.out;simp;omega) (fun e=>by have:=(D.out.f.block P e.symm).1;have:=HP.out;omega)).trans ((Below.heap_alloc _ _ _ Z.out.2).trans au.out)
         obtain ⟨n0,n1,aj⟩:=ZA p9;have aX:=aj 1;clear z y G al p9 aj N H;refine J.out _ _ trivial ?_;clear J K;simp only [Act.put,List.setIfInBounds_toArray,List.set_cons_zero,List.set_cons_succ];refine yD (fuel:=1) (fuel':=2) (idx:=[7]) (by decide +kernel) rfl rfl rfl (fun _ _ _ _ _ h=>h) trivial ?_
         show wpQuiet _ _ _ _ [_] _
         iterate 1 (go_big_quiet_step (exact rfl))
         refine wpQuiet_nil ?_;refine Zk (fuel:=0) (fuel':=1) (i:=8) rfl (by decide +kernel) rfl rfl (by rfl) ?_
         intro K J;go_simp;refine J.out _ _ trivial ?_;clear J K;refine Yf (by decide +kernel) ?_
         go_wp2_with fail
         exact ⟨ae.out.1,by rw [ae.out.2,aq];simp only [List.length_cons];omega⟩
        ·intro K J
         go_simp;refine J.out _ _ trivial ?_;clear J K;refine Zk (fuel:=3) (fuel':=4) (i:=1) rfl (by decide +kernel) rfl rfl (by rfl) ?_
         intro K J;go_simp;refine J.out _ _ trivial ?_;clear J K;obtain ⟨L,ap,o7,R,O⟩:=H7.out;have af:Hid (zg r g o7 R am U):=O;have N:=D.out.kept L.size fun k hk hlt=>L.block k hlt (by have:=Q.out;omega)
         obtain ⟨ay,A,H⟩:=yK.more (Xa YP _) N.f;rw [←ao.out] at A;have ak:Hid (U.ownsRow (w.heap.size+2) 72 5 (.slice fb V fc) V ay.flatten):=A;have au:Hid (U.heap[P]?=some (Ud (.slice rb Y rc) (.slice fb V fc))):=(L.block P Q.out.2.1 (by have:=Q.out;omega)).trans aa.out.2
         have Z:Hid (w.heap.size+2≤U.heap.size∧P<U.heap.size):=by have:=Q.out;have:=L.size;exact ⟨by omega,by omega⟩
         have ah:Hid (V+1≤1099511627776):=show _≤_ by have:=an.out;have:=ao.out;simp only [List.length_cons] at ar;omega
         clear L ap O A;refine xg (fuel:=2) (fuel':=3) (i:=6) rfl (by decide +kernel) rfl rfl (by rfl) ?_
         intro K J;refine ym _ _ 23 rfl (by rfl) (w.heap.size+2) 72 iF _ 5 88 Tryz.underlying23 be aZ aY aT rfl (by decide) _ _ _ rfl (ak.out.alloc _) ⟨U.heap.size,0,none⟩ 1 1 [.string ya,.slice y0 y1 y2,.string yt,.slice u0 u1 u2,.int .i64 yl] rfl rfl (ZQ _ _ _) (by simp [Value.oneCell']) (by have:=ah.out;unfold maxLen;omega) (by have:=ah.out;omega) (by have:=Z.out;simp;omega) ?_
         intro v' w9 z I T;have G:(U.alloc (.cells #[.string ya,.slice y0 y1 y2,.string yt,.slice u0 u1 u2,.int .i64 yl] 72)).grownBy w9 (Value.ownBlock (.slice fb V fc)):=I;have al:v'.ownBlock=Value.ownBlock (.slice fb V fc)∨v'.ownBlock=some (U.alloc (.cells #[.string ya,.slice y0 y1 y2,.string yt,.slice u0 u1 u2,.int .i64 yl] 72)).heap.size:=T;clear I T
         obtain ⟨vg,vc,ax⟩:∃vg vc,v'=.slice (some ⟨vg,0,none⟩) (V+1) vc:=by
          rcases z.2 with ⟨_,h0⟩ | ⟨g',ai,_,h1,_⟩
          ·omega
          ·exact ⟨g',ai,h1⟩
         subst ax;have y:=z;rw [ao.out] at y
         have ae:Hid (QW r g w F res (w9.setCell ⟨P,1,none⟩ (.slice (some ⟨vg,0,none⟩) (V+1) vc))∧ZP r (w9.setCell ⟨P,1,none⟩ (.slice (some ⟨vg,0,none⟩) (V+1) vc))=am.length):=by
          rw [ao.out];exact QW.addF HP.out aw.out aa.out.1 aa.out.2 N (fun q hq=>⟨(D.out.f.block q hq).1,(D.out.f.block q hq).2⟩) (fun q hq=>(D.out.r.block q hq).2) H hr aP H7.out.1 H7.out.2.1 rfl af.out y G al av aH.out aK (by simp only [List.length_cons] at ar aL;omega)
         have p9:w9.heap[P]?=some (Ud (.slice rb Y rc) (.slice fb V fc)):=(G.block P (by have:=Z.out;simp;omega) (fun e=>by have:=(D.out.f.block P e.symm).1;have:=HP.out;omega)).trans ((Below.heap_alloc _ _ _ Z.out.2).trans au.out)
         obtain ⟨n0,n1,aj⟩:=ZA p9;have aX:=aj 1;clear z y G al p9 aj N H;refine J.out _ _ trivial ?_;clear J K;simp only [Act.put,List.setIfInBounds_toArray,List.set_cons_zero,List.set_cons_succ];refine yD (fuel:=1) (fuel':=2) (idx:=[7]) (by decide +kernel) rfl rfl rfl (fun _ _ _ _ _ h=>h) trivial ?_
         show wpQuiet _ _ _ _ [_] _
         iterate 1 (go_big_quiet_step (exact rfl))
         refine wpQuiet_nil ?_;refine Zk (fuel:=0) (fuel':=1) (i:=8) rfl (by decide +kernel) rfl rfl (by rfl) ?_
         intro K J;go_simp;refine J.out _ _ trivial ?_;clear J K;refine Yf (by decide +kernel) ?_
         go_wp2_with fail
         exact ⟨ae.out.1,by rw [ae.out.2,aq];simp only [List.length_cons];omega⟩
    ·have bG:zm t2 [102,110]=false:=by simpa using i2
     rw [bG] at c2;rw [if_neg i2] at hT;simp only [Option.some.injEq] at hT;subst hT;go_wp2_with fail
     refine c2.mono ?_;clear c2;rintro e we ⟨rfl,bu,he⟩;have a7:zg r g o2 ag (t2::ad) we:=by simpa using he
     have cg:=Ur r g o2 ag t2 ad we a7;have bI:Hid (zd r w we):=aG.out.trans (bd.out.trans bu);clear he a7 bu a5;go_wp2_with fail
     refine cg.mono ?_;clear cg;rintro e w' ⟨rfl,rfl⟩;exact ⟨rfl,bI.out.alloc _,rfl⟩
end Go.Proofs.YtpejpbbdgblbeaaGreatDoor
