import Derived.Test.YtcphojjpapgblaaGreatDoorMC25
namespace Go.Proofs.YtcphojjpapgblaaGreatDoor
open Go.RowKit Go.Shelf
set_option maxHeartbeats 16000000
set_option maxRecDepth 100000
theorem zcq {f line:Nat} {t1 t2:Tk} {us:List Tk} {R:PR Rc} (h:Zq f line (t1::t2::us)=some R):∃res,R=xO line t1 t2 res∧(t1.k=1→zm t2 [123]=true→zP f [] us=some res):=by
 unfold Zq Z6 zR at h
 simp only [zC,List.tail_cons] at h
 unfold xO
 by_cases h1:t1.k=1
 ·simp only [if_pos h1,zh,zC,List.tail_cons] at h
  by_cases h2:zm t2 [123]=true
  ·simp only [if_pos h2] at h
   cases h3:zP f [] us with
   | none=>rw [h3] at h;cases h
   | some r3 =>
    rw [h3] at h;refine ⟨r3,?_,fun _ _=>rfl⟩
    rw [if_pos h1,if_pos h2];rcases r3 with a | ⟨e,o⟩
    ·simp only [Option.some.injEq] at h
     exact h.symm
    ·simp only at h ⊢
     by_cases h4:zm (zu o) [125]=true
     ·simp only [if_pos h4,Option.some.injEq] at h ⊢
      exact h.symm
     ·simp only [if_neg h4,Option.some.injEq] at h ⊢
      exact h.symm
  ·simp only [if_neg h2,Option.some.injEq] at h
   refine ⟨.error 0,?_,fun _ h9=>absurd h9 h2⟩
   rw [if_pos h1,if_neg h2];exact h.symm
 ·simp only [if_neg h1,zh,Option.some.injEq] at h
  refine ⟨.error 0,?_,fun h9=>absurd h9 h1⟩
  rw [if_neg h1];exact h.symm
theorem zbf (r g o cap line:Nat) (t:Tk) (w:World) (h:zf r g o cap [t] w) (hk:t.k≠1):Calls Tryz.prog 51 #[.pointer (some ⟨r,0,none⟩),.int .i64 (line:Int)] w (XX r g w (.error t.at0)):=by
 obtain ⟨w0,y⟩:∃w0,w0=w.alloc rcZ:=⟨_,rfl⟩;have G:zf r g o cap [t] w0:=by rw [y];exact h.alloc _
 have H:zc r w w0:=by rw [y];exact (zc.refl r w).alloc _
 have A:=xu r g o cap t [] w0 G (fun h=>absurd h hk)
 have z:Hid (w0=w.alloc rcZ):=y;clear h G y;simp only [if_neg hk] at A
 go_enter Tryz.func51,Tryz.ntmps51
 go_wp2_with fail
 rw [←z.out];refine A.mono ?_;clear A;rintro e I ⟨D,rfl⟩;exact ⟨rfl,H.trans D,rfl⟩
theorem Q7 (r g o cap line F:Nat) (ts:List Tk) (w:World) (R:PR Rc) (h:zf r g o cap ts w) (hE:zi ts) (hp:Zq F line ts=some R)
  (hrow:∀w1 o1 cap1 ts1 r1,zP F [] ts1=some r1→zi ts1→zf r g o1 cap1 ts1 w1→zc r w w1→Calls Tryz.prog 94 #[.pointer (some ⟨r,0,none⟩),.func (.func 95) #[.pointer (some ⟨r,0,none⟩)] #[]] w1 (za5 r g w1 r1)) :
  Calls Tryz.prog 51 #[.pointer (some ⟨r,0,none⟩),.int .i64 (line:Int)] w (XX r g w R):=by
 obtain ⟨y,D,rfl⟩:=hE.cons;cases D with
 | nil =>
  have J:y.k=0:=hE
  have e:R=.error y.at0:=by
   simp only [Zq,Z6,zC,zh,if_neg (show ¬ y.k=1 by omega),Option.some.injEq] at hp
   exact hp.symm
  rw [e];exact zbf r g o cap line y w h (by omega)
 | cons t2 us2 =>
  obtain ⟨res,I,A⟩:=zcq hp;rw [I]
  by_cases hc:y.k=1∧zm t2 [123]=true
  ·have G:=A hc.1 hc.2
   have z:zi us2:=(hE.tail (by omega)).tail (zk hc.2)
   exact za6 r g o cap line y t2 us2 w res h hE (fun l us e=>by subst e;exact Yb G z) fun _ _ w3 o3 cap3 hR3 hK3=>hrow w3 o3 cap3 us2 res G z hR3 hK3
  ·have H:xO line y t2 res=xO line y t2 (.error 0):=by
    unfold xO
    by_cases h1:y.k=1
    ·rw [if_pos h1,if_pos h1,if_neg (fun h9=>hc ⟨h1,h9⟩),if_neg (fun h9=>hc ⟨h1,h9⟩)]
    ·rw [if_neg h1,if_neg h1]
   rw [H];exact za6 r g o cap line y t2 us2 w (.error 0) h hE (fun l us e=>by cases e) fun h1 h9=>absurd ⟨h1,h9⟩ hc
abbrev Ui (a b:Value):Obj:=.cells #[a,b] 25
abbrev Xq:Obj:=Ui (.slice none 0 0) (.slice none 0 0)
def zfo (r g:Nat) (w:World) (res:PR Pg) (e:Ending) (w':World):Prop :=
 zc r w w'∧match res with
  | .error a=>e=ZG a
  | .ok (x,ts)=>∃v o cap,e=.returned v∧Xl (fun k=>w.heap.size≤k) w' x v∧zf r g o cap ts w'
theorem Xl.agg {S:Nat→Prop} {w:World} {p:Pg} {v:Value} (h:Xl S w p v):∃(a0:Option Addr) (a1 a2:Nat) (b0:Option Addr) (b1 b2:Nat),v=.agg #[.slice a0 a1 a2,.slice b0 b1 b2]:=by
 obtain ⟨z,A,rfl,y,o⟩:=h;obtain ⟨b,c,rfl⟩:=y.slice;obtain ⟨G,D,rfl⟩:=o.slice;exact ⟨_,_,_,_,_,_,rfl⟩
theorem zbg:(Tryz.prog.info? 73).map (fun i=>(i.zero,i.size,i.bytes))=some (some (.agg #[.string ⟨#[]⟩,.slice none 0 0,.int .i64 0]),3,48):=by kernel_rfl
theorem zea:(Tryz.prog.info? 71).map (fun i=>(i.zero,i.size,i.bytes))=some (some (.agg #[.string ⟨#[]⟩,.slice none 0 0,.string ⟨#[]⟩,.slice none 0 0,.int .i64 0]),5,88):=by kernel_rfl
theorem X6 {f line:Nat} {ts us:List Tk} {x:Rc} (h:Zq f line ts=some (.ok (x,us))) (hE:zi ts):us.length<ts.length:=by
 have o:=hE.pos;obtain ⟨A,D,z,y⟩:=VJ line (n:=ts.length-1) ts (by omega) hE
 have a:=Vm (k:=A) h;have b:=z f;rw [Nat.add_comm] at a;have e:=Option.some.inj (a.symm.trans b)
 have:=(y x us e.symm).1
 omega
theorem zeb {f line:Nat} {ts us:List Tk} {x:Fc} (h:ZZ f line ts=some (.ok (x,us))) (hE:zi ts):us.length<ts.length:=by
 have o:=hE.pos;obtain ⟨A,D,z,y⟩:=UP line (n:=ts.length-1) ts (by omega) hE
 have a:=UO (k:=A) h;have b:=z f;rw [Nat.add_comm] at a;have e:=Option.some.inj (a.symm.trans b)
 have:=(y x us e.symm).1
 omega
structure Q8 (r g:Nat) (w:World) (F:Nat) (res:PR Pg) (wr:World):Prop where
 ex:∃(rs:List Rc) (fs:List Fc) (vr vf:Value) (o2 cap2:Nat) (ts2:List Tk) (f2:Nat),f2≤F∧Zp f2 rs fs ts2=some res∧zi ts2∧rs.length+fs.length+ts2.length≤1099511627776∧wr.heap[w.heap.size]?=some Xq∧wr.heap[w.heap.size+1]?=some (Ui vr vf)∧yX (w.heap.size+2) wr rs fs vr vf∧zf r g o2 cap2 ts2 wr∧zc r w wr
theorem Q8.addR {r g P o7 cap7 F f3:Nat} {w w6 w7 w9:World} {res:PR Pg} {rs:List Rc} {fs:List Fc} {vr vf v':Value} {x:Rc} {c:List Value} {us:List Tk} {ob:Obj} {lus:List (List Value)} (hP:P=w.heap.size+1) (hK6:zc r w w6) (b6:w6.heap[w.heap.size]?=some Xq) (p6:w6.heap[P]?=some (Ui vr vf)) (hpg7:yX (w.heap.size+2) w7 rs fs vr vf) (hbr:∀q,vr.ownBlock=some q→w.heap.size+2≤q∧q<w6.heap.size) (hbf:∀q,vf.ownBlock=some q→q<w6.heap.size)
  (hnext:∀{w':World} {v':Value} {x:Rc} {c:List Value} {ob:Obj} {N:Nat},EX RcE (fun k=>vf.ownBlock≠some k) (fun k=>N≤k) w7 x c→w.heap.size+2≤N→(∀q,vr.ownBlock=some q→q<N)→c.length=3→w'.ownsRow (w.heap.size+2) 73 3 v' (rs.length+1) (lus.flatten++c)→(w7.alloc ob).grownBy w' vr.ownBlock→(v'.ownBlock=vr.ownBlock∨v'.ownBlock=some (w7.alloc ob).heap.size)→yJ (EX RcE fun k=>vf.ownBlock≠some k) 3 73 (w.heap.size+2) w' (rs++[x]) v')
  (hr:r<w.heap.size) (hg:g<w.heap.size) (hk7:zc r w6 w7) (hx7:RcE (fun k=>w6.heap.size≤k) w7 x c) (hc:c.length=3) (hrd7:zf r g o7 cap7 us w7) (ho:w9.ownsRow (w.heap.size+2) 73 3 v' (rs.length+1) (lus.flatten++c)) (hgr:(w7.alloc ob).grownBy w9 vr.ownBlock) (hat:v'.ownBlock=vr.ownBlock∨v'.ownBlock=some (w7.alloc ob).heap.size)
  (hf3:f3≤F) (hp:Zp f3 (rs++[x]) fs us=some res) (hE:zi us) (hn:rs.length+1+fs.length+us.length≤1099511627776):Q8 r g w F res (w9.setCell ⟨P,0,none⟩ v')∧ZO r (w9.setCell ⟨P,0,none⟩ v')=us.length:=by
 subst hP;have G:=hk7.size;have A:w.heap.size+1<w6.heap.size:=(Array.getElem?_eq_some_iff.1 p6).1;have h:∀k,vr.ownBlock≠some k→k<w7.heap.size→w9.heap[k]?=w7.heap[k]?:=fun k hk hlt=>(hgr.block k (by simp;omega) (fun e=>hk e.symm)).trans (Below.heap_alloc _ _ _ hlt)
 have o:∀k,k<w.heap.size+2→vr.ownBlock≠some k:=fun k hk e=>by have:=(hbr k e).1;omega
 have D:w9.heap[w.heap.size+1]?=some (Ui vr vf):=(h _ (o _ (by omega)) (by omega)).trans ((hk7.block _ A (by omega)).trans p6)
 have H:zc r w w9:=((hK6.trans hk7).alloc ob).grown hgr fun k hk=>by have:=(hbr k hk).1;omega
 have y:zf r g o7 cap7 us (w9.setCell ⟨w.heap.size+1,0,none⟩ v'):=(hrd7.keep (h r (o r (by omega)) (by omega)) (h g (o g (by omega)) (by omega))).setP _ (by omega) (by omega)
 have z:yX (w.heap.size+2) w9 (rs++[x]) fs v' vf:=hpg7.addR hnext hx7 (by omega) (fun q hq=>(hbr q hq).2) hbf (fun q hq=>by have:=hbf q hq;omega) hc ho hgr hat
 refine ⟨⟨rs++[x],fs,v',vf,o7,cap7,us,f3,hf3,hp,hE,by simp only [List.length_append,List.length_cons,List.length_nil];omega,?_,zo _ D,z.kept (by simp) fun k hk _=>Below.heap_setCell _ _ _ _ (by simp;omega),y,H.setOther (by simp) _⟩,y.left⟩
 rw [Below.heap_setCell _ _ _ _ (by simp)]
 exact (h _ (o _ (by omega)) (by omega)).trans ((hk7.block _ (by omega) (by omega)).trans b6)
theorem Q8.addF {r g P o7 cap7 F f3:Nat} {w w6 w7 w9:World} {res:PR Pg} {rs:List Rc} {fs:List Fc} {vr vf v':Value} {x:Fc} {c:List Value} {us:List Tk} {ob:Obj} {lus:List (List Value)} (hP:P=w.heap.size+1) (hK6:zc r w w6) (b6:w6.heap[w.heap.size]?=some Xq) (p6:w6.heap[P]?=some (Ui vr vf)) (hpg7:yX (w.heap.size+2) w7 rs fs vr vf) (hbr:∀q,vf.ownBlock=some q→w.heap.size+2≤q∧q<w6.heap.size) (hbf:∀q,vr.ownBlock=some q→q<w6.heap.size)
  (hnext:∀{w':World} {v':Value} {x:Fc} {c:List Value} {ob:Obj} {N:Nat},EX FcE (fun k=>vr.ownBlock≠some k) (fun k=>N≤k) w7 x c→w.heap.size+2≤N→(∀q,vf.ownBlock=some q→q<N)→c.length=5→w'.ownsRow (w.heap.size+2) 71 5 v' (fs.length+1) (lus.flatten++c)→(w7.alloc ob).grownBy w' vf.ownBlock→(v'.ownBlock=vf.ownBlock∨v'.ownBlock=some (w7.alloc ob).heap.size)→yJ (EX FcE fun k=>vr.ownBlock≠some k) 5 71 (w.heap.size+2) w' (fs++[x]) v')
  (hr:r<w.heap.size) (hg:g<w.heap.size) (hk7:zc r w6 w7) (hx7:FcE (fun k=>w6.heap.size≤k) w7 x c) (hc:c.length=5) (hrd7:zf r g o7 cap7 us w7) (ho:w9.ownsRow (w.heap.size+2) 71 5 v' (fs.length+1) (lus.flatten++c)) (hgr:(w7.alloc ob).grownBy w9 vf.ownBlock) (hat:v'.ownBlock=vf.ownBlock∨v'.ownBlock=some (w7.alloc ob).heap.size)
  (hf3:f3≤F) (hp:Zp f3 rs (fs++[x]) us=some res) (hE:zi us) (hn:rs.length+(fs.length+1)+us.length≤1099511627776):Q8 r g w F res (w9.setCell ⟨P,1,none⟩ v')∧ZO r (w9.setCell ⟨P,1,none⟩ v')=us.length:=by
 subst hP;have G:=hk7.size;have A:w.heap.size+1<w6.heap.size:=(Array.getElem?_eq_some_iff.1 p6).1;have h:∀k,vf.ownBlock≠some k→k<w7.heap.size→w9.heap[k]?=w7.heap[k]?:=fun k hk hlt=>(hgr.block k (by simp;omega) (fun e=>hk e.symm)).trans (Below.heap_alloc _ _ _ hlt)
 have o:∀k,k<w.heap.size+2→vf.ownBlock≠some k:=fun k hk e=>by have:=(hbr k e).1;omega
 have D:w9.heap[w.heap.size+1]?=some (Ui vr vf):=(h _ (o _ (by omega)) (by omega)).trans ((hk7.block _ A (by omega)).trans p6)
 have H:zc r w w9:=((hK6.trans hk7).alloc ob).grown hgr fun k hk=>by have:=(hbr k hk).1;omega
 have y:zf r g o7 cap7 us (w9.setCell ⟨w.heap.size+1,1,none⟩ v'):=(hrd7.keep (h r (o r (by omega)) (by omega)) (h g (o g (by omega)) (by omega))).setP _ (by omega) (by omega)
 have z:yX (w.heap.size+2) w9 rs (fs++[x]) vr v':=hpg7.addF hnext hx7 (by omega) (fun q hq=>(hbr q hq).2) hbf (fun q hq=>by have:=hbf q hq;omega) hc ho hgr hat
 refine ⟨⟨rs,fs++[x],vr,v',o7,cap7,us,f3,hf3,hp,hE,by simp only [List.length_append,List.length_cons,List.length_nil];omega,?_,zo _ D,z.kept (by simp) fun k hk _=>Below.heap_setCell _ _ _ _ (by simp;omega),y,H.setOther (by simp) _⟩,y.left⟩
 rw [Below.heap_setCell _ _ _ _ (by simp)]
 exact (h _ (o _ (by omega)) (by omega)).trans ((hk7.block _ (by omega) (by omega)).trans b6)
theorem zec (r g o cap F:Nat) (ts:List Tk) (w:World) (res:PR Pg) (h:zf r g o cap ts w) (hE:zi ts) (hp:Zp F [] [] ts=some res)
  (hrec:∀w1 o1 cap1 ts1 r1 line,Zq F line ts1=some r1→zi ts1→zf r g o1 cap1 ts1 w1→zc r w w1→Calls Tryz.prog 51 #[.pointer (some ⟨r,0,none⟩),.int .i64 (line:Int)] w1 (XX r g w1 r1))
  (hfun:∀w1 o1 cap1 ts1 r1 line,ZZ F line ts1=some r1→zi ts1→zf r g o1 cap1 ts1 w1→zc r w w1→Calls Tryz.prog 52 #[.pointer (some ⟨r,0,none⟩),.int .i64 (line:Int)] w1 (UK r g w1 r1)) :
  Calls Tryz.prog 20 #[.pointer (some ⟨r,0,none⟩)] w (zfo r g w res):=by
 obtain ⟨iR,a9,aS,aV,aX⟩:=info_parts zbg;obtain ⟨iF,bg,aW,aQ,aU⟩:=info_parts zea;have hN:=h.few;obtain ⟨t0,bD,rfl⟩:=hE.cons;have hr:=h.lt.1;have aO:=h.lt.2;have bR:=v8;have bM:=Xu;obtain ⟨w1,aM⟩:∃w1,w1=(w.alloc Xq).alloc Xq:=⟨_,rfl⟩
 have bn:Q8 r g w F res w1:=by
  have hz:w1.heap.size=w.heap.size+2:=by rw [aM];simp
  refine ⟨[],[],_,_,o,cap,t0::bD,F,Nat.le_refl _,hp,hE,by simpa using hN,?_,?_,yX.nil _ _,by rw [aM];exact (h.alloc _).alloc _,by rw [aM];exact ((zc.refl r w).alloc _).alloc _⟩
  ·rw [aM,Below.heap_alloc _ _ _ (by simp)];exact World.alloc_heap_new _ _
  ·rw [aM]
   have:=World.alloc_heap_new (w.alloc Xq) Xq
   simpa using this
 have bq:Hid (Q8 r g w F res w1):=bn;have bs:Hid (w1=(w.alloc Xq).alloc Xq):=aM;obtain ⟨P,hP⟩:∃P,P=w.heap.size+1:=⟨_,rfl⟩;have HP:Hid (P=w.heap.size+1):=hP;have br:Hid (∀w1 o1 cap1 ts1 r1 line,Zq F line ts1=some r1→zi ts1→zf r g o1 cap1 ts1 w1→zc r w w1→Calls Tryz.prog 51 #[.pointer (some ⟨r,0,none⟩),.int .i64 (line:Int)] w1 (XX r g w1 r1)):=hrec;have bo:Hid (∀w1 o1 cap1 ts1 r1 line,ZZ F line ts1=some r1→zi ts1→zf r g o1 cap1 ts1 w1→zc r w w1→Calls Tryz.prog 52 #[.pointer (some ⟨r,0,none⟩),.int .i64 (line:Int)] w1 (UK r g w1 r1)):=hfun;clear h aM bn hrec hfun hN hp hE
 go_enter Tryz.func20,Tryz.ntmps20
 go_wp2_with fail
 rw [←bs.out,←HP.out];clear hP
 go_loopw [4] (fun _ wr=>Q8 r g w F res wr) (fun _ wr=>ZO r wr)
 case atStart=>exact bq.out
 case round =>
  clear bq bs;obtain ⟨rs,fs,vr,vf,o2,ah,bO,f2,bQ,hT,aY,aq,bN,bP,a1,aA,bu⟩:=hrel.ex;rw [←HP.out] at bP;obtain ⟨t2,ab,rfl⟩:=aY.cons;have ap:=aA.left;have aB:Hid (zc r w wr):=bu;have HB:Hid (wr.heap[w.heap.size]?=some Xq∧wr.heap[P]?=some (Ui vr vf)):=⟨bN,bP⟩;have aK:Hid (yX (w.heap.size+2) wr rs fs vr vf):=a1;obtain ⟨rb,rc,bC⟩:=a1.r.slice;obtain ⟨fb,fc,bG⟩:=a1.f.slice;subst bC bG;obtain ⟨V,bd⟩:∃V,V=rs.length:=⟨_,rfl⟩;obtain ⟨X,a8⟩:∃X,X=fs.length:=⟨_,rfl⟩;have am:Hid (V=rs.length):=bd;have an:Hid (X=fs.length):=a8;rw [←bd,←a8] at HB aK;have ch:=Z8 r g o2 ah t2 ab wr aA;obtain ⟨wa,a0⟩:∃wa,wa=wr.alloc (ZL t2):=⟨_,rfl⟩;rw [←a0] at ch;have aC:zf r g o2 ah (t2::ab) wa:=by rw [a0];exact aA.alloc _
  have aF:Hid (zc r wr wa):=by rw [a0];exact (zc.refl r wr).alloc _
  have bL:=aA.lt.1;cases f2 with
  | zero=>simp [Zp] at hT
  | succ f3 =>
  rw [Zp] at hT;simp only [zC,List.tail_cons] at hT;clear hrel bN bP a1 aA bu a0 bd a8
  by_cases h0:t2.k=0
  ·rw [if_pos h0] at hT
   simp only [Option.some.injEq] at hT;subst hT;have aP:=aB.out.size;have aG:=HP.out;have aD:w.heap.size<wr.heap.size:=(Array.getElem?_eq_some_iff.1 HB.out.1).1;have aE:P<wr.heap.size:=(Array.getElem?_eq_some_iff.1 HB.out.2).1;have ba:=(aF.out.block w.heap.size aD (by omega)).trans HB.out.1
   have pa:=(aF.out.block P aE (by omega)).trans HB.out.2
   have a5:=aK.out.kept aF.out.size fun k hk hlt=>aF.out.block k hlt (by omega)
   have ka:=aB.out.trans aF.out;obtain ⟨e0,e1,-⟩:=ZJ pa;obtain ⟨q0,q1,qf⟩:=ZJ ba;have bz:(((wa.setCell ⟨w.heap.size,0,none⟩ (.slice rb V rc)).setCell ⟨w.heap.size,1,none⟩ (.slice fb X fc))).heap[w.heap.size]?=some (Ui (.slice rb V rc) (.slice fb X fc)):=zo _ (zo _ ba);obtain ⟨z0,z1,-⟩:=ZJ bz;have aZ:∀k,k≠w.heap.size→((wa.setCell ⟨w.heap.size,0,none⟩ (.slice rb V rc)).setCell ⟨w.heap.size,1,none⟩ (.slice fb X fc)).heap[k]?=wa.heap[k]?:=fun k hk=>by rw [Below.heap_setCell _ _ _ _ (by simpa using hk),Below.heap_setCell _ _ _ _ (by simpa using hk)]
   have bK:Hid (zfo r g w (.ok (⟨rs,fs⟩,t2::ab)) (.returned (.agg #[.slice rb V rc,.slice fb X fc])) ((wa.setCell ⟨w.heap.size,0,none⟩ (.slice rb V rc)).setCell ⟨w.heap.size,1,none⟩ (.slice fb X fc))):=by
    refine ⟨(ka.setOther (p:=⟨w.heap.size,0,none⟩) (by simp) _).setOther (p:=⟨w.heap.size,1,none⟩) (by simp) _,_,_,_,rfl,?_,aC.keep (aZ r (by omega)) (aZ g (by omega))⟩
    exact (a5.pg.kept (by simp) fun k hk _=>aZ k (by omega)).wide fun k hk=>by omega
   have bh:((t2.k:Int)==0)=true:=by rw [h0];rfl
   have bH:((t2.k:Int) != 0)=false:=by rw [bne,bh];rfl
   clear ba pa a5 ka bz aZ aC HB aK aF aB aP aD aE h0 aG;go_wp2_with fail
   refine ch.mono ?_;clear ch;rintro e w' ⟨rfl,he⟩;obtain rfl:=he.symm;clear he;simp only [uJ];go_wp2
   exact bodyPost_ret (v:=.agg #[.slice rb V rc,.slice fb X fc]) (by simp [results,Tryz.results20,go_sem,z0,z1]) rfl bK.out
  ·rw [if_neg h0] at hT
   have bh:((t2.k:Int)==0)=false:=by rw [beq_eq_false_iff_ne];omega
   have bH:((t2.k:Int) != 0)=true:=by rw [bne,bh];rfl
   have bj:=Z8 r g o2 ah t2 ab wa aC;obtain ⟨wb,a2⟩:∃wb,wb=wa.alloc (ZL t2):=⟨_,rfl⟩;rw [←a2] at bj;have bB:zf r g o2 ah (t2::ab) wb:=by rw [a2];exact aC.alloc _
   have bm:Hid (zc r wr wb):=by rw [a2];exact aF.out.alloc _
   have c1:=Zy r g o2 ah t2 ab [114,101,99,111,114,100] wb bB (fun hi=>(aY.tail (zk hi)).ne)
   obtain ⟨LN,bb⟩:∃LN,LN=t2.line:=⟨_,rfl⟩;have bF:Hid (LN=t2.line):=bb;rw [←bb] at hT;clear a2 aC aF bb;go_wp2_with fail
   refine ch.mono ?_;clear ch;rintro e w' ⟨rfl,he⟩;obtain rfl:=he.symm;clear he;simp only [uJ];go_wp2_with fail
   refine bj.mono ?_;clear bj;rintro e w' ⟨rfl,he⟩;obtain rfl:=he.symm;clear he;simp only [uJ];rw [←bF.out]
   by_cases i1:zm t2 [114,101,99,111,114,100]=true
   ·rw [i1] at c1
    rw [if_pos i1] at hT;go_wp2_with fail
    refine c1.mono ?_;clear c1;rintro e w6 ⟨rfl,aN,h6⟩;have az:zf r g (o2+5) (ah-1) ab w6:=by simpa using h6
    have ar:Hid (zc r w w6):=aB.out.trans (bm.out.trans aN);have aa:zc r wr w6:=bm.out.trans aN;have aJ:=aY.tail (zk i1);have aP:=aB.out.size;have bi:=aa.size;have aG:=HP.out;have aD:w.heap.size<wr.heap.size:=(Array.getElem?_eq_some_iff.1 HB.out.1).1;have aE:P<wr.heap.size:=(Array.getElem?_eq_some_iff.1 HB.out.2).1;have Z:Hid (w6.heap[w.heap.size]?=some Xq∧w6.heap[P]?=some (Ui (.slice rb V rc) (.slice fb X fc))):=⟨(aa.block _ aD (by omega)).trans HB.out.1,(aa.block _ aE (by omega)).trans HB.out.2⟩
    have D:Hid (yX (w.heap.size+2) w6 rs fs (.slice rb V rc) (.slice fb X fc)):=aK.out.kept aa.size fun k hk hlt=>aa.block k hlt (by omega)
    have Q:Hid (P=w.heap.size+1∧P<w6.heap.size∧r<w.heap.size):=⟨aG,by omega,hr⟩
    cases hb3:Zq f3 LN ab with
    | none=>rw [hb3] at hT;cases hT
    | some r3 =>
     rw [hb3] at hT;have av:f3≤F:=by omega
     have ay:Zq F LN ab=some r3:=by
      have:=Vm (k:=F-f3) hb3
      rwa [show f3+(F-f3)=F by omega] at this
     have cb:∀W:World,W.heap=w6.heap→W.os=w6.os→W.tape=w6.tape→W.output=w6.output→Calls Tryz.prog 51 #[.pointer (some ⟨r,0,none⟩),.int .i64 (LN:Int)] W (XX r g w6 r3):=fun W e1 e2 e3 e4=>by
      have aR:zc r w6 W:=⟨e2,e3,e4,by rw [e1];exact Nat.le_refl _,fun k _ _=>by rw [e1]⟩
      refine (br.out W _ _ ab r3 LN ay aJ (az.keep (by rw [e1]) (by rw [e1])) (ar.out.trans aR)).mono fun e w' hh=>?_
      refine ⟨aR.trans hh.1,?_⟩;have h9:=hh.2;rw [e1] at h9;exact h9
     have CB:Hid (∀W:World,W.heap=w6.heap→W.os=w6.os→W.tape=w6.tape→W.output=w6.output→Calls Tryz.prog 51 #[.pointer (some ⟨r,0,none⟩),.int .i64 (LN:Int)] W (XX r g w6 r3)):=cb;obtain ⟨l0,l1,-⟩:=ZJ Z.out.2;clear cb az h6 aN aa aP bi aG aD aE HB aK;rcases r3 with a3 | ⟨x,ai⟩
     ·simp only [zh,Option.some.injEq] at hT
      subst hT;have bf:∀W:World,W.heap=w6.heap→W.os=w6.os→W.tape=w6.tape→W.output=w6.output→Calls Tryz.prog 51 #[.pointer (some ⟨r,0,none⟩),.int .i64 (LN:Int)] W fun e w'=>e=ZG a3∧zc r w w':=fun W e1 e2 e3 e4=>(CB.out W e1 e2 e3 e4).mono fun e w' h=>⟨h.2,ar.out.trans h.1⟩
      clear CB;go_wp2_with fail
      go_region_dies
      all_goals (go_wp2_with fail;refine (bf _ (by rfl) (by rfl) (by rfl) (by rfl)).mono ?_;rintro e w4 ⟨rfl,a7⟩;exact ⟨rfl,a7,rfl⟩)
     ·have aL:=Yx ay aJ
      have aI:=X6 ay aJ;have aH:Hid (Zp f3 (rs++[x]) fs ai=some res):=hT
      have CU:Hid (∀W:World,W.heap=w6.heap→W.os=w6.os→W.tape=w6.tape→W.output=w6.output→Calls Tryz.prog 51 #[.pointer (some ⟨r,0,none⟩),.int .i64 (LN:Int)] W fun e w'=>∃(ya:ByteArray) (y0:Option Addr) (y1 y2:Nat) (yl:Int),e=.returned (.agg #[.string ya,.slice y0 y1 y2,.int .i64 yl])∧Hid (zc r w6 w'∧RcE (fun k=>w6.heap.size≤k) w' x [.string ya,.slice y0 y1 y2,.int .i64 yl]∧∃o7 R,zf r g o7 R ai w')):=fun W e1 e2 e3 e4=>(CB.out W e1 e2 e3 e4).mono fun e w' h=>by
       obtain ⟨L,v,o7,R,rfl,ao,O⟩:=h;obtain ⟨y0,y1,y2,rfl⟩:=ao.slice;exact ⟨_,y0,y1,y2,_,rfl,L,⟨_,rfl,ao.toG⟩,o7,R,O⟩
      clear CB hT hb3 ay;go_wp2_with fail
      refine vC (n:=9) (S:=fun _=>True) (by kernel_rfl) rfl rfl ?_
      refine yA (fuel:=6) (fuel':=9) (idx:=[0,2,3]) (by decide +kernel) rfl rfl rfl (fun _ _ _ _ _ h=>h) trivial ?_
      show wpQuiet _ _ _ _ [_,_,_] _
      iterate 3 (go_big_quiet_step (exact rfl))
      refine wpQuiet_nil ?_;refine Xh (fuel:=5) (fuel':=6) (i:=1) (k:=4) rfl rfl (by decide +kernel) rfl rfl rfl (by rfl) (by rfl) ?_ ?_
      ·intro K J
       go_simp;refine J.out _ _ trivial ?_;clear J K;refine Zi (fuel:=4) (fuel':=5) (i:=4) rfl (by decide +kernel) rfl rfl (by rfl) ?_
       intro K J;go_simp;refine (CU.out _ (by rfl) (by rfl) (by rfl) (by rfl)).mono ?_
       rintro e U ⟨ya,y0,y1,y2,yl,rfl,H7⟩
       (try go_simp)
       refine J.out _ _ trivial ?_;clear J K;refine Zi (fuel:=3) (fuel':=4) (i:=5) rfl (by decide +kernel) rfl rfl (by rfl) ?_
       intro K J;go_simp;refine J.out _ _ trivial ?_;clear J K;obtain ⟨L,ao,o7,R,O⟩:=H7.out;have ag:Hid (zf r g o7 R ai U):=O;have N:=D.out.kept L.size fun k hk hlt=>L.block k hlt (by have:=Q.out;omega)
       obtain ⟨ax,G,H⟩:=yJ.more (x9 YR _) N.r;rw [←am.out] at G;have aj:Hid (U.ownsRow (w.heap.size+2) 73 3 (.slice rb V rc) V ax.flatten):=G;have au:Hid (U.heap[P]?=some (Ui (.slice rb V rc) (.slice fb X fc))):=(L.block P Q.out.2.1 (by have:=Q.out;omega)).trans Z.out.2
       have Y:Hid (w.heap.size+2≤U.heap.size∧P<U.heap.size):=by have:=Q.out;have:=L.size;exact ⟨by omega,by omega⟩
       have af:Hid (V+1≤1099511627776):=show _≤_ by have:=am.out;have:=an.out;simp only [List.length_cons] at aq;omega
       clear L ao O G;refine xe (fuel:=2) (fuel':=3) (i:=6) rfl (by decide +kernel) rfl rfl (by rfl) ?_
       intro K J;refine ye _ _ 22 rfl (by rfl) (w.heap.size+2) 73 iR _ 3 48 Tryz.underlying22 a9 aS aV aX rfl (by decide) _ _ _ rfl (aj.out.alloc _) ⟨U.heap.size,0,none⟩ 1 1 [.string ya,.slice y0 y1 y2,.int .i64 yl] rfl rfl (ZP _ _ _) (by simp [Value.oneCell']) (by have:=af.out;unfold maxLen;omega) (by have:=af.out;omega) (by have:=Y.out;simp;omega) ?_
       intro v' w9 z I T;have A:(U.alloc (.cells #[.string ya,.slice y0 y1 y2,.int .i64 yl] 73)).grownBy w9 (Value.ownBlock (.slice rb V rc)):=I;have al:v'.ownBlock=Value.ownBlock (.slice rb V rc)∨v'.ownBlock=some (U.alloc (.cells #[.string ya,.slice y0 y1 y2,.int .i64 yl] 73)).heap.size:=T;clear I T
       obtain ⟨vg,vc,aw⟩:∃vg vc,v'=.slice (some ⟨vg,0,none⟩) (V+1) vc:=by
        rcases z.2 with ⟨_,h0⟩ | ⟨g',ae,_,h1,_⟩
        ·omega
        ·exact ⟨g',ae,h1⟩
       subst aw;have y:=z;rw [am.out] at y
       have ad:Hid (Q8 r g w F res (w9.setCell ⟨P,0,none⟩ (.slice (some ⟨vg,0,none⟩) (V+1) vc))∧ZO r (w9.setCell ⟨P,0,none⟩ (.slice (some ⟨vg,0,none⟩) (V+1) vc))=ai.length):=by
        rw [am.out];exact Q8.addR HP.out ar.out Z.out.1 Z.out.2 N (fun q hq=>⟨(D.out.r.block q hq).1,(D.out.r.block q hq).2⟩) (fun q hq=>(D.out.f.block q hq).2) H hr aO H7.out.1 H7.out.2.1 rfl ag.out y A al av aH.out aL (by simp only [List.length_cons] at aq aI;omega)
       have p9:w9.heap[P]?=some (Ui (.slice rb V rc) (.slice fb X fc)):=(A.block P (by have:=Y.out;simp;omega) (fun e=>by have:=(D.out.r.block P e.symm).1;have:=HP.out;omega)).trans ((Below.heap_alloc _ _ _ Y.out.2).trans au.out)
       obtain ⟨n0,n1,ak⟩:=ZJ p9;have aT:=ak 0;clear z y A al p9 ak N H;refine J.out _ _ trivial ?_;clear J K;simp only [Act.put,List.setIfInBounds_toArray,List.set_cons_zero,List.set_cons_succ];refine yA (fuel:=1) (fuel':=2) (idx:=[7]) (by decide +kernel) rfl rfl rfl (fun _ _ _ _ _ h=>h) trivial ?_
       show wpQuiet _ _ _ _ [_] _
       iterate 1 (go_big_quiet_step (exact rfl))
       refine wpQuiet_nil ?_;refine Zi (fuel:=0) (fuel':=1) (i:=8) rfl (by decide +kernel) rfl rfl (by rfl) ?_
       intro K J;go_simp;refine J.out _ _ trivial ?_;clear J K;refine Yg (by decide +kernel) ?_
       go_wp2_with fail
       exact ⟨ad.out.1,by rw [ad.out.2,ap];simp only [List.length_cons];omega⟩
      ·intro K J
       go_simp;refine (CU.out _ (by rfl) (by rfl) (by rfl) (by rfl)).mono ?_
       rintro e U ⟨ya,y0,y1,y2,yl,rfl,H7⟩
       (try go_simp)
       refine J.out _ _ trivial ?_;clear J K;obtain ⟨bk,bc,-⟩:=ZJ ((H7.out.1.block P Q.out.2.1 (by have:=Q.out;omega)).trans Z.out.2)
       have bp:=zl bk;have bw:=zl bc;refine Xh (fuel:=4) (fuel':=5) (i:=1) (k:=5) rfl rfl (by decide +kernel) rfl rfl rfl (by rfl) (by rfl) ?_ ?_
       ·intro K J
        go_simp;refine J.out _ _ trivial ?_;clear J K;refine Zi (fuel:=3) (fuel':=4) (i:=5) rfl (by decide +kernel) rfl rfl (by rfl) ?_
        intro K J;go_simp;refine J.out _ _ trivial ?_;clear J K;obtain ⟨L,ao,o7,R,O⟩:=H7.out;have ag:Hid (zf r g o7 R ai U):=O;have N:=D.out.kept L.size fun k hk hlt=>L.block k hlt (by have:=Q.out;omega)
        obtain ⟨ax,G,H⟩:=yJ.more (x9 YR _) N.r;rw [←am.out] at G;have aj:Hid (U.ownsRow (w.heap.size+2) 73 3 (.slice rb V rc) V ax.flatten):=G;have au:Hid (U.heap[P]?=some (Ui (.slice rb V rc) (.slice fb X fc))):=(L.block P Q.out.2.1 (by have:=Q.out;omega)).trans Z.out.2
        have Y:Hid (w.heap.size+2≤U.heap.size∧P<U.heap.size):=by have:=Q.out;have:=L.size;exact ⟨by omega,by omega⟩
        have af:Hid (V+1≤1099511627776):=show _≤_ by have:=am.out;have:=an.out;simp only [List.length_cons] at aq;omega
        clear L ao O G;refine xe (fuel:=2) (fuel':=3) (i:=6) rfl (by decide +kernel) rfl rfl (by rfl) ?_
        intro K J;refine ye _ _ 22 rfl (by rfl) (w.heap.size+2) 73 iR _ 3 48 Tryz.underlying22 a9 aS aV aX rfl (by decide) _ _ _ rfl (aj.out.alloc _) ⟨U.heap.size,0,none⟩ 1 1 [.string ya,.slice y0 y1 y2,.int .i64 yl] rfl rfl (ZP _ _ _) (by simp [Value.oneCell']) (by have:=af.out;unfold maxLen;omega) (by have:=af.out;omega) (by have:=Y.out;simp;omega) ?_
        intro v' w9 z I T;have A:(U.alloc (.cells #[.string ya,.slice y0 y1 y2,.int .i64 yl] 73)).grownBy w9 (Value.ownBlock (.slice rb V rc)):=I;have al:v'.ownBlock=Value.ownBlock (.slice rb V rc)∨v'.ownBlock=some (U.alloc (.cells #[.string ya,.slice y0 y1 y2,.int .i64 yl] 73)).heap.size:=T;clear I T
        obtain ⟨vg,vc,aw⟩:∃vg vc,v'=.slice (some ⟨vg,0,none⟩) (V+1) vc:=by
         rcases z.2 with ⟨_,h0⟩ | ⟨g',ae,_,h1,_⟩
         ·omega
         ·exact ⟨g',ae,h1⟩
        subst aw;have y:=z;rw [am.out] at y
        have ad:Hid (Q8 r g w F res (w9.setCell ⟨P,0,none⟩ (.slice (some ⟨vg,0,none⟩) (V+1) vc))∧ZO r (w9.setCell ⟨P,0,none⟩ (.slice (some ⟨vg,0,none⟩) (V+1) vc))=ai.length):=by
         rw [am.out];exact Q8.addR HP.out ar.out Z.out.1 Z.out.2 N (fun q hq=>⟨(D.out.r.block q hq).1,(D.out.r.block q hq).2⟩) (fun q hq=>(D.out.f.block q hq).2) H hr aO H7.out.1 H7.out.2.1 rfl ag.out y A al av aH.out aL (by simp only [List.length_cons] at aq aI;omega)
        have p9:w9.heap[P]?=some (Ui (.slice rb V rc) (.slice fb X fc)):=(A.block P (by have:=Y.out;simp;omega) (fun e=>by have:=(D.out.r.block P e.symm).1;have:=HP.out;omega)).trans ((Below.heap_alloc _ _ _ Y.out.2).trans au.out)
        obtain ⟨n0,n1,ak⟩:=ZJ p9;have aT:=ak 0;clear z y A al p9 ak N H;refine J.out _ _ trivial ?_;clear J K;simp only [Act.put,List.setIfInBounds_toArray,List.set_cons_zero,List.set_cons_succ];refine yA (fuel:=1) (fuel':=2) (idx:=[7]) (by decide +kernel) rfl rfl rfl (fun _ _ _ _ _ h=>h) trivial ?_
        show wpQuiet _ _ _ _ [_] _
        iterate 1 (go_big_quiet_step (exact rfl))
        refine wpQuiet_nil ?_;refine Zi (fuel:=0) (fuel':=1) (i:=8) rfl (by decide +kernel) rfl rfl (by rfl) ?_
        intro K J;go_simp;refine J.out _ _ trivial ?_;clear J K;refine Yg (by decide +kernel) ?_
        go_wp2_with fail
        exact ⟨ad.out.1,by rw [ad.out.2,ap];simp only [List.length_cons];omega⟩
       ·intro K J
        go_simp;refine J.out _ _ trivial ?_;clear J K;refine Zi (fuel:=3) (fuel':=4) (i:=1) rfl (by decide +kernel) rfl rfl (by rfl) ?_
        intro K J;go_simp;refine J.out _ _ trivial ?_;clear J K;obtain ⟨L,ao,o7,R,O⟩:=H7.out;have ag:Hid (zf r g o7 R ai U):=O;have N:=D.out.kept L.size fun k hk hlt=>L.block k hlt (by have:=Q.out;omega)
        obtain ⟨ax,G,H⟩:=yJ.more (x9 YR _) N.r;rw [←am.out] at G;have aj:Hid (U.ownsRow (w.heap.size+2) 73 3 (.slice rb V rc) V ax.flatten):=G;have au:Hid (U.heap[P]?=some (Ui (.slice rb V rc) (.slice fb X fc))):=(L.block P Q.out.2.1 (by have:=Q.out;omega)).trans Z.out.2
        have Y:Hid (w.heap.size+2≤U.heap.size∧P<U.heap.size):=by have:=Q.out;have:=L.size;exact ⟨by omega,by omega⟩
        have af:Hid (V+1≤1099511627776):=show _≤_ by have:=am.out;have:=an.out;simp only [List.length_cons] at aq;omega
        clear L ao O G;refine xe (fuel:=2) (fuel':=3) (i:=6) rfl (by decide +kernel) rfl rfl (by rfl) ?_
        intro K J;refine ye _ _ 22 rfl (by rfl) (w.heap.size+2) 73 iR _ 3 48 Tryz.underlying22 a9 aS aV aX rfl (by decide) _ _ _ rfl (aj.out.alloc _) ⟨U.heap.size,0,none⟩ 1 1 [.string ya,.slice y0 y1 y2,.int .i64 yl] rfl rfl (ZP _ _ _) (by simp [Value.oneCell']) (by have:=af.out;unfold maxLen;omega) (by have:=af.out;omega) (by have:=Y.out;simp;omega) ?_
        intro v' w9 z I T;have A:(U.alloc (.cells #[.string ya,.slice y0 y1 y2,.int .i64 yl] 73)).grownBy w9 (Value.ownBlock (.slice rb V rc)):=I;have al:v'.ownBlock=Value.ownBlock (.slice rb V rc)∨v'.ownBlock=some (U.alloc (.cells #[.string ya,.slice y0 y1 y2,.int .i64 yl] 73)).heap.size:=T;clear I T
        obtain ⟨vg,vc,aw⟩:∃vg vc,v'=.slice (some ⟨vg,0,none⟩) (V+1) vc:=by
         rcases z.2 with ⟨_,h0⟩ | ⟨g',ae,_,h1,_⟩
         ·omega
         ·exact ⟨g',ae,h1⟩
        subst aw;have y:=z;rw [am.out] at y
        have ad:Hid (Q8 r g w F res (w9.setCell ⟨P,0,none⟩ (.slice (some ⟨vg,0,none⟩) (V+1) vc))∧ZO r (w9.setCell ⟨P,0,none⟩ (.slice (some ⟨vg,0,none⟩) (V+1) vc))=ai.length):=by
         rw [am.out];exact Q8.addR HP.out ar.out Z.out.1 Z.out.2 N (fun q hq=>⟨(D.out.r.block q hq).1,(D.out.r.block q hq).2⟩) (fun q hq=>(D.out.f.block q hq).2) H hr aO H7.out.1 H7.out.2.1 rfl ag.out y A al av aH.out aL (by simp only [List.length_cons] at aq aI;omega)
        have p9:w9.heap[P]?=some (Ui (.slice rb V rc) (.slice fb X fc)):=(A.block P (by have:=Y.out;simp;omega) (fun e=>by have:=(D.out.r.block P e.symm).1;have:=HP.out;omega)).trans ((Below.heap_alloc _ _ _ Y.out.2).trans au.out)
        obtain ⟨n0,n1,ak⟩:=ZJ p9;have aT:=ak 0;clear z y A al p9 ak N H;refine J.out _ _ trivial ?_;clear J K;simp only [Act.put,List.setIfInBounds_toArray,List.set_cons_zero,List.set_cons_succ];refine yA (fuel:=1) (fuel':=2) (idx:=[7]) (by decide +kernel) rfl rfl rfl (fun _ _ _ _ _ h=>h) trivial ?_
        show wpQuiet _ _ _ _ [_] _
        iterate 1 (go_big_quiet_step (exact rfl))
        refine wpQuiet_nil ?_;refine Zi (fuel:=0) (fuel':=1) (i:=8) rfl (by decide +kernel) rfl rfl (by rfl) ?_
        intro K J;go_simp;refine J.out _ _ trivial ?_;clear J K;refine Yg (by decide +kernel) ?_
        go_wp2_with fail
        exact ⟨ad.out.1,by rw [ad.out.2,ap];simp only [List.length_cons];omega⟩
   ·have bI:zm t2 [114,101,99,111,114,100]=false:=by simpa using i1
    rw [bI] at c1;rw [if_neg i1] at hT;go_wp2_with fail
    refine c1.mono ?_;clear c1;rintro e wd ⟨rfl,bx,hd⟩;have a6:zf r g o2 ah (t2::ab) wd:=by simpa using hd
    have be:Hid (zc r wr wd):=bm.out.trans bx;have c2:=Zy r g o2 ah t2 ab [102,110] wd a6 (fun hi=>(aY.tail (zk hi)).ne)
    clear hd bx
    by_cases i2:zm t2 [102,110]=true
    ·rw [i2] at c2
     rw [if_pos i2] at hT;go_wp2_with fail
     refine c2.mono ?_;clear c2;rintro e w6 ⟨rfl,aN,h6⟩;have az:zf r g (o2+5) (ah-1) ab w6:=by simpa using h6
     have ar:Hid (zc r w w6):=aB.out.trans (be.out.trans aN);have aa:zc r wr w6:=be.out.trans aN;have aJ:=aY.tail (zk i2);have aP:=aB.out.size;have bi:=aa.size;have aG:=HP.out;have aD:w.heap.size<wr.heap.size:=(Array.getElem?_eq_some_iff.1 HB.out.1).1;have aE:P<wr.heap.size:=(Array.getElem?_eq_some_iff.1 HB.out.2).1;have Z:Hid (w6.heap[w.heap.size]?=some Xq∧w6.heap[P]?=some (Ui (.slice rb V rc) (.slice fb X fc))):=⟨(aa.block _ aD (by omega)).trans HB.out.1,(aa.block _ aE (by omega)).trans HB.out.2⟩
     have D:Hid (yX (w.heap.size+2) w6 rs fs (.slice rb V rc) (.slice fb X fc)):=aK.out.kept aa.size fun k hk hlt=>aa.block k hlt (by omega)
     have Q:Hid (P=w.heap.size+1∧P<w6.heap.size∧r<w.heap.size):=⟨aG,by omega,hr⟩
     cases hb3:ZZ f3 LN ab with
     | none=>rw [hb3] at hT;cases hT
     | some r3 =>
      rw [hb3] at hT;have av:f3≤F:=by omega
      have ay:ZZ F LN ab=some r3:=by
       have:=UO (k:=F-f3) hb3
       rwa [show f3+(F-f3)=F by omega] at this
      have cb:∀W:World,W.heap=w6.heap→W.os=w6.os→W.tape=w6.tape→W.output=w6.output→Calls Tryz.prog 52 #[.pointer (some ⟨r,0,none⟩),.int .i64 (LN:Int)] W (UK r g w6 r3):=fun W e1 e2 e3 e4=>by
       have aR:zc r w6 W:=⟨e2,e3,e4,by rw [e1];exact Nat.le_refl _,fun k _ _=>by rw [e1]⟩
       refine (bo.out W _ _ ab r3 LN ay aJ (az.keep (by rw [e1]) (by rw [e1])) (ar.out.trans aR)).mono fun e w' hh=>?_
       refine ⟨aR.trans hh.1,?_⟩;have h9:=hh.2;rw [e1] at h9;exact h9
      have CB:Hid (∀W:World,W.heap=w6.heap→W.os=w6.os→W.tape=w6.tape→W.output=w6.output→Calls Tryz.prog 52 #[.pointer (some ⟨r,0,none⟩),.int .i64 (LN:Int)] W (UK r g w6 r3)):=cb;obtain ⟨l0,l1,-⟩:=ZJ Z.out.2;clear cb az h6 aN aa aP bi aG aD aE HB aK;rcases r3 with a3 | ⟨x,ai⟩
      ·simp only [zh,Option.some.injEq] at hT
       subst hT;have bf:∀W:World,W.heap=w6.heap→W.os=w6.os→W.tape=w6.tape→W.output=w6.output→Calls Tryz.prog 52 #[.pointer (some ⟨r,0,none⟩),.int .i64 (LN:Int)] W fun e w'=>e=ZG a3∧zc r w w':=fun W e1 e2 e3 e4=>(CB.out W e1 e2 e3 e4).mono fun e w' h=>⟨h.2,ar.out.trans h.1⟩
       clear CB;go_wp2_with fail
       go_region_dies
       all_goals (go_wp2_with fail;refine (bf _ (by rfl) (by rfl) (by rfl) (by rfl)).mono ?_;rintro e w4 ⟨rfl,a7⟩;exact ⟨rfl,a7,rfl⟩)
      ·have aL:=xy ay aJ
       have aI:=zeb ay aJ;have aH:Hid (Zp f3 rs (fs++[x]) ai=some res):=hT
       have CU:Hid (∀W:World,W.heap=w6.heap→W.os=w6.os→W.tape=w6.tape→W.output=w6.output→Calls Tryz.prog 52 #[.pointer (some ⟨r,0,none⟩),.int .i64 (LN:Int)] W fun e w'=>∃(ya:ByteArray) (y0:Option Addr) (y1 y2:Nat) (yt:ByteArray) (u0:Option Addr) (u1 u2:Nat) (yl:Int),e=.returned (.agg #[.string ya,.slice y0 y1 y2,.string yt,.slice u0 u1 u2,.int .i64 yl])∧Hid (zc r w6 w'∧FcE (fun k=>w6.heap.size≤k) w' x [.string ya,.slice y0 y1 y2,.string yt,.slice u0 u1 u2,.int .i64 yl]∧∃o7 R,zf r g o7 R ai w')):=fun W e1 e2 e3 e4=>(CB.out W e1 e2 e3 e4).mono fun e w' h=>by
        obtain ⟨L,v,o7,R,rfl,⟨vp,vb,rfl,bA,bv⟩,O⟩:=h;obtain ⟨y0,y1,y2,rfl⟩:=bA.slice;obtain ⟨u0,u1,u2,rfl⟩:=bv.slice;exact ⟨_,y0,y1,y2,_,u0,u1,u2,_,rfl,L,⟨_,_,rfl,bA.toG,bv⟩,o7,R,O⟩
       clear CB hT hb3 ay;go_wp2_with fail
       refine vC (n:=9) (S:=fun _=>True) (by kernel_rfl) rfl rfl ?_
       refine yA (fuel:=6) (fuel':=9) (idx:=[0,2,3]) (by decide +kernel) rfl rfl rfl (fun _ _ _ _ _ h=>h) trivial ?_
       show wpQuiet _ _ _ _ [_,_,_] _
       iterate 3 (go_big_quiet_step (exact rfl))
       refine wpQuiet_nil ?_;refine Xh (fuel:=5) (fuel':=6) (i:=1) (k:=4) rfl rfl (by decide +kernel) rfl rfl rfl (by rfl) (by rfl) ?_ ?_
       ·intro K J
        go_simp;refine J.out _ _ trivial ?_;clear J K;refine Zi (fuel:=4) (fuel':=5) (i:=4) rfl (by decide +kernel) rfl rfl (by rfl) ?_
        intro K J;go_simp;refine (CU.out _ (by rfl) (by rfl) (by rfl) (by rfl)).mono ?_
        rintro e U ⟨ya,y0,y1,y2,yt,u0,u1,u2,yl,rfl,H7⟩
        (try go_simp)
        refine J.out _ _ trivial ?_;clear J K;refine Zi (fuel:=3) (fuel':=4) (i:=5) rfl (by decide +kernel) rfl rfl (by rfl) ?_
        intro K J;go_simp;refine J.out _ _ trivial ?_;clear J K;obtain ⟨L,ao,o7,R,O⟩:=H7.out;have ag:Hid (zf r g o7 R ai U):=O;have N:=D.out.kept L.size fun k hk hlt=>L.block k hlt (by have:=Q.out;omega)
        obtain ⟨ax,G,H⟩:=yJ.more (x9 YS _) N.f;rw [←an.out] at G;have aj:Hid (U.ownsRow (w.heap.size+2) 71 5 (.slice fb X fc) X ax.flatten):=G;have au:Hid (U.heap[P]?=some (Ui (.slice rb V rc) (.slice fb X fc))):=(L.block P Q.out.2.1 (by have:=Q.out;omega)).trans Z.out.2
        have Y:Hid (w.heap.size+2≤U.heap.size∧P<U.heap.size):=by have:=Q.out;have:=L.size;exact ⟨by omega,by omega⟩
        have af:Hid (X+1≤1099511627776):=show _≤_ by have:=am.out;have:=an.out;simp only [List.length_cons] at aq;omega
        clear L ao O G;refine xe (fuel:=2) (fuel':=3) (i:=6) rfl (by decide +kernel) rfl rfl (by rfl) ?_
        intro K J;refine ye _ _ 23 rfl (by rfl) (w.heap.size+2) 71 iF _ 5 88 Tryz.underlying23 bg aW aQ aU rfl (by decide) _ _ _ rfl (aj.out.alloc _) ⟨U.heap.size,0,none⟩ 1 1 [.string ya,.slice y0 y1 y2,.string yt,.slice u0 u1 u2,.int .i64 yl] rfl rfl (ZP _ _ _) (by simp [Value.oneCell']) (by have:=af.out;unfold maxLen;omega) (by have:=af.out;omega) (by have:=Y.out;simp;omega) ?_
        intro v' w9 z I T;have A:(U.alloc (.cells #[.string ya,.slice y0 y1 y2,.string yt,.slice u0 u1 u2,.int .i64 yl] 71)).grownBy w9 (Value.ownBlock (.slice fb X fc)):=I;have al:v'.ownBlock=Value.ownBlock (.slice fb X fc)∨v'.ownBlock=some (U.alloc (.cells #[.string ya,.slice y0 y1 y2,.string yt,.slice u0 u1 u2,.int .i64 yl] 71)).heap.size:=T;clear I T
        obtain ⟨vg,vc,aw⟩:∃vg vc,v'=.slice (some ⟨vg,0,none⟩) (X+1) vc:=by
         rcases z.2 with ⟨_,h0⟩ | ⟨g',ae,_,h1,_⟩
         ·omega
         ·exact ⟨g',ae,h1⟩
        subst aw;have y:=z;rw [an.out] at y
        have ad:Hid (Q8 r g w F res (w9.setCell ⟨P,1,none⟩ (.slice (some ⟨vg,0,none⟩) (X+1) vc))∧ZO r (w9.setCell ⟨P,1,none⟩ (.slice (some ⟨vg,0,none⟩) (X+1) vc))=ai.length):=by
         rw [an.out];exact Q8.addF HP.out ar.out Z.out.1 Z.out.2 N (fun q hq=>⟨(D.out.f.block q hq).1,(D.out.f.block q hq).2⟩) (fun q hq=>(D.out.r.block q hq).2) H hr aO H7.out.1 H7.out.2.1 rfl ag.out y A al av aH.out aL (by simp only [List.length_cons] at aq aI;omega)
        have p9:w9.heap[P]?=some (Ui (.slice rb V rc) (.slice fb X fc)):=(A.block P (by have:=Y.out;simp;omega) (fun e=>by have:=(D.out.f.block P e.symm).1;have:=HP.out;omega)).trans ((Below.heap_alloc _ _ _ Y.out.2).trans au.out)
        obtain ⟨n0,n1,ak⟩:=ZJ p9;have aT:=ak 1;clear z y A al p9 ak N H;refine J.out _ _ trivial ?_;clear J K;simp only [Act.put,List.setIfInBounds_toArray,List.set_cons_zero,List.set_cons_succ];refine yA (fuel:=1) (fuel':=2) (idx:=[7]) (by decide +kernel) rfl rfl rfl (fun _ _ _ _ _ h=>h) trivial ?_
        show wpQuiet _ _ _ _ [_] _
        iterate 1 (go_big_quiet_step (exact rfl))
        refine wpQuiet_nil ?_;refine Zi (fuel:=0) (fuel':=1) (i:=8) rfl (by decide +kernel) rfl rfl (by rfl) ?_
        intro K J;go_simp;refine J.out _ _ trivial ?_;clear J K;refine Yg (by decide +kernel) ?_
        go_wp2_with fail
        exact ⟨ad.out.1,by rw [ad.out.2,ap];simp only [List.length_cons];omega⟩
       ·intro K J
        go_simp;refine (CU.out _ (by rfl) (by rfl) (by rfl) (by rfl)).mono ?_
        rintro e U ⟨ya,y0,y1,y2,yt,u0,u1,u2,yl,rfl,H7⟩
        (try go_simp)
        refine J.out _ _ trivial ?_;clear J K;obtain ⟨bk,bc,-⟩:=ZJ ((H7.out.1.block P Q.out.2.1 (by have:=Q.out;omega)).trans Z.out.2)
        have bp:=zl bk;have bw:=zl bc;refine Xh (fuel:=4) (fuel':=5) (i:=1) (k:=5) rfl rfl (by decide +kernel) rfl rfl rfl (by rfl) (by rfl) ?_ ?_
        ·intro K J
         go_simp;refine J.out _ _ trivial ?_;clear J K;refine Zi (fuel:=3) (fuel':=4) (i:=5) rfl (by decide +kernel) rfl rfl (by rfl) ?_
         intro K J;go_simp;refine J.out _ _ trivial ?_;clear J K;obtain ⟨L,ao,o7,R,O⟩:=H7.out;have ag:Hid (zf r g o7 R ai U):=O;have N:=D.out.kept L.size fun k hk hlt=>L.block k hlt (by have:=Q.out;omega)
         obtain ⟨ax,G,H⟩:=yJ.more (x9 YS _) N.f;rw [←an.out] at G;have aj:Hid (U.ownsRow (w.heap.size+2) 71 5 (.slice fb X fc) X ax.flatten):=G;have au:Hid (U.heap[P]?=some (Ui (.slice rb V rc) (.slice fb X fc))):=(L.block P Q.out.2.1 (by have:=Q.out;omega)).trans Z.out.2
         have Y:Hid (w.heap.size+2≤U.heap.size∧P<U.heap.size):=by have:=Q.out;have:=L.size;exact ⟨by omega,by omega⟩
         have af:Hid (X+1≤1099511627776):=show _≤_ by have:=am.out;have:=an.out;simp only [List.length_cons] at aq;omega
         clear L ao O G;refine xe (fuel:=2) (fuel':=3) (i:=6) rfl (by decide +kernel) rfl rfl (by rfl) ?_
         intro K J;refine ye _ _ 23 rfl (by rfl) (w.heap.size+2) 71 iF _ 5 88 Tryz.underlying23 bg aW aQ aU rfl (by decide) _ _ _ rfl (aj.out.alloc _) ⟨U.heap.size,0,none⟩ 1 1 [.string ya,.slice y0 y1 y2,.string yt,.slice u0 u1 u2,.int .i64 yl] rfl rfl (ZP _ _ _) (by simp [Value.oneCell']) (by have:=af.out;unfold maxLen;omega) (by have:=af.out;omega) (by have:=Y.out;simp;omega) ?_
         intro v' w9 z I T;have A:(U.alloc (.cells #[.string ya,.slice y0 y1 y2,.string yt,.slice u0 u1 u2,.int .i64 yl] 71)).grownBy w9 (Value.ownBlock (.slice fb X fc)):=I;have al:v'.ownBlock=Value.ownBlock (.slice fb X fc)∨v'.ownBlock=some (U.alloc (.cells #[.string ya,.slice y0 y1 y2,.string yt,.slice u0 u1 u2,.int .i64 yl] 71)).heap.size:=T;clear I T
         obtain ⟨vg,vc,aw⟩:∃vg vc,v'=.slice (some ⟨vg,0,none⟩) (X+1) vc:=by
          rcases z.2 with ⟨_,h0⟩ | ⟨g',ae,_,h1,_⟩
          ·omega
          ·exact ⟨g',ae,h1⟩
         subst aw;have y:=z;rw [an.out] at y
         have ad:Hid (Q8 r g w F res (w9.setCell ⟨P,1,none⟩ (.slice (some ⟨vg,0,none⟩) (X+1) vc))∧ZO r (w9.setCell ⟨P,1,none⟩ (.slice (some ⟨vg,0,none⟩) (X+1) vc))=ai.length):=by
          rw [an.out];exact Q8.addF HP.out ar.out Z.out.1 Z.out.2 N (fun q hq=>⟨(D.out.f.block q hq).1,(D.out.f.block q hq).2⟩) (fun q hq=>(D.out.r.block q hq).2) H hr aO H7.out.1 H7.out.2.1 rfl ag.out y A al av aH.out aL (by simp only [List.length_cons] at aq aI;omega)
         have p9:w9.heap[P]?=some (Ui (.slice rb V rc) (.slice fb X fc)):=(A.block P (by have:=Y.out;simp;omega) (fun e=>by have:=(D.out.f.block P e.symm).1;have:=HP.out;omega)).trans ((Below.heap_alloc _ _ _ Y.out.2).trans au.out)
         obtain ⟨n0,n1,ak⟩:=ZJ p9;have aT:=ak 1;clear z y A al p9 ak N H;refine J.out _ _ trivial ?_;clear J K;simp only [Act.put,List.setIfInBounds_toArray,List.set_cons_zero,List.set_cons_succ];refine yA (fuel:=1) (fuel':=2) (idx:=[7]) (by decide +kernel) rfl rfl rfl (fun _ _ _ _ _ h=>h) trivial ?_
         show wpQuiet _ _ _ _ [_] _
         iterate 1 (go_big_quiet_step (exact rfl))
         refine wpQuiet_nil ?_;refine Zi (fuel:=0) (fuel':=1) (i:=8) rfl (by decide +kernel) rfl rfl (by rfl) ?_
         intro K J;go_simp;refine J.out _ _ trivial ?_;clear J K;refine Yg (by decide +kernel) ?_
         go_wp2_with fail
         exact ⟨ad.out.1,by rw [ad.out.2,ap];simp only [List.length_cons];omega⟩
        ·intro K J
         go_simp;refine J.out _ _ trivial ?_;clear J K;refine Zi (fuel:=3) (fuel':=4) (i:=1) rfl (by decide +kernel) rfl rfl (by rfl) ?_
         intro K J;go_simp;refine J.out _ _ trivial ?_;clear J K;obtain ⟨L,ao,o7,R,O⟩:=H7.out;have ag:Hid (zf r g o7 R ai U):=O;have N:=D.out.kept L.size fun k hk hlt=>L.block k hlt (by have:=Q.out;omega)
         obtain ⟨ax,G,H⟩:=yJ.more (x9 YS _) N.f;rw [←an.out] at G;have aj:Hid (U.ownsRow (w.heap.size+2) 71 5 (.slice fb X fc) X ax.flatten):=G;have au:Hid (U.heap[P]?=some (Ui (.slice rb V rc) (.slice fb X fc))):=(L.block P Q.out.2.1 (by have:=Q.out;omega)).trans Z.out.2
         have Y:Hid (w.heap.size+2≤U.heap.size∧P<U.heap.size):=by have:=Q.out;have:=L.size;exact ⟨by omega,by omega⟩
         have af:Hid (X+1≤1099511627776):=show _≤_ by have:=am.out;have:=an.out;simp only [List.length_cons] at aq;omega
         clear L ao O G;refine xe (fuel:=2) (fuel':=3) (i:=6) rfl (by decide +kernel) rfl rfl (by rfl) ?_
         intro K J;refine ye _ _ 23 rfl (by rfl) (w.heap.size+2) 71 iF _ 5 88 Tryz.underlying23 bg aW aQ aU rfl (by decide) _ _ _ rfl (aj.out.alloc _) ⟨U.heap.size,0,none⟩ 1 1 [.string ya,.slice y0 y1 y2,.string yt,.slice u0 u1 u2,.int .i64 yl] rfl rfl (ZP _ _ _) (by simp [Value.oneCell']) (by have:=af.out;unfold maxLen;omega) (by have:=af.out;omega) (by have:=Y.out;simp;omega) ?_
         intro v' w9 z I T;have A:(U.alloc (.cells #[.string ya,.slice y0 y1 y2,.string yt,.slice u0 u1 u2,.int .i64 yl] 71)).grownBy w9 (Value.ownBlock (.slice fb X fc)):=I;have al:v'.ownBlock=Value.ownBlock (.slice fb X fc)∨v'.ownBlock=some (U.alloc (.cells #[.string ya,.slice y0 y1 y2,.string yt,.slice u0 u1 u2,.int .i64 yl] 71)).heap.size:=T;clear I T
         obtain ⟨vg,vc,aw⟩:∃vg vc,v'=.slice (some ⟨vg,0,none⟩) (X+1) vc:=by
          rcases z.2 with ⟨_,h0⟩ | ⟨g',ae,_,h1,_⟩
          ·omega
          ·exact ⟨g',ae,h1⟩
         subst aw;have y:=z;rw [an.out] at y
         have ad:Hid (Q8 r g w F res (w9.setCell ⟨P,1,none⟩ (.slice (some ⟨vg,0,none⟩) (X+1) vc))∧ZO r (w9.setCell ⟨P,1,none⟩ (.slice (some ⟨vg,0,none⟩) (X+1) vc))=ai.length):=by
          rw [an.out];exact Q8.addF HP.out ar.out Z.out.1 Z.out.2 N (fun q hq=>⟨(D.out.f.block q hq).1,(D.out.f.block q hq).2⟩) (fun q hq=>(D.out.r.block q hq).2) H hr aO H7.out.1 H7.out.2.1 rfl ag.out y A al av aH.out aL (by simp only [List.length_cons] at aq aI;omega)
         have p9:w9.heap[P]?=some (Ui (.slice rb V rc) (.slice fb X fc)):=(A.block P (by have:=Y.out;simp;omega) (fun e=>by have:=(D.out.f.block P e.symm).1;have:=HP.out;omega)).trans ((Below.heap_alloc _ _ _ Y.out.2).trans au.out)
         obtain ⟨n0,n1,ak⟩:=ZJ p9;have aT:=ak 1;clear z y A al p9 ak N H;refine J.out _ _ trivial ?_;clear J K;simp only [Act.put,List.setIfInBounds_toArray,List.set_cons_zero,List.set_cons_succ];refine yA (fuel:=1) (fuel':=2) (idx:=[7]) (by decide +kernel) rfl rfl rfl (fun _ _ _ _ _ h=>h) trivial ?_
         show wpQuiet _ _ _ _ [_] _
         iterate 1 (go_big_quiet_step (exact rfl))
         refine wpQuiet_nil ?_;refine Zi (fuel:=0) (fuel':=1) (i:=8) rfl (by decide +kernel) rfl rfl (by rfl) ?_
         intro K J;go_simp;refine J.out _ _ trivial ?_;clear J K;refine Yg (by decide +kernel) ?_
         go_wp2_with fail
         exact ⟨ad.out.1,by rw [ad.out.2,ap];simp only [List.length_cons];omega⟩
    ·have bJ:zm t2 [102,110]=false:=by simpa using i2
     rw [bJ] at c2;rw [if_neg i2] at hT;simp only [Option.some.injEq] at hT;subst hT;go_wp2_with fail
     refine c2.mono ?_;clear c2;rintro e we ⟨rfl,bt,he⟩;have a4:zf r g o2 ah (t2::ab) we:=by simpa using he
     have cg:=Ux r g o2 ah t2 ab we a4;have bE:Hid (zc r w we):=aB.out.trans (be.out.trans bt);clear he a4 bt a6;go_wp2_with fail
     refine cg.mono ?_;clear cg;rintro e w' ⟨rfl,rfl⟩;exact ⟨rfl,bE.out.alloc _,rfl⟩
end Go.Proofs.YtcphojjpapgblaaGreatDoor
