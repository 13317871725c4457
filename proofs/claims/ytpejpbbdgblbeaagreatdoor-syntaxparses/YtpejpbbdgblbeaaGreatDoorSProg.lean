import Derived.Test.YtpejpbbdgblbeaaGreatDoorMC27
namespace Go.Proofs.YtpejpbbdgblbeaaGreatDoor
open Go.RowKit Go.Shelf
set_option maxHeartbeats 16000000
set_option maxRecDepth 100000
theorem zcU {f line:Nat} {t1 t2:Tk} {us:List Tk} {R:PR Rc} (h:ZZ f line (t1::t2::us)=some R):∃res,R=XA line t1 t2 res∧(t1.k=1→zn t2 [123]=true→Zm f [] us=some res):=by
 unfold ZZ Yg Zf at h
 simp only [zI,List.tail_cons] at h
 unfold XA
 by_cases h1:t1.k=1
 ·simp only [if_pos h1,zq,zI,List.tail_cons] at h
  by_cases h2:zn t2 [123]=true
  ·simp only [if_pos h2] at h
   cases h3:Zm f [] us with
   | none=>rw [h3] at h;cases h
   | some r3 =>
    rw [h3] at h;refine ⟨r3,?_,fun _ _=>rfl⟩
    rw [if_pos h1,if_pos h2];rcases r3 with a | ⟨e,us3⟩
    ·simp only [Option.some.injEq] at h
     exact h.symm
    ·simp only at h ⊢
     by_cases h4:zn (zx us3) [125]=true
     ·simp only [if_pos h4,Option.some.injEq] at h ⊢
      exact h.symm
     ·simp only [if_neg h4,Option.some.injEq] at h ⊢
      exact h.symm
  ·simp only [if_neg h2,Option.some.injEq] at h
   refine ⟨.error 0,?_,fun _ h9=>absurd h9 h2⟩
   rw [if_pos h1,if_neg h2];exact h.symm
 ·simp only [if_neg h1,zq,Option.some.injEq] at h
  refine ⟨.error 0,?_,fun h9=>absurd h9 h1⟩
  rw [if_neg h1];exact h.symm
theorem zbJ (r g o cap line:Nat) (t:Tk) (w:World) (h:zh r g o cap [t] w) (hk:t.k≠1):Calls Tryz.prog 53 #[.pointer (some ⟨r,0,none⟩),.int .i64 (line:Int)] w (vU r g w (.error t.at0)):=by
 obtain ⟨w0,hw0⟩:∃w0,w0=w.alloc rcZ:=⟨_,rfl⟩;have h0:zh r g o cap [t] w0:=by rw [hw0];exact h.alloc _
 have k0:zc r w w0:=by rw [hw0];exact (zc.refl r w).alloc _
 have cn:=Xl r g o cap t [] w0 h0 (fun h=>absurd h hk)
 have HW0:Hid (w0=w.alloc rcZ):=hw0;clear h h0 hw0;simp only [if_neg hk] at cn
 go_enter Tryz.func53,Tryz.ntmps53
 go_wp2_with fail
 rw [←HW0.out];refine cn.mono ?_;clear cn;rintro e w1 ⟨hk1,rfl⟩;exact ⟨rfl,k0.trans hk1,rfl⟩
theorem zaE (r g o cap line F:Nat) (ts:List Tk) (w:World) (R:PR Rc) (h:zh r g o cap ts w) (hE:zj ts) (hp:ZZ F line ts=some R)
  (hrow:∀w1 o1 cap1 ts1 r1,Zm F [] ts1=some r1→zj ts1→zh r g o1 cap1 ts1 w1→zc r w w1→Calls Tryz.prog 96 #[.pointer (some ⟨r,0,none⟩),.func (.func 97) #[.pointer (some ⟨r,0,none⟩)] #[]] w1 (zbq r g w1 r1)) :
  Calls Tryz.prog 53 #[.pointer (some ⟨r,0,none⟩),.int .i64 (line:Int)] w (vU r g w R):=by
 obtain ⟨t1,us1,rfl⟩:=hE.cons;cases us1 with
 | nil =>
  have hk0:t1.k=0:=hE
  have e:R=.error t1.at0:=by
   simp only [ZZ,Yg,zI,zq,if_neg (show ¬ t1.k=1 by omega),Option.some.injEq] at hp
   exact hp.symm
  rw [e];exact zbJ r g o cap line t1 w h (by omega)
 | cons t2 us2 =>
  obtain ⟨res,hR,hres⟩:=zcU hp;rw [hR]
  by_cases hc:t1.k=1∧zn t2 [123]=true
  ·have hb:=hres hc.1 hc.2
   have hE3:zj us2:=(hE.tail (by omega)).tail (zl hc.2)
   exact zbr r g o cap line t1 t2 us2 w res h hE (fun l us e=>by subst e;exact x7 hb hE3) fun _ _ w3 o3 cap3 hR3 hK3=>hrow w3 o3 cap3 us2 res hb hE3 hR3 hK3
  ·have e9:XA line t1 t2 res=XA line t1 t2 (.error 0):=by
    unfold XA
    by_cases h1:t1.k=1
    ·rw [if_pos h1,if_pos h1,if_neg (fun h9=>hc ⟨h1,h9⟩),if_neg (fun h9=>hc ⟨h1,h9⟩)]
    ·rw [if_neg h1,if_neg h1]
   rw [e9];exact zbr r g o cap line t1 t2 us2 w (.error 0) h hE (fun l us e=>by cases e) fun h1 h9=>absurd ⟨h1,h9⟩ hc
abbrev vF (a b:Value):Obj:=.cells #[a,b] 25
abbrev xg:Obj:=vF (.slice none 0 0) (.slice none 0 0)
def zfU (r g:Nat) (w:World) (res:PR Pg) (e:Ending) (w':World):Prop :=
 zc r w w'∧match res with
  | .error a=>e=Z2 a
  | .ok (x,ts)=>∃v o cap,e=.returned v∧xy (fun k=>w.heap.size≤k) w' x v∧zh r g o cap ts w'
theorem xy.agg {S:Nat→Prop} {w:World} {p:Pg} {v:Value} (h:xy S w p v):∃(a0:Option Addr) (a1 a2:Nat) (b0:Option Addr) (b1 b2:Nat),v=.agg #[.slice a0 a1 a2,.slice b0 b1 b2]:=by
 obtain ⟨vr,vf,rfl,h1,h2⟩:=h;obtain ⟨b,c,rfl⟩:=h1.slice;obtain ⟨b',c',rfl⟩:=h2.slice;exact ⟨_,_,_,_,_,_,rfl⟩
theorem Uv:(Tryz.prog.info? 74).map (fun i=>(i.zero,i.size,i.bytes))=some (some (.agg #[.string ⟨#[]⟩,.slice none 0 0,.int .i64 0]),3,48):=by kernel_rfl
theorem QY:(Tryz.prog.info? 72).map (fun i=>(i.zero,i.size,i.bytes))=some (some (.agg #[.string ⟨#[]⟩,.slice none 0 0,.string ⟨#[]⟩,.slice none 0 0,.int .i64 0]),5,88):=by kernel_rfl
theorem XE {f line:Nat} {ts us:List Tk} {x:Rc} (h:ZZ f line ts=some (.ok (x,us))) (hE:zj ts):us.length<ts.length:=by
 have hpos:=hE.pos;obtain ⟨f',r',h1,h2⟩:=uy line (n:=ts.length-1) ts (by omega) hE
 have a:=qv (k:=f') h;have b:=h1 f;rw [Nat.add_comm] at a;have e:=Option.some.inj (a.symm.trans b)
 have:=(h2 x us e.symm).1
 omega
theorem zew {f line:Nat} {ts us:List Tk} {x:Fc} (h:yX f line ts=some (.ok (x,us))) (hE:zj ts):us.length<ts.length:=by
 have hpos:=hE.pos;obtain ⟨f',r',h1,h2⟩:=qw line (n:=ts.length-1) ts (by omega) hE
 have a:=zbI (k:=f') h;have b:=h1 f;rw [Nat.add_comm] at a;have e:=Option.some.inj (a.symm.trans b)
 have:=(h2 x us e.symm).1
 omega
structure PgJ (r g:Nat) (w:World) (F:Nat) (res:PR Pg) (wr:World):Prop where
 ex:∃(rs:List Rc) (fs:List Fc) (vr vf:Value) (o2 cap2:Nat) (ts2:List Tk) (f2:Nat),f2≤F∧ZR f2 rs fs ts2=some res∧zj ts2∧rs.length+fs.length+ts2.length≤1099511627776∧wr.heap[w.heap.size]?=some xg∧wr.heap[w.heap.size+1]?=some (vF vr vf)∧yg (w.heap.size+2) wr rs fs vr vf∧zh r g o2 cap2 ts2 wr∧zc r w wr
theorem PgJ.addR {r g P o7 cap7 F f3:Nat} {w w6 w7 w9:World} {res:PR Pg} {rs:List Rc} {fs:List Fc} {vr vf v':Value} {x:Rc} {c:List Value} {us:List Tk} {ob:Obj} {lus:List (List Value)} (hP:P=w.heap.size+1) (hK6:zc r w w6) (b6:w6.heap[w.heap.size]?=some xg) (p6:w6.heap[P]?=some (vF vr vf)) (hpg7:yg (w.heap.size+2) w7 rs fs vr vf) (hbr:∀q,vr.ownBlock=some q→w.heap.size+2≤q∧q<w6.heap.size) (hbf:∀q,vf.ownBlock=some q→q<w6.heap.size)
  (hnext:∀{w':World} {v':Value} {x:Rc} {c:List Value} {ob:Obj} {N:Nat},EX RcE (fun k=>vf.ownBlock≠some k) (fun k=>N≤k) w7 x c→w.heap.size+2≤N→(∀q,vr.ownBlock=some q→q<N)→c.length=3→w'.ownsRow (w.heap.size+2) 74 3 v' (rs.length+1) (lus.flatten++c)→(w7.alloc ob).grownBy w' vr.ownBlock→(v'.ownBlock=vr.ownBlock∨v'.ownBlock=some (w7.alloc ob).heap.size)→Z6 (EX RcE fun k=>vf.ownBlock≠some k) 3 74 (w.heap.size+2) w' (rs++[x]) v')
  (hr:r<w.heap.size) (hg:g<w.heap.size) (hk7:zc r w6 w7) (hx7:RcE (fun k=>w6.heap.size≤k) w7 x c) (hc:c.length=3) (hrd7:zh r g o7 cap7 us w7) (ho:w9.ownsRow (w.heap.size+2) 74 3 v' (rs.length+1) (lus.flatten++c)) (hgr:(w7.alloc ob).grownBy w9 vr.ownBlock) (hat:v'.ownBlock=vr.ownBlock∨v'.ownBlock=some (w7.alloc ob).heap.size)
  (hf3:f3≤F) (hp:ZR f3 (rs++[x]) fs us=some res) (hE:zj us) (hn:rs.length+1+fs.length+us.length≤1099511627776):PgJ r g w F res (w9.setCell ⟨P,0,none⟩ v')∧yu r (w9.setCell ⟨P,0,none⟩ v')=us.length:=by
 subst hP;have hs7:=hk7.size;have hP6:w.heap.size+1<w6.heap.size:=(Array.getElem?_eq_some_iff.1 p6).1;have hkeep:∀k,vr.ownBlock≠some k→k<w7.heap.size→w9.heap[k]?=w7.heap[k]?:=fun k hk hlt=>(hgr.block k (by simp;omega) (fun e=>hk e.symm)).trans (Below.heap_alloc _ _ _ hlt)
 have hnr:∀k,k<w.heap.size+2→vr.ownBlock≠some k:=fun k hk e=>by have:=(hbr k e).1;omega
 have p9:w9.heap[w.heap.size+1]?=some (vF vr vf):=(hkeep _ (hnr _ (by omega)) (by omega)).trans ((hk7.block _ hP6 (by omega)).trans p6)
 have k9:zc r w w9:=((hK6.trans hk7).alloc ob).grown hgr fun k hk=>by have:=(hbr k hk).1;omega
 have hrd9:zh r g o7 cap7 us (w9.setCell ⟨w.heap.size+1,0,none⟩ v'):=(hrd7.keep (hkeep r (hnr r (by omega)) (by omega)) (hkeep g (hnr g (by omega)) (by omega))).setP _ (by omega) (by omega)
 have hpg9:yg (w.heap.size+2) w9 (rs++[x]) fs v' vf:=hpg7.addR hnext hx7 (by omega) (fun q hq=>(hbr q hq).2) hbf (fun q hq=>by have:=hbf q hq;omega) hc ho hgr hat
 refine ⟨⟨rs++[x],fs,v',vf,o7,cap7,us,f3,hf3,hp,hE,by simp only [List.length_append,List.length_cons,List.length_nil];omega,?_,zm _ p9,hpg9.kept (by simp) fun k hk _=>Below.heap_setCell _ _ _ _ (by simp;omega),hrd9,k9.setOther (by simp) _⟩,hrd9.left⟩
 rw [Below.heap_setCell _ _ _ _ (by simp)]
 exact (hkeep _ (hnr _ (by omega)) (by omega)).trans ((hk7.block _ (by omega) (by omega)).trans b6)
theorem PgJ.addF {r g P o7 cap7 F f3:Nat} {w w6 w7 w9:World} {res:PR Pg} {rs:List Rc} {fs:List Fc} {vr vf v':Value} {x:Fc} {c:List Value} {us:List Tk} {ob:Obj} {lus:List (List Value)} (hP:P=w.heap.size+1) (hK6:zc r w w6) (b6:w6.heap[w.heap.size]?=some xg) (p6:w6.heap[P]?=some (vF vr vf)) (hpg7:yg (w.heap.size+2) w7 rs fs vr vf) (hbr:∀q,vf.ownBlock=some q→w.heap.size+2≤q∧q<w6.heap.size) (hbf:∀q,vr.ownBlock=some q→q<w6.heap.size)
  (hnext:∀{w':World} {v':Value} {x:Fc} {c:List Value} {ob:Obj} {N:Nat},EX FcE (fun k=>vr.ownBlock≠some k) (fun k=>N≤k) w7 x c→w.heap.size+2≤N→(∀q,vf.ownBlock=some q→q<N)→c.length=5→w'.ownsRow (w.heap.size+2) 72 5 v' (fs.length+1) (lus.flatten++c)→(w7.alloc ob).grownBy w' vf.ownBlock→(v'.ownBlock=vf.ownBlock∨v'.ownBlock=some (w7.alloc ob).heap.size)→Z6 (EX FcE fun k=>vr.ownBlock≠some k) 5 72 (w.heap.size+2) w' (fs++[x]) v')
  (hr:r<w.heap.size) (hg:g<w.heap.size) (hk7:zc r w6 w7) (hx7:FcE (fun k=>w6.heap.size≤k) w7 x c) (hc:c.length=5) (hrd7:zh r g o7 cap7 us w7) (ho:w9.ownsRow (w.heap.size+2) 72 5 v' (fs.length+1) (lus.flatten++c)) (hgr:(w7.alloc ob).grownBy w9 vf.ownBlock) (hat:v'.ownBlock=vf.ownBlock∨v'.ownBlock=some (w7.alloc ob).heap.size)
  (hf3:f3≤F) (hp:ZR f3 rs (fs++[x]) us=some res) (hE:zj us) (hn:rs.length+(fs.length+1)+us.length≤1099511627776):PgJ r g w F res (w9.setCell ⟨P,1,none⟩ v')∧yu r (w9.setCell ⟨P,1,none⟩ v')=us.length:=by
 subst hP;have hs7:=hk7.size;have hP6:w.heap.size+1<w6.heap.size:=(Array.getElem?_eq_some_iff.1 p6).1;have hkeep:∀k,vf.ownBlock≠some k→k<w7.heap.size→w9.heap[k]?=w7.heap[k]?:=fun k hk hlt=>(hgr.block k (by simp;omega) (fun e=>hk e.symm)).trans (Below.heap_alloc _ _ _ hlt)
 have hnr:∀k,k<w.heap.size+2→vf.ownBlock≠some k:=fun k hk e=>by have:=(hbr k e).1;omega
 have p9:w9.heap[w.heap.size+1]?=some (vF vr vf):=(hkeep _ (hnr _ (by omega)) (by omega)).trans ((hk7.block _ hP6 (by omega)).trans p6)
 have k9:zc r w w9:=((hK6.trans hk7).alloc ob).grown hgr fun k hk=>by have:=(hbr k hk).1;omega
 have hrd9:zh r g o7 cap7 us (w9.setCell ⟨w.heap.size+1,1,none⟩ v'):=(hrd7.keep (hkeep r (hnr r (by omega)) (by omega)) (hkeep g (hnr g (by omega)) (by omega))).setP _ (by omega) (by omega)
 have hpg9:yg (w.heap.size+2) w9 rs (fs++[x]) vr v':=hpg7.addF hnext hx7 (by omega) (fun q hq=>(hbr q hq).2) hbf (fun q hq=>by have:=hbf q hq;omega) hc ho hgr hat
 refine ⟨⟨rs,fs++[x],vr,v',o7,cap7,us,f3,hf3,hp,hE,by simp only [List.length_append,List.length_cons,List.length_nil];omega,?_,zm _ p9,hpg9.kept (by simp) fun k hk _=>Below.heap_setCell _ _ _ _ (by simp;omega),hrd9,k9.setOther (by simp) _⟩,hrd9.left⟩
 rw [Below.heap_setCell _ _ _ _ (by simp)]
 exact (hkeep _ (hnr _ (by omega)) (by omega)).trans ((hk7.block _ (by omega) (by omega)).trans b6)
theorem zex (r g o cap F:Nat) (ts:List Tk) (w:World) (res:PR Pg) (h:zh r g o cap ts w) (hE:zj ts) (hp:ZR F [] [] ts=some res)
  (hrec:∀w1 o1 cap1 ts1 r1 line,ZZ F line ts1=some r1→zj ts1→zh r g o1 cap1 ts1 w1→zc r w w1→Calls Tryz.prog 53 #[.pointer (some ⟨r,0,none⟩),.int .i64 (line:Int)] w1 (vU r g w1 r1))
  (hfun:∀w1 o1 cap1 ts1 r1 line,yX F line ts1=some r1→zj ts1→zh r g o1 cap1 ts1 w1→zc r w w1→Calls Tryz.prog 54 #[.pointer (some ⟨r,0,none⟩),.int .i64 (line:Int)] w1 (qt r g w1 r1)) :
  Calls Tryz.prog 22 #[.pointer (some ⟨r,0,none⟩)] w (zfU r g w res):=by
 obtain ⟨iR,hiR,hzR0,hzR1,hzR2⟩:=info_parts Uv;obtain ⟨iF,hiF,hzF0,hzF1,hzF2⟩:=info_parts QY;have hN:=h.few;obtain ⟨t0,ts0,rfl⟩:=hE.cons;have hr:=h.lt.1;have hgw:=h.lt.2;have hf0:=Xi;have hf3:=Z1;obtain ⟨w1,hw1⟩:∃w1,w1=(w.alloc xg).alloc xg:=⟨_,rfl⟩
 have hJ0:PgJ r g w F res w1:=by
  have hz:w1.heap.size=w.heap.size+2:=by rw [hw1];simp
  refine ⟨[],[],_,_,o,cap,t0::ts0,F,Nat.le_refl _,hp,hE,by simpa using hN,?_,?_,yg.nil _ _,by rw [hw1];exact (h.alloc _).alloc _,by rw [hw1];exact ((zc.refl r w).alloc _).alloc _⟩
  ·rw [hw1,Below.heap_alloc _ _ _ (by simp)];exact World.alloc_heap_new _ _
  ·rw [hw1]
   have:=World.alloc_heap_new (w.alloc xg) xg
   simpa using this
 have HJ0:Hid (PgJ r g w F res w1):=hJ0;have HW1:Hid (w1=(w.alloc xg).alloc xg):=hw1;obtain ⟨P,hP⟩:∃P,P=w.heap.size+1:=⟨_,rfl⟩;have HP:Hid (P=w.heap.size+1):=hP;have HREC:Hid (∀w1 o1 cap1 ts1 r1 line,ZZ F line ts1=some r1→zj ts1→zh r g o1 cap1 ts1 w1→zc r w w1→Calls Tryz.prog 53 #[.pointer (some ⟨r,0,none⟩),.int .i64 (line:Int)] w1 (vU r g w1 r1)):=hrec;have HFUN:Hid (∀w1 o1 cap1 ts1 r1 line,yX F line ts1=some r1→zj ts1→zh r g o1 cap1 ts1 w1→zc r w w1→Calls Tryz.prog 54 #[.pointer (some ⟨r,0,none⟩),.int .i64 (line:Int)] w1 (qt r g w1 r1)):=hfun;clear h hw1 hJ0 hrec hfun hN hp hE
 go_enter Tryz.func22,Tryz.ntmps22
 go_wp2_with fail
 rw [←HW1.out,←HP.out];clear hP
 go_loopw [4] (fun _ wr=>PgJ r g w F res wr) (fun _ wr=>yu r wr)
 case atStart=>exact HJ0.out
 case round =>
  clear HJ0 HW1;obtain ⟨rs,fs,vr,vf,o2,cap2,ts2,f2,hf2,hT,hE2,hN2,bN,bP,hpg,hrd2,hk2⟩:=hrel.ex;rw [←HP.out] at bP;obtain ⟨t2,ts3,rfl⟩:=hE2.cons;have hleft:=hrd2.left;have HK2:Hid (zc r w wr):=hk2;have HB:Hid (wr.heap[w.heap.size]?=some xg∧wr.heap[P]?=some (vF vr vf)):=⟨bN,bP⟩;have HPG:Hid (yg (w.heap.size+2) wr rs fs vr vf):=hpg;obtain ⟨rb,rc,hvr⟩:=hpg.r.slice;obtain ⟨fb,fc,hvf⟩:=hpg.f.slice;subst hvr hvf;obtain ⟨nr,hnr⟩:∃nr,nr=rs.length:=⟨_,rfl⟩;obtain ⟨nf,hnf⟩:∃nf,nf=fs.length:=⟨_,rfl⟩;have HNR:Hid (nr=rs.length):=hnr;have HNF:Hid (nf=fs.length):=hnf;rw [←hnr,←hnf] at HB HPG;have ch:=yR r g o2 cap2 t2 ts3 wr hrd2;obtain ⟨wa,hwa⟩:∃wa,wa=wr.alloc (yi t2):=⟨_,rfl⟩;rw [←hwa] at ch;have hrda:zh r g o2 cap2 (t2::ts3) wa:=by rw [hwa];exact hrd2.alloc _
  have HKA:Hid (zc r wr wa):=by rw [hwa];exact (zc.refl r wr).alloc _
  have hrl2:=hrd2.lt.1;cases f2 with
  | zero=>simp [ZR] at hT
  | succ f3 =>
  rw [ZR] at hT;simp only [zI,List.tail_cons] at hT;clear hrel bN bP hpg hrd2 hk2 hwa hnr hnf
  by_cases h0:t2.k=0
  ·rw [if_pos h0] at hT
   simp only [Option.some.injEq] at hT;subst hT;have hsw:=HK2.out.size;have hp':=HP.out;have hNl:w.heap.size<wr.heap.size:=(Array.getElem?_eq_some_iff.1 HB.out.1).1;have hPl:P<wr.heap.size:=(Array.getElem?_eq_some_iff.1 HB.out.2).1;have ba:=(HKA.out.block w.heap.size hNl (by omega)).trans HB.out.1
   have pa:=(HKA.out.block P hPl (by omega)).trans HB.out.2
   have hpga:=HPG.out.kept HKA.out.size fun k hk hlt=>HKA.out.block k hlt (by omega)
   have ka:=HK2.out.trans HKA.out;obtain ⟨e0,e1,-⟩:=zZ pa;obtain ⟨q0,q1,qf⟩:=zZ ba;have bz:(((wa.setCell ⟨w.heap.size,0,none⟩ (.slice rb nr rc)).setCell ⟨w.heap.size,1,none⟩ (.slice fb nf fc))).heap[w.heap.size]?=some (vF (.slice rb nr rc) (.slice fb nf fc)):=zm _ (zm _ ba);obtain ⟨z0,z1,-⟩:=zZ bz;have hkp:∀k,k≠w.heap.size→((wa.setCell ⟨w.heap.size,0,none⟩ (.slice rb nr rc)).setCell ⟨w.heap.size,1,none⟩ (.slice fb nf fc)).heap[k]?=wa.heap[k]?:=fun k hk=>by rw [Below.heap_setCell _ _ _ _ (by simpa using hk),Below.heap_setCell _ _ _ _ (by simpa using hk)]
   have HPO:Hid (zfU r g w (.ok (⟨rs,fs⟩,t2::ts3)) (.returned (.agg #[.slice rb nr rc,.slice fb nf fc])) ((wa.setCell ⟨w.heap.size,0,none⟩ (.slice rb nr rc)).setCell ⟨w.heap.size,1,none⟩ (.slice fb nf fc))):=by
    refine ⟨(ka.setOther (p:=⟨w.heap.size,0,none⟩) (by simp) _).setOther (p:=⟨w.heap.size,1,none⟩) (by simp) _,_,_,_,rfl,?_,hrda.keep (hkp r (by omega)) (hkp g (by omega))⟩
    exact (hpga.pg.kept (by simp) fun k hk _=>hkp k (by omega)).wide fun k hk=>by omega
   have hk0:((t2.k:Int)==0)=true:=by rw [h0];rfl
   have hk1:((t2.k:Int) != 0)=false:=by rw [bne,hk0];rfl
   clear ba pa hpga ka bz hkp hrda HB HPG HKA HK2 hsw hNl hPl h0 hp';go_wp2_with fail
   refine ch.mono ?_;clear ch;rintro e w' ⟨rfl,he⟩;obtain rfl:=he.symm;clear he;simp only [Xc];go_wp2
   exact bodyPost_ret (v:=.agg #[.slice rb nr rc,.slice fb nf fc]) (by simp [results,Tryz.results22,go_sem,z0,z1]) rfl HPO.out
  ·rw [if_neg h0] at hT
   have hk0:((t2.k:Int)==0)=false:=by rw [beq_eq_false_iff_ne];omega
   have hk1:((t2.k:Int) != 0)=true:=by rw [bne,hk0];rfl
   have ch2:=yR r g o2 cap2 t2 ts3 wa hrda;obtain ⟨wb,hwb⟩:∃wb,wb=wa.alloc (yi t2):=⟨_,rfl⟩;rw [←hwb] at ch2;have hrdb:zh r g o2 cap2 (t2::ts3) wb:=by rw [hwb];exact hrda.alloc _
   have HKB:Hid (zc r wr wb):=by rw [hwb];exact HKA.out.alloc _
   have c1:=ZL r g o2 cap2 t2 ts3 [114,101,99,111,114,100] wb hrdb (fun hi=>(hE2.tail (zl hi)).ne)
   obtain ⟨LN,hLN⟩:∃LN,LN=t2.line:=⟨_,rfl⟩;have HLN:Hid (LN=t2.line):=hLN;rw [←hLN] at hT;clear hwb hrda HKA hLN;go_wp2_with fail
   refine ch.mono ?_;clear ch;rintro e w' ⟨rfl,he⟩;obtain rfl:=he.symm;clear he;simp only [Xc];go_wp2_with fail
   refine ch2.mono ?_;clear ch2;rintro e w' ⟨rfl,he⟩;obtain rfl:=he.symm;clear he;simp only [Xc];rw [←HLN.out]
   by_cases i1:zn t2 [114,101,99,111,114,100]=true
   ·rw [i1] at c1
    rw [if_pos i1] at hT;go_wp2_with fail
    refine c1.mono ?_;clear c1;rintro e w6 ⟨rfl,hk6,h6⟩;have hrd6:zh r g (o2+5) (cap2-1) ts3 w6:=by simpa using h6
    have HK6:Hid (zc r w w6):=HK2.out.trans (HKB.out.trans hk6);have hkr6:zc r wr w6:=HKB.out.trans hk6;have hE3:=hE2.tail (zl i1);have hsw:=HK2.out.size;have hs6:=hkr6.size;have hp':=HP.out;have hNl:w.heap.size<wr.heap.size:=(Array.getElem?_eq_some_iff.1 HB.out.1).1;have hPl:P<wr.heap.size:=(Array.getElem?_eq_some_iff.1 HB.out.2).1;have HB6:Hid (w6.heap[w.heap.size]?=some xg∧w6.heap[P]?=some (vF (.slice rb nr rc) (.slice fb nf fc))):=⟨(hkr6.block _ hNl (by omega)).trans HB.out.1,(hkr6.block _ hPl (by omega)).trans HB.out.2⟩
    have HPG6:Hid (yg (w.heap.size+2) w6 rs fs (.slice rb nr rc) (.slice fb nf fc)):=HPG.out.kept hkr6.size fun k hk hlt=>hkr6.block k hlt (by omega)
    have HS6:Hid (P=w.heap.size+1∧P<w6.heap.size∧r<w.heap.size):=⟨hp',by omega,hr⟩
    cases hb3:ZZ f3 LN ts3 with
    | none=>rw [hb3] at hT;cases hT
    | some r3 =>
     rw [hb3] at hT;have hf3':f3≤F:=by omega
     have hb4:ZZ F LN ts3=some r3:=by
      have:=qv (k:=F-f3) hb3
      rwa [show f3+(F-f3)=F by omega] at this
     have cb:∀W:World,W.heap=w6.heap→W.os=w6.os→W.tape=w6.tape→W.output=w6.output→Calls Tryz.prog 53 #[.pointer (some ⟨r,0,none⟩),.int .i64 (LN:Int)] W (vU r g w6 r3):=fun W e1 e2 e3 e4=>by
      have hKW:zc r w6 W:=⟨e2,e3,e4,by rw [e1];exact Nat.le_refl _,fun k _ _=>by rw [e1]⟩
      refine (HREC.out W _ _ ts3 r3 LN hb4 hE3 (hrd6.keep (by rw [e1]) (by rw [e1])) (HK6.out.trans hKW)).mono fun e w' hh=>?_
      refine ⟨hKW.trans hh.1,?_⟩;have h9:=hh.2;rw [e1] at h9;exact h9
     have CB:Hid (∀W:World,W.heap=w6.heap→W.os=w6.os→W.tape=w6.tape→W.output=w6.output→Calls Tryz.prog 53 #[.pointer (some ⟨r,0,none⟩),.int .i64 (LN:Int)] W (vU r g w6 r3)):=cb;obtain ⟨l0,l1,-⟩:=zZ HB6.out.2;clear cb hrd6 h6 hk6 hkr6 hsw hs6 hp' hNl hPl HB HPG;rcases r3 with a3 | ⟨x,us4⟩
     ·simp only [zq,Option.some.injEq] at hT
      subst hT;have cu':∀W:World,W.heap=w6.heap→W.os=w6.os→W.tape=w6.tape→W.output=w6.output→Calls Tryz.prog 53 #[.pointer (some ⟨r,0,none⟩),.int .i64 (LN:Int)] W fun e w'=>e=Z2 a3∧zc r w w':=fun W e1 e2 e3 e4=>(CB.out W e1 e2 e3 e4).mono fun e w' h=>⟨h.2,HK6.out.trans h.1⟩
      clear CB;go_wp2_with fail
      go_region_dies
      all_goals (go_wp2_with fail;refine (cu' _ (by rfl) (by rfl) (by rfl) (by rfl)).mono ?_;rintro e w4 ⟨rfl,hk4⟩;exact ⟨rfl,hk4,rfl⟩)
     ·have hE4:=xr hb4 hE3
      have hl4:=XE hb4 hE3;have HT3:Hid (ZR f3 (rs++[x]) fs us4=some res):=hT
      have CU:Hid (∀W:World,W.heap=w6.heap→W.os=w6.os→W.tape=w6.tape→W.output=w6.output→Calls Tryz.prog 53 #[.pointer (some ⟨r,0,none⟩),.int .i64 (LN:Int)] W fun e w'=>∃(ya:ByteArray) (y0:Option Addr) (y1 y2:Nat) (yl:Int),e=.returned (.agg #[.string ya,.slice y0 y1 y2,.int .i64 yl])∧Hid (zc r w6 w'∧RcE (fun k=>w6.heap.size≤k) w' x [.string ya,.slice y0 y1 y2,.int .i64 yl]∧∃o7 cap7,zh r g o7 cap7 us4 w')):=fun W e1 e2 e3 e4=>(CB.out W e1 e2 e3 e4).mono fun e w' h=>by
       obtain ⟨hk7,v,o7,cap7,rfl,hx7,hrd7⟩:=h;obtain ⟨y0,y1,y2,rfl⟩:=hx7.slice;exact ⟨_,y0,y1,y2,_,rfl,hk7,⟨_,rfl,hx7.toG⟩,o7,cap7,hrd7⟩
      clear CB hT hb3 hb4;go_wp2_with fail
      refine YK (n:=9) (S:=fun _=>True) (by kernel_rfl) rfl rfl ?_
      refine Zz (fuel:=6) (fuel':=9) (idx:=[0,2,3]) (by decide +kernel) rfl rfl rfl (fun _ _ _ _ _ h=>h) trivial ?_
      show wpQuiet _ _ _ _ [_,_,_] _
      iterate 3 (go_big_quiet_step (exact rfl))
      refine wpQuiet_nil ?_;refine YV (fuel:=5) (fuel':=6) (i:=1) (k:=4) rfl rfl (by decide +kernel) rfl rfl rfl (by rfl) (by rfl) ?_ ?_
      ·intro K hK
       go_simp;refine hK.out _ _ trivial ?_;clear hK K;refine zG (fuel:=4) (fuel':=5) (i:=4) rfl (by decide +kernel) rfl rfl (by rfl) ?_
       intro K hK;go_simp;refine (CU.out _ (by rfl) (by rfl) (by rfl) (by rfl)).mono ?_
       rintro e w7 ⟨ya,y0,y1,y2,yl,rfl,H7⟩
       (try go_simp)
       refine hK.out _ _ trivial ?_;clear hK K;refine zG (fuel:=3) (fuel':=4) (i:=5) rfl (by decide +kernel) rfl rfl (by rfl) ?_
       intro K hK;go_simp;refine hK.out _ _ trivial ?_;clear hK K;obtain ⟨hk7,hx7,o7,cap7,hrd7⟩:=H7.out;have HRD7:Hid (zh r g o7 cap7 us4 w7):=hrd7;have hpg7:=HPG6.out.kept hk7.size fun k hk hlt=>hk7.block k hlt (by have:=HS6.out;omega)
       obtain ⟨lus,hown7,hnext7⟩:=Z6.more (Y5 xp _) hpg7.r;rw [←HNR.out] at hown7;have HOWN:Hid (w7.ownsRow (w.heap.size+2) 74 3 (.slice rb nr rc) nr lus.flatten):=hown7;have HP7:Hid (w7.heap[P]?=some (vF (.slice rb nr rc) (.slice fb nf fc))):=(hk7.block P HS6.out.2.1 (by have:=HS6.out;omega)).trans HB6.out.2
       have HS7:Hid (w.heap.size+2≤w7.heap.size∧P<w7.heap.size):=by have:=HS6.out;have:=hk7.size;exact ⟨by omega,by omega⟩
       have HBL:Hid (nr+1≤1099511627776):=show _≤_ by have:=HNR.out;have:=HNF.out;simp only [List.length_cons] at hN2;omega
       clear hk7 hx7 hrd7 hown7;refine x6 (fuel:=2) (fuel':=3) (i:=6) rfl (by decide +kernel) rfl rfl (by rfl) ?_
       intro K hK;refine yW _ _ 22 rfl (by rfl) (w.heap.size+2) 74 iR _ 3 48 Tryz.underlying22 hiR hzR0 hzR1 hzR2 rfl (by decide) _ _ _ rfl (HOWN.out.alloc _) ⟨w7.heap.size,0,none⟩ 1 1 [.string ya,.slice y0 y1 y2,.int .i64 yl] rfl rfl (Zl _ _ _) (by simp [Value.oneCell']) (by have:=HBL.out;unfold maxLen;omega) (by have:=HBL.out;omega) (by have:=HS7.out;simp;omega) ?_
       intro v' w9 hown' hgrow0 hat0;have hgrow:(w7.alloc (.cells #[.string ya,.slice y0 y1 y2,.int .i64 yl] 74)).grownBy w9 (Value.ownBlock (.slice rb nr rc)):=hgrow0;have hat:v'.ownBlock=Value.ownBlock (.slice rb nr rc)∨v'.ownBlock=some (w7.alloc (.cells #[.string ya,.slice y0 y1 y2,.int .i64 yl] 74)).heap.size:=hat0;clear hgrow0 hat0
       obtain ⟨vg,vc,hv'⟩:∃vg vc,v'=.slice (some ⟨vg,0,none⟩) (nr+1) vc:=by
        rcases hown'.2 with ⟨_,h0⟩ | ⟨g',cap',_,h1,_⟩
        ·omega
        ·exact ⟨g',cap',h1⟩
       subst hv';have hown'':=hown';rw [HNR.out] at hown''
       have HJ9:Hid (PgJ r g w F res (w9.setCell ⟨P,0,none⟩ (.slice (some ⟨vg,0,none⟩) (nr+1) vc))∧yu r (w9.setCell ⟨P,0,none⟩ (.slice (some ⟨vg,0,none⟩) (nr+1) vc))=us4.length):=by
        rw [HNR.out];exact PgJ.addR HP.out HK6.out HB6.out.1 HB6.out.2 hpg7 (fun q hq=>⟨(HPG6.out.r.block q hq).1,(HPG6.out.r.block q hq).2⟩) (fun q hq=>(HPG6.out.f.block q hq).2) hnext7 hr hgw H7.out.1 H7.out.2.1 rfl HRD7.out hown'' hgrow hat hf3' HT3.out hE4 (by simp only [List.length_cons] at hN2 hl4;omega)
       have p9:w9.heap[P]?=some (vF (.slice rb nr rc) (.slice fb nf fc)):=(hgrow.block P (by have:=HS7.out;simp;omega) (fun e=>by have:=(HPG6.out.r.block P e.symm).1;have:=HP.out;omega)).trans ((Below.heap_alloc _ _ _ HS7.out.2).trans HP7.out)
       obtain ⟨n0,n1,nf'⟩:=zZ p9;have nfx:=nf' 0;clear hown' hown'' hgrow hat p9 nf' hpg7 hnext7;refine hK.out _ _ trivial ?_;clear hK K;simp only [Act.put,List.setIfInBounds_toArray,List.set_cons_zero,List.set_cons_succ];refine Zz (fuel:=1) (fuel':=2) (idx:=[7]) (by decide +kernel) rfl rfl rfl (fun _ _ _ _ _ h=>h) trivial ?_
       show wpQuiet _ _ _ _ [_] _
       iterate 1 (go_big_quiet_step (exact rfl))
       refine wpQuiet_nil ?_;refine zG (fuel:=0) (fuel':=1) (i:=8) rfl (by decide +kernel) rfl rfl (by rfl) ?_
       intro K hK;go_simp;refine hK.out _ _ trivial ?_;clear hK K;refine ym (by decide +kernel) ?_
       go_wp2_with fail
       exact ⟨HJ9.out.1,by rw [HJ9.out.2,hleft];simp only [List.length_cons];omega⟩
      ·intro K hK
       go_simp;refine (CU.out _ (by rfl) (by rfl) (by rfl) (by rfl)).mono ?_
       rintro e w7 ⟨ya,y0,y1,y2,yl,rfl,H7⟩
       (try go_simp)
       refine hK.out _ _ trivial ?_;clear hK K;obtain ⟨lp0,lp1,-⟩:=zZ ((H7.out.1.block P HS6.out.2.1 (by have:=HS6.out;omega)).trans HB6.out.2)
       have lp0':=ze lp0;have lp1':=ze lp1;refine YV (fuel:=4) (fuel':=5) (i:=1) (k:=5) rfl rfl (by decide +kernel) rfl rfl rfl (by rfl) (by rfl) ?_ ?_
       ·intro K hK
        go_simp;refine hK.out _ _ trivial ?_;clear hK K;refine zG (fuel:=3) (fuel':=4) (i:=5) rfl (by decide +kernel) rfl rfl (by rfl) ?_
        intro K hK;go_simp;refine hK.out _ _ trivial ?_;clear hK K;obtain ⟨hk7,hx7,o7,cap7,hrd7⟩:=H7.out;have HRD7:Hid (zh r g o7 cap7 us4 w7):=hrd7;have hpg7:=HPG6.out.kept hk7.size fun k hk hlt=>hk7.block k hlt (by have:=HS6.out;omega)
        obtain ⟨lus,hown7,hnext7⟩:=Z6.more (Y5 xp _) hpg7.r;rw [←HNR.out] at hown7;have HOWN:Hid (w7.ownsRow (w.heap.size+2) 74 3 (.slice rb nr rc) nr lus.flatten):=hown7;have HP7:Hid (w7.heap[P]?=some (vF (.slice rb nr rc) (.slice fb nf fc))):=(hk7.block P HS6.out.2.1 (by have:=HS6.out;omega)).trans HB6.out.2
        have HS7:Hid (w.heap.size+2≤w7.heap.size∧P<w7.heap.size):=by have:=HS6.out;have:=hk7.size;exact ⟨by omega,by omega⟩
        have HBL:Hid (nr+1≤1099511627776):=show _≤_ by have:=HNR.out;have:=HNF.out;simp only [List.length_cons] at hN2;omega
        clear hk7 hx7 hrd7 hown7;refine x6 (fuel:=2) (fuel':=3) (i:=6) rfl (by decide +kernel) rfl rfl (by rfl) ?_
        intro K hK;refine yW _ _ 22 rfl (by rfl) (w.heap.size+2) 74 iR _ 3 48 Tryz.underlying22 hiR hzR0 hzR1 hzR2 rfl (by decide) _ _ _ rfl (HOWN.out.alloc _) ⟨w7.heap.size,0,none⟩ 1 1 [.string ya,.slice y0 y1 y2,.int .i64 yl] rfl rfl (Zl _ _ _) (by simp [Value.oneCell']) (by have:=HBL.out;unfold maxLen;omega) (by have:=HBL.out;omega) (by have:=HS7.out;simp;omega) ?_
        intro v' w9 hown' hgrow0 hat0;have hgrow:(w7.alloc (.cells #[.string ya,.slice y0 y1 y2,.int .i64 yl] 74)).grownBy w9 (Value.ownBlock (.slice rb nr rc)):=hgrow0;have hat:v'.ownBlock=Value.ownBlock (.slice rb nr rc)∨v'.ownBlock=some (w7.alloc (.cells #[.string ya,.slice y0 y1 y2,.int .i64 yl] 74)).heap.size:=hat0;clear hgrow0 hat0
        obtain ⟨vg,vc,hv'⟩:∃vg vc,v'=.slice (some ⟨vg,0,none⟩) (nr+1) vc:=by
         rcases hown'.2 with ⟨_,h0⟩ | ⟨g',cap',_,h1,_⟩
         ·omega
         ·exact ⟨g',cap',h1⟩
        subst hv';have hown'':=hown';rw [HNR.out] at hown''
        have HJ9:Hid (PgJ r g w F res (w9.setCell ⟨P,0,none⟩ (.slice (some ⟨vg,0,none⟩) (nr+1) vc))∧yu r (w9.setCell ⟨P,0,none⟩ (.slice (some ⟨vg,0,none⟩) (nr+1) vc))=us4.length):=by
         rw [HNR.out];exact PgJ.addR HP.out HK6.out HB6.out.1 HB6.out.2 hpg7 (fun q hq=>⟨(HPG6.out.r.block q hq).1,(HPG6.out.r.block q hq).2⟩) (fun q hq=>(HPG6.out.f.block q hq).2) hnext7 hr hgw H7.out.1 H7.out.2.1 rfl HRD7.out hown'' hgrow hat hf3' HT3.out hE4 (by simp only [List.length_cons] at hN2 hl4;omega)
        have p9:w9.heap[P]?=some (vF (.slice rb nr rc) (.slice fb nf fc)):=(hgrow.block P (by have:=HS7.out;simp;omega) (fun e=>by have:=(HPG6.out.r.block P e.symm).1;have:=HP.out;omega)).trans ((Below.heap_alloc _ _ _ HS7.out.2).trans HP7.out)
        obtain ⟨n0,n1,nf'⟩:=zZ p9;have nfx:=nf' 0;clear hown' hown'' hgrow hat p9 nf' hpg7 hnext7;refine hK.out _ _ trivial ?_;clear hK K;simp only [Act.put,List.setIfInBounds_toArray,List.set_cons_zero,List.set_cons_succ];refine Zz (fuel:=1) (fuel':=2) (idx:=[7]) (by decide +kernel) rfl rfl rfl (fun _ _ _ _ _ h=>h) trivial ?_
        show wpQuiet _ _ _ _ [_] _
        iterate 1 (go_big_quiet_step (exact rfl))
        refine wpQuiet_nil ?_;refine zG (fuel:=0) (fuel':=1) (i:=8) rfl (by decide +kernel) rfl rfl (by rfl) ?_
        intro K hK;go_simp;refine hK.out _ _ trivial ?_;clear hK K;refine ym (by decide +kernel) ?_
        go_wp2_with fail
        exact ⟨HJ9.out.1,by rw [HJ9.out.2,hleft];simp only [List.length_cons];omega⟩
       ·intro K hK
        go_simp;refine hK.out _ _ trivial ?_;clear hK K;refine zG (fuel:=3) (fuel':=4) (i:=1) rfl (by decide +kernel) rfl rfl (by rfl) ?_
        intro K hK;go_simp;refine hK.out _ _ trivial ?_;clear hK K;obtain ⟨hk7,hx7,o7,cap7,hrd7⟩:=H7.out;have HRD7:Hid (zh r g o7 cap7 us4 w7):=hrd7;have hpg7:=HPG6.out.kept hk7.size fun k hk hlt=>hk7.block k hlt (by have:=HS6.out;omega)
        obtain ⟨lus,hown7,hnext7⟩:=Z6.more (Y5 xp _) hpg7.r;rw [←HNR.out] at hown7;have HOWN:Hid (w7.ownsRow (w.heap.size+2) 74 3 (.slice rb nr rc) nr lus.flatten):=hown7;have HP7:Hid (w7.heap[P]?=some (vF (.slice rb nr rc) (.slice fb nf fc))):=(hk7.block P HS6.out.2.1 (by have:=HS6.out;omega)).trans HB6.out.2
        have HS7:Hid (w.heap.size+2≤w7.heap.size∧P<w7.heap.size):=by have:=HS6.out;have:=hk7.size;exact ⟨by omega,by omega⟩
        have HBL:Hid (nr+1≤1099511627776):=show _≤_ by have:=HNR.out;have:=HNF.out;simp only [List.length_cons] at hN2;omega
        clear hk7 hx7 hrd7 hown7;refine x6 (fuel:=2) (fuel':=3) (i:=6) rfl (by decide +kernel) rfl rfl (by rfl) ?_
        intro K hK;refine yW _ _ 22 rfl (by rfl) (w.heap.size+2) 74 iR _ 3 48 Tryz.underlying22 hiR hzR0 hzR1 hzR2 rfl (by decide) _ _ _ rfl (HOWN.out.alloc _) ⟨w7.heap.size,0,none⟩ 1 1 [.string ya,.slice y0 y1 y2,.int .i64 yl] rfl rfl (Zl _ _ _) (by simp [Value.oneCell']) (by have:=HBL.out;unfold maxLen;omega) (by have:=HBL.out;omega) (by have:=HS7.out;simp;omega) ?_
        intro v' w9 hown' hgrow0 hat0;have hgrow:(w7.alloc (.cells #[.string ya,.slice y0 y1 y2,.int .i64 yl] 74)).grownBy w9 (Value.ownBlock (.slice rb nr rc)):=hgrow0;have hat:v'.ownBlock=Value.ownBlock (.slice rb nr rc)∨v'.ownBlock=some (w7.alloc (.cells #[.string ya,.slice y0 y1 y2,.int .i64 yl] 74)).heap.size:=hat0;clear hgrow0 hat0
        obtain ⟨vg,vc,hv'⟩:∃vg vc,v'=.slice (some ⟨vg,0,none⟩) (nr+1) vc:=by
         rcases hown'.2 with ⟨_,h0⟩ | ⟨g',cap',_,h1,_⟩
         ·omega
         ·exact ⟨g',cap',h1⟩
        subst hv';have hown'':=hown';rw [HNR.out] at hown''
        have HJ9:Hid (PgJ r g w F res (w9.setCell ⟨P,0,none⟩ (.slice (some ⟨vg,0,none⟩) (nr+1) vc))∧yu r (w9.setCell ⟨P,0,none⟩ (.slice (some ⟨vg,0,none⟩) (nr+1) vc))=us4.length):=by
         rw [HNR.out];exact PgJ.addR HP.out HK6.out HB6.out.1 HB6.out.2 hpg7 (fun q hq=>⟨(HPG6.out.r.block q hq).1,(HPG6.out.r.block q hq).2⟩) (fun q hq=>(HPG6.out.f.block q hq).2) hnext7 hr hgw H7.out.1 H7.out.2.1 rfl HRD7.out hown'' hgrow hat hf3' HT3.out hE4 (by simp only [List.length_cons] at hN2 hl4;omega)
        have p9:w9.heap[P]?=some (vF (.slice rb nr rc) (.slice fb nf fc)):=(hgrow.block P (by have:=HS7.out;simp;omega) (fun e=>by have:=(HPG6.out.r.block P e.symm).1;have:=HP.out;omega)).trans ((Below.heap_alloc _ _ _ HS7.out.2).trans HP7.out)
        obtain ⟨n0,n1,nf'⟩:=zZ p9;have nfx:=nf' 0;clear hown' hown'' hgrow hat p9 nf' hpg7 hnext7;refine hK.out _ _ trivial ?_;clear hK K;simp only [Act.put,List.setIfInBounds_toArray,List.set_cons_zero,List.set_cons_succ];refine Zz (fuel:=1) (fuel':=2) (idx:=[7]) (by decide +kernel) rfl rfl rfl (fun _ _ _ _ _ h=>h) trivial ?_
        show wpQuiet _ _ _ _ [_] _
        iterate 1 (go_big_quiet_step (exact rfl))
        refine wpQuiet_nil ?_;refine zG (fuel:=0) (fuel':=1) (i:=8) rfl (by decide +kernel) rfl rfl (by rfl) ?_
        intro K hK;go_simp;refine hK.out _ _ trivial ?_;clear hK K;refine ym (by decide +kernel) ?_
        go_wp2_with fail
        exact ⟨HJ9.out.1,by rw [HJ9.out.2,hleft];simp only [List.length_cons];omega⟩
   ·have i1':zn t2 [114,101,99,111,114,100]=false:=by simpa using i1
    rw [i1'] at c1;rw [if_neg i1] at hT;go_wp2_with fail
    refine c1.mono ?_;clear c1;rintro e wd ⟨rfl,hkd,hd⟩;have hrdd:zh r g o2 cap2 (t2::ts3) wd:=by simpa using hd
    have HKD:Hid (zc r wr wd):=HKB.out.trans hkd;have c2:=ZL r g o2 cap2 t2 ts3 [102,110] wd hrdd (fun hi=>(hE2.tail (zl hi)).ne)
    clear hd hkd
    by_cases i2:zn t2 [102,110]=true
    ·rw [i2] at c2
     rw [if_pos i2] at hT;go_wp2_with fail
     refine c2.mono ?_;clear c2;rintro e w6 ⟨rfl,hk6,h6⟩;have hrd6:zh r g (o2+5) (cap2-1) ts3 w6:=by simpa using h6
     have HK6:Hid (zc r w w6):=HK2.out.trans (HKD.out.trans hk6);have hkr6:zc r wr w6:=HKD.out.trans hk6;have hE3:=hE2.tail (zl i2);have hsw:=HK2.out.size;have hs6:=hkr6.size;have hp':=HP.out;have hNl:w.heap.size<wr.heap.size:=(Array.getElem?_eq_some_iff.1 HB.out.1).1;have hPl:P<wr.heap.size:=(Array.getElem?_eq_some_iff.1 HB.out.2).1;have HB6:Hid (w6.heap[w.heap.size]?=some xg∧w6.heap[P]?=some (vF (.slice rb nr rc) (.slice fb nf fc))):=⟨(hkr6.block _ hNl (by omega)).trans HB.out.1,(hkr6.block _ hPl (by omega)).trans HB.out.2⟩
     have HPG6:Hid (yg (w.heap.size+2) w6 rs fs (.slice rb nr rc) (.slice fb nf fc)):=HPG.out.kept hkr6.size fun k hk hlt=>hkr6.block k hlt (by omega)
     have HS6:Hid (P=w.heap.size+1∧P<w6.heap.size∧r<w.heap.size):=⟨hp',by omega,hr⟩
     cases hb3:yX f3 LN ts3 with
     | none=>rw [hb3] at hT;cases hT
     | some r3 =>
      rw [hb3] at hT;have hf3':f3≤F:=by omega
      have hb4:yX F LN ts3=some r3:=by
       have:=zbI (k:=F-f3) hb3
       rwa [show f3+(F-f3)=F by omega] at this
      have cb:∀W:World,W.heap=w6.heap→W.os=w6.os→W.tape=w6.tape→W.output=w6.output→Calls Tryz.prog 54 #[.pointer (some ⟨r,0,none⟩),.int .i64 (LN:Int)] W (qt r g w6 r3):=fun W e1 e2 e3 e4=>by
       have hKW:zc r w6 W:=⟨e2,e3,e4,by rw [e1];exact Nat.le_refl _,fun k _ _=>by rw [e1]⟩
       refine (HFUN.out W _ _ ts3 r3 LN hb4 hE3 (hrd6.keep (by rw [e1]) (by rw [e1])) (HK6.out.trans hKW)).mono fun e w' hh=>?_
       refine ⟨hKW.trans hh.1,?_⟩;have h9:=hh.2;rw [e1] at h9;exact h9
      have CB:Hid (∀W:World,W.heap=w6.heap→W.os=w6.os→W.tape=w6.tape→W.output=w6.output→Calls Tryz.prog 54 #[.pointer (some ⟨r,0,none⟩),.int .i64 (LN:Int)] W (qt r g w6 r3)):=cb;obtain ⟨l0,l1,-⟩:=zZ HB6.out.2;clear cb hrd6 h6 hk6 hkr6 hsw hs6 hp' hNl hPl HB HPG;rcases r3 with a3 | ⟨x,us4⟩
      ·simp only [zq,Option.some.injEq] at hT
       subst hT;have cu':∀W:World,W.heap=w6.heap→W.os=w6.os→W.tape=w6.tape→W.output=w6.output→Calls Tryz.prog 54 #[.pointer (some ⟨r,0,none⟩),.int .i64 (LN:Int)] W fun e w'=>e=Z2 a3∧zc r w w':=fun W e1 e2 e3 e4=>(CB.out W e1 e2 e3 e4).mono fun e w' h=>⟨h.2,HK6.out.trans h.1⟩
       clear CB;go_wp2_with fail
       go_region_dies
       all_goals (go_wp2_with fail;refine (cu' _ (by rfl) (by rfl) (by rfl) (by rfl)).mono ?_;rintro e w4 ⟨rfl,hk4⟩;exact ⟨rfl,hk4,rfl⟩)
      ·have hE4:=Xq hb4 hE3
       have hl4:=zew hb4 hE3;have HT3:Hid (ZR f3 rs (fs++[x]) us4=some res):=hT
       have CU:Hid (∀W:World,W.heap=w6.heap→W.os=w6.os→W.tape=w6.tape→W.output=w6.output→Calls Tryz.prog 54 #[.pointer (some ⟨r,0,none⟩),.int .i64 (LN:Int)] W fun e w'=>∃(ya:ByteArray) (y0:Option Addr) (y1 y2:Nat) (yt:ByteArray) (u0:Option Addr) (u1 u2:Nat) (yl:Int),e=.returned (.agg #[.string ya,.slice y0 y1 y2,.string yt,.slice u0 u1 u2,.int .i64 yl])∧Hid (zc r w6 w'∧FcE (fun k=>w6.heap.size≤k) w' x [.string ya,.slice y0 y1 y2,.string yt,.slice u0 u1 u2,.int .i64 yl]∧∃o7 cap7,zh r g o7 cap7 us4 w')):=fun W e1 e2 e3 e4=>(CB.out W e1 e2 e3 e4).mono fun e w' h=>by
        obtain ⟨hk7,v,o7,cap7,rfl,⟨vp,vb,rfl,hxp,hxb⟩,hrd7⟩:=h;obtain ⟨y0,y1,y2,rfl⟩:=hxp.slice;obtain ⟨u0,u1,u2,rfl⟩:=hxb.slice;exact ⟨_,y0,y1,y2,_,u0,u1,u2,_,rfl,hk7,⟨_,_,rfl,hxp.toG,hxb⟩,o7,cap7,hrd7⟩
       clear CB hT hb3 hb4;go_wp2_with fail
       refine YK (n:=9) (S:=fun _=>True) (by kernel_rfl) rfl rfl ?_
       refine Zz (fuel:=6) (fuel':=9) (idx:=[0,2,3]) (by decide +kernel) rfl rfl rfl (fun _ _ _ _ _ h=>h) trivial ?_
       show wpQuiet _ _ _ _ [_,_,_] _
       iterate 3 (go_big_quiet_step (exact rfl))
       refine wpQuiet_nil ?_;refine YV (fuel:=5) (fuel':=6) (i:=1) (k:=4) rfl rfl (by decide +kernel) rfl rfl rfl (by rfl) (by rfl) ?_ ?_
       ·intro K hK
        go_simp;refine hK.out _ _ trivial ?_;clear hK K;refine zG (fuel:=4) (fuel':=5) (i:=4) rfl (by decide +kernel) rfl rfl (by rfl) ?_
        intro K hK;go_simp;refine (CU.out _ (by rfl) (by rfl) (by rfl) (by rfl)).mono ?_
        rintro e w7 ⟨ya,y0,y1,y2,yt,u0,u1,u2,yl,rfl,H7⟩
        (try go_simp)
        refine hK.out _ _ trivial ?_;clear hK K;refine zG (fuel:=3) (fuel':=4) (i:=5) rfl (by decide +kernel) rfl rfl (by rfl) ?_
        intro K hK;go_simp;refine hK.out _ _ trivial ?_;clear hK K;obtain ⟨hk7,hx7,o7,cap7,hrd7⟩:=H7.out;have HRD7:Hid (zh r g o7 cap7 us4 w7):=hrd7;have hpg7:=HPG6.out.kept hk7.size fun k hk hlt=>hk7.block k hlt (by have:=HS6.out;omega)
        obtain ⟨lus,hown7,hnext7⟩:=Z6.more (Y5 YA _) hpg7.f;rw [←HNF.out] at hown7;have HOWN:Hid (w7.ownsRow (w.heap.size+2) 72 5 (.slice fb nf fc) nf lus.flatten):=hown7;have HP7:Hid (w7.heap[P]?=some (vF (.slice rb nr rc) (.slice fb nf fc))):=(hk7.block P HS6.out.2.1 (by have:=HS6.out;omega)).trans HB6.out.2
        have HS7:Hid (w.heap.size+2≤w7.heap.size∧P<w7.heap.size):=by have:=HS6.out;have:=hk7.size;exact ⟨by omega,by omega⟩
        have HBL:Hid (nf+1≤1099511627776):=show _≤_ by have:=HNR.out;have:=HNF.out;simp only [List.length_cons] at hN2;omega
        clear hk7 hx7 hrd7 hown7;refine x6 (fuel:=2) (fuel':=3) (i:=6) rfl (by decide +kernel) rfl rfl (by rfl) ?_
        intro K hK;refine yW _ _ 23 rfl (by rfl) (w.heap.size+2) 72 iF _ 5 88 Tryz.underlying23 hiF hzF0 hzF1 hzF2 rfl (by decide) _ _ _ rfl (HOWN.out.alloc _) ⟨w7.heap.size,0,none⟩ 1 1 [.string ya,.slice y0 y1 y2,.string yt,.slice u0 u1 u2,.int .i64 yl] rfl rfl (Zl _ _ _) (by simp [Value.oneCell']) (by have:=HBL.out;unfold maxLen;omega) (by have:=HBL.out;omega) (by have:=HS7.out;simp;omega) ?_
        intro v' w9 hown' hgrow0 hat0;have hgrow:(w7.alloc (.cells #[.string ya,.slice y0 y1 y2,.string yt,.slice u0 u1 u2,.int .i64 yl] 72)).grownBy w9 (Value.ownBlock (.slice fb nf fc)):=hgrow0;have hat:v'.ownBlock=Value.ownBlock (.slice fb nf fc)∨v'.ownBlock=some (w7.alloc (.cells #[.string ya,.slice y0 y1 y2,.string yt,.slice u0 u1 u2,.int .i64 yl] 72)).heap.size:=hat0;clear hgrow0 hat0
        obtain ⟨vg,vc,hv'⟩:∃vg vc,v'=.slice (some ⟨vg,0,none⟩) (nf+1) vc:=by
         rcases hown'.2 with ⟨_,h0⟩ | ⟨g',cap',_,h1,_⟩
         ·omega
         ·exact ⟨g',cap',h1⟩
        subst hv';have hown'':=hown';rw [HNF.out] at hown''
        have HJ9:Hid (PgJ r g w F res (w9.setCell ⟨P,1,none⟩ (.slice (some ⟨vg,0,none⟩) (nf+1) vc))∧yu r (w9.setCell ⟨P,1,none⟩ (.slice (some ⟨vg,0,none⟩) (nf+1) vc))=us4.length):=by
         rw [HNF.out];exact PgJ.addF HP.out HK6.out HB6.out.1 HB6.out.2 hpg7 (fun q hq=>⟨(HPG6.out.f.block q hq).1,(HPG6.out.f.block q hq).2⟩) (fun q hq=>(HPG6.out.r.block q hq).2) hnext7 hr hgw H7.out.1 H7.out.2.1 rfl HRD7.out hown'' hgrow hat hf3' HT3.out hE4 (by simp only [List.length_cons] at hN2 hl4;omega)
        have p9:w9.heap[P]?=some (vF (.slice rb nr rc) (.slice fb nf fc)):=(hgrow.block P (by have:=HS7.out;simp;omega) (fun e=>by have:=(HPG6.out.f.block P e.symm).1;have:=HP.out;omega)).trans ((Below.heap_alloc _ _ _ HS7.out.2).trans HP7.out)
        obtain ⟨n0,n1,nf'⟩:=zZ p9;have nfx:=nf' 1;clear hown' hown'' hgrow hat p9 nf' hpg7 hnext7;refine hK.out _ _ trivial ?_;clear hK K;simp only [Act.put,List.setIfInBounds_toArray,List.set_cons_zero,List.set_cons_succ];refine Zz (fuel:=1) (fuel':=2) (idx:=[7]) (by decide +kernel) rfl rfl rfl (fun _ _ _ _ _ h=>h) trivial ?_
        show wpQuiet _ _ _ _ [_] _
        iterate 1 (go_big_quiet_step (exact rfl))
        refine wpQuiet_nil ?_;refine zG (fuel:=0) (fuel':=1) (i:=8) rfl (by decide +kernel) rfl rfl (by rfl) ?_
        intro K hK;go_simp;refine hK.out _ _ trivial ?_;clear hK K;refine ym (by decide +kernel) ?_
        go_wp2_with fail
        exact ⟨HJ9.out.1,by rw [HJ9.out.2,hleft];simp only [List.length_cons];omega⟩
       ·intro K hK
        go_simp;refine (CU.out _ (by rfl) (by rfl) (by rfl) (by rfl)).mono ?_
        rintro e w7 ⟨ya,y0,y1,y2,yt,u0,u1,u2,yl,rfl,H7⟩
        (try go_simp)
        refine hK.out _ _ trivial ?_;clear hK K;obtain ⟨lp0,lp1,-⟩:=zZ ((H7.out.1.block P HS6.out.2.1 (by have:=HS6.out;omega)).trans HB6.out.2)
        have lp0':=ze lp0;have lp1':=ze lp1;refine YV (fuel:=4) (fuel':=5) (i:=1) (k:=5) rfl rfl (by decide +kernel) rfl rfl rfl (by rfl) (by rfl) ?_ ?_
        ·intro K hK
         go_simp;refine hK.out _ _ trivial ?_;clear hK K;refine zG (fuel:=3) (fuel':=4) (i:=5) rfl (by decide +kernel) rfl rfl (by rfl) ?_
         intro K hK;go_simp;refine hK.out _ _ trivial ?_;clear hK K;obtain ⟨hk7,hx7,o7,cap7,hrd7⟩:=H7.out;have HRD7:Hid (zh r g o7 cap7 us4 w7):=hrd7;have hpg7:=HPG6.out.kept hk7.size fun k hk hlt=>hk7.block k hlt (by have:=HS6.out;omega)
         obtain ⟨lus,hown7,hnext7⟩:=Z6.more (Y5 YA _) hpg7.f;rw [←HNF.out] at hown7;have HOWN:Hid (w7.ownsRow (w.heap.size+2) 72 5 (.slice fb nf fc) nf lus.flatten):=hown7;have HP7:Hid (w7.heap[P]?=some (vF (.slice rb nr rc) (.slice fb nf fc))):=(hk7.block P HS6.out.2.1 (by have:=HS6.out;omega)).trans HB6.out.2
         have HS7:Hid (w.heap.size+2≤w7.heap.size∧P<w7.heap.size):=by have:=HS6.out;have:=hk7.size;exact ⟨by omega,by omega⟩
         have HBL:Hid (nf+1≤1099511627776):=show _≤_ by have:=HNR.out;have:=HNF.out;simp only [List.length_cons] at hN2;omega
         clear hk7 hx7 hrd7 hown7;refine x6 (fuel:=2) (fuel':=3) (i:=6) rfl (by decide +kernel) rfl rfl (by rfl) ?_
         intro K hK;refine yW _ _ 23 rfl (by rfl) (w.heap.size+2) 72 iF _ 5 88 Tryz.underlying23 hiF hzF0 hzF1 hzF2 rfl (by decide) _ _ _ rfl (HOWN.out.alloc _) ⟨w7.heap.size,0,none⟩ 1 1 [.string ya,.slice y0 y1 y2,.string yt,.slice u0 u1 u2,.int .i64 yl] rfl rfl (Zl _ _ _) (by simp [Value.oneCell']) (by have:=HBL.out;unfold maxLen;omega) (by have:=HBL.out;omega) (by have:=HS7.out;simp;omega) ?_
         intro v' w9 hown' hgrow0 hat0;have hgrow:(w7.alloc (.cells #[.string ya,.slice y0 y1 y2,.string yt,.slice u0 u1 u2,.int .i64 yl] 72)).grownBy w9 (Value.ownBlock (.slice fb nf fc)):=hgrow0;have hat:v'.ownBlock=Value.ownBlock (.slice fb nf fc)∨v'.ownBlock=some (w7.alloc (.cells #[.string ya,.slice y0 y1 y2,.string yt,.slice u0 u1 u2,.int .i64 yl] 72)).heap.size:=hat0;clear hgrow0 hat0
         obtain ⟨vg,vc,hv'⟩:∃vg vc,v'=.slice (some ⟨vg,0,none⟩) (nf+1) vc:=by
          rcases hown'.2 with ⟨_,h0⟩ | ⟨g',cap',_,h1,_⟩
          ·omega
          ·exact ⟨g',cap',h1⟩
         subst hv';have hown'':=hown';rw [HNF.out] at hown''
         have HJ9:Hid (PgJ r g w F res (w9.setCell ⟨P,1,none⟩ (.slice (some ⟨vg,0,none⟩) (nf+1) vc))∧yu r (w9.setCell ⟨P,1,none⟩ (.slice (some ⟨vg,0,none⟩) (nf+1) vc))=us4.length):=by
          rw [HNF.out];exact PgJ.addF HP.out HK6.out HB6.out.1 HB6.out.2 hpg7 (fun q hq=>⟨(HPG6.out.f.block q hq).1,(HPG6.out.f.block q hq).2⟩) (fun q hq=>(HPG6.out.r.block q hq).2) hnext7 hr hgw H7.out.1 H7.out.2.1 rfl HRD7.out hown'' hgrow hat hf3' HT3.out hE4 (by simp only [List.length_cons] at hN2 hl4;omega)
         have p9:w9.heap[P]?=some (vF (.slice rb nr rc) (.slice fb nf fc)):=(hgrow.block P (by have:=HS7.out;simp;omega) (fun e=>by have:=(HPG6.out.f.block P e.symm).1;have:=HP.out;omega)).trans ((Below.heap_alloc _ _ _ HS7.out.2).trans HP7.out)
         obtain ⟨n0,n1,nf'⟩:=zZ p9;have nfx:=nf' 1;clear hown' hown'' hgrow hat p9 nf' hpg7 hnext7;refine hK.out _ _ trivial ?_;clear hK K;simp only [Act.put,List.setIfInBounds_toArray,List.set_cons_zero,List.set_cons_succ];refine Zz (fuel:=1) (fuel':=2) (idx:=[7]) (by decide +kernel) rfl rfl rfl (fun _ _ _ _ _ h=>h) trivial ?_
         show wpQuiet _ _ _ _ [_] _
         iterate 1 (go_big_quiet_step (exact rfl))
         refine wpQuiet_nil ?_;refine zG (fuel:=0) (fuel':=1) (i:=8) rfl (by decide +kernel) rfl rfl (by rfl) ?_
         intro K hK;go_simp;refine hK.out _ _ trivial ?_;clear hK K;refine ym (by decide +kernel) ?_
         go_wp2_with fail
         exact ⟨HJ9.out.1,by rw [HJ9.out.2,hleft];simp only [List.length_cons];omega⟩
        ·intro K hK
         go_simp;refine hK.out _ _ trivial ?_;clear hK K;refine zG (fuel:=3) (fuel':=4) (i:=1) rfl (by decide +kernel) rfl rfl (by rfl) ?_
         intro K hK;go_simp;refine hK.out _ _ trivial ?_;clear hK K;obtain ⟨hk7,hx7,o7,cap7,hrd7⟩:=H7.out;have HRD7:Hid (zh r g o7 cap7 us4 w7):=hrd7;have hpg7:=HPG6.out.kept hk7.size fun k hk hlt=>hk7.block k hlt (by have:=HS6.out;omega)
         obtain ⟨lus,hown7,hnext7⟩:=Z6.more (Y5 YA _) hpg7.f;rw [←HNF.out] at hown7;have HOWN:Hid (w7.ownsRow (w.heap.size+2) 72 5 (.slice fb nf fc) nf lus.flatten):=hown7;have HP7:Hid (w7.heap[P]?=some (vF (.slice rb nr rc) (.slice fb nf fc))):=(hk7.block P HS6.out.2.1 (by have:=HS6.out;omega)).trans HB6.out.2
         have HS7:Hid (w.heap.size+2≤w7.heap.size∧P<w7.heap.size):=by have:=HS6.out;have:=hk7.size;exact ⟨by omega,by omega⟩
         have HBL:Hid (nf+1≤1099511627776):=show _≤_ by have:=HNR.out;have:=HNF.out;simp only [List.length_cons] at hN2;omega
         clear hk7 hx7 hrd7 hown7;refine x6 (fuel:=2) (fuel':=3) (i:=6) rfl (by decide +kernel) rfl rfl (by rfl) ?_
         intro K hK;refine yW _ _ 23 rfl (by rfl) (w.heap.size+2) 72 iF _ 5 88 Tryz.underlying23 hiF hzF0 hzF1 hzF2 rfl (by decide) _ _ _ rfl (HOWN.out.alloc _) ⟨w7.heap.size,0,none⟩ 1 1 [.string ya,.slice y0 y1 y2,.string yt,.slice u0 u1 u2,.int .i64 yl] rfl rfl (Zl _ _ _) (by simp [Value.oneCell']) (by have:=HBL.out;unfold maxLen;omega) (by have:=HBL.out;omega) (by have:=HS7.out;simp;omega) ?_
         intro v' w9 hown' hgrow0 hat0;have hgrow:(w7.alloc (.cells #[.string ya,.slice y0 y1 y2,.string yt,.slice u0 u1 u2,.int .i64 yl] 72)).grownBy w9 (Value.ownBlock (.slice fb nf fc)):=hgrow0;have hat:v'.ownBlock=Value.ownBlock (.slice fb nf fc)∨v'.ownBlock=some (w7.alloc (.cells #[.string ya,.slice y0 y1 y2,.string yt,.slice u0 u1 u2,.int .i64 yl] 72)).heap.size:=hat0;clear hgrow0 hat0
         obtain ⟨vg,vc,hv'⟩:∃vg vc,v'=.slice (some ⟨vg,0,none⟩) (nf+1) vc:=by
          rcases hown'.2 with ⟨_,h0⟩ | ⟨g',cap',_,h1,_⟩
          ·omega
          ·exact ⟨g',cap',h1⟩
         subst hv';have hown'':=hown';rw [HNF.out] at hown''
         have HJ9:Hid (PgJ r g w F res (w9.setCell ⟨P,1,none⟩ (.slice (some ⟨vg,0,none⟩) (nf+1) vc))∧yu r (w9.setCell ⟨P,1,none⟩ (.slice (some ⟨vg,0,none⟩) (nf+1) vc))=us4.length):=by
          rw [HNF.out];exact PgJ.addF HP.out HK6.out HB6.out.1 HB6.out.2 hpg7 (fun q hq=>⟨(HPG6.out.f.block q hq).1,(HPG6.out.f.block q hq).2⟩) (fun q hq=>(HPG6.out.r.block q hq).2) hnext7 hr hgw H7.out.1 H7.out.2.1 rfl HRD7.out hown'' hgrow hat hf3' HT3.out hE4 (by simp only [List.length_cons] at hN2 hl4;omega)
         have p9:w9.heap[P]?=some (vF (.slice rb nr rc) (.slice fb nf fc)):=(hgrow.block P (by have:=HS7.out;simp;omega) (fun e=>by have:=(HPG6.out.f.block P e.symm).1;have:=HP.out;omega)).trans ((Below.heap_alloc _ _ _ HS7.out.2).trans HP7.out)
         obtain ⟨n0,n1,nf'⟩:=zZ p9;have nfx:=nf' 1;clear hown' hown'' hgrow hat p9 nf' hpg7 hnext7;refine hK.out _ _ trivial ?_;clear hK K;simp only [Act.put,List.setIfInBounds_toArray,List.set_cons_zero,List.set_cons_succ];refine Zz (fuel:=1) (fuel':=2) (idx:=[7]) (by decide +kernel) rfl rfl rfl (fun _ _ _ _ _ h=>h) trivial ?_
         show wpQuiet _ _ _ _ [_] _
         iterate 1 (go_big_quiet_step (exact rfl))
         refine wpQuiet_nil ?_;refine zG (fuel:=0) (fuel':=1) (i:=8) rfl (by decide +kernel) rfl rfl (by rfl) ?_
         intro K hK;go_simp;refine hK.out _ _ trivial ?_;clear hK K;refine ym (by decide +kernel) ?_
         go_wp2_with fail
         exact ⟨HJ9.out.1,by rw [HJ9.out.2,hleft];simp only [List.length_cons];omega⟩
    ·have i2':zn t2 [102,110]=false:=by simpa using i2
     rw [i2'] at c2;rw [if_neg i2] at hT;simp only [Option.some.injEq] at hT;subst hT;go_wp2_with fail
     refine c2.mono ?_;clear c2;rintro e we ⟨rfl,hke,he⟩;have hrde:zh r g o2 cap2 (t2::ts3) we:=by simpa using he
     have cg:=UZ r g o2 cap2 t2 ts3 we hrde;have HKE:Hid (zc r w we):=HK2.out.trans (HKD.out.trans hke);clear he hrde hke hrdd;go_wp2_with fail
     refine cg.mono ?_;clear cg;rintro e w' ⟨rfl,rfl⟩;exact ⟨rfl,HKE.out.alloc _,rfl⟩
end Go.Proofs.YtpejpbbdgblbeaaGreatDoor
