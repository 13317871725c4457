import Derived.Test.YtcphojjpapgblaaGreatDoorMC17
namespace Go.Proofs.YtcphojjpapgblaaGreatDoor
open Go.RowKit Go.Shelf
set_option maxHeartbeats 16000000
set_option maxRecDepth 100000
structure Fc where
 name:List UInt8
 params:List Pm
 result:List UInt8
 body:List St
 line:Nat
def yw (f:Nat) (ts:List Tk):Option (PR (List Pm)):=zh (zR [40] ts) fun _ us=>if zm (zu us) [41]=true then some (.ok ([],us.tail)) else zh (zP f [] us) fun l us=>zh (zR [41] us) fun _ us=>some (.ok (l,us))
def Xk (ts:List Tk):Option (PR (List UInt8)):=if zm (zu ts) [58]=true then some (ZK 0 ts.tail) else some (.ok ([],ts))
def ZZ (f line:Nat) (ts:List Tk):Option (PR Fc):=zh (Z6 ts) fun s us=>zh (yw f us) fun l us=>zh (Xk us) fun t us=>zh (zI f us) fun b us=>some (.ok (⟨s,l,t,b,line⟩,us))
def zjD (B:Nat) (w:World) (x:Fc) (v:Value):Prop :=
 ∃vp vb,v=.agg #[.string (zb x.name),vp,.string (zb x.result),vb,.int .i64 (x.line:Int)]∧ZU B w x.params vp∧z8 (fun k=>B≤k) w x.body vb
abbrev fcO (a:ByteArray) (p:Value) (t:ByteArray) (b:Value) (l:Int):Obj:=.cells #[.string a,p,.string t,b,.int .i64 l] 71
abbrev fcZ:Obj:=fcO ⟨#[]⟩ (.slice none 0 0) ⟨#[]⟩ (.slice none 0 0) 0
def UK (r g:Nat) (w:World) (res:PR Fc) (e:Ending) (w':World):Prop :=
 zc r w w'∧match res with
  | .error a=>e=ZG a
  | .ok (x,ts)=>∃v o cap,e=.returned v∧zjD w.heap.size w' x v∧zf r g o cap ts w'
theorem Yb {f:Nat}:∀{o l:List Pm} {ts us:List Tk},zP f o ts=some (.ok (l,us))→zi ts→zi us:=by
 induction f with
 | zero=>intro o l ts us h;simp [zP] at h
 | succ f ih =>
  intro o l ts us h G;rw [zP] at h;cases hb:Z9 ts with
  | error a=>rw [hb] at h;cases h
  | ok y =>
   obtain ⟨p,A⟩:=y;rw [hb] at h;simp only at h;have z:=(YX hb G).1
   split at h
   ·rename_i D;exact ih h (zA z D)
   ·exact Za h z
theorem xx {f:Nat} {ts us:List Tk} {l:List Pm} (h:yw f ts=some (.ok (l,us))) (hE:zi ts):zi us:=by
 unfold yw at h
 obtain ⟨_,y,D,h⟩:=za h;have o:=zZ D hE
 split at h
 ·rename_i A;exact Za h (zA o A)
 ·obtain ⟨J,G,z,h⟩:=za h
  obtain ⟨_,H,I,h⟩:=za h;exact Za h (zZ I (Yb z o))
theorem Qm {ts us:List Tk} {s:List UInt8} (h:Xk ts=some (.ok (s,us))) (hE:zi ts):zi us:=by
 unfold Xk at h
 split at h
 ·rename_i o
  simp only [Option.some.injEq] at h;exact (YK _ _ _ _ h (zA hE o)).1
 ·exact Za h hE
theorem ZU.keptR {r B:Nat} {w w':World} {l:List Pm} {v:Value} (h:ZU B w l v) (hk:zc r w w') (hB:r<B):ZU B w' l v:=h.kept hk.size fun k hk' hlt=>hk.block k hlt (by omega)
theorem ZU.setP {B P j:Nat} {w:World} {l:List Pm} {v:Value} (h:ZU B w l v) (u:Value) (hP:P<B):ZU B (w.setCell ⟨P,j,none⟩ u) l v:=h.kept (by simp) fun k hk _=>Below.heap_setCell _ _ _ _ (by simp;omega)
theorem zih (r g o cap line F:Nat) (ts:List Tk) (w:World) (R:PR Fc) (h:zf r g o cap ts w) (hE:zi ts) (hp:ZZ F line ts=some R)
  (hpar:∀D o1 cap1 ts1 r1,yw F ts1=some r1→zi ts1→zf r g o1 cap1 ts1 D→zc r w D→Calls Tryz.prog 96 #[.pointer (some ⟨r,0,none⟩),.func (.func 95) #[.pointer (some ⟨r,0,none⟩)] #[]] D (zdj r g D r1))
  (hty:∀D o1 cap1 ts1,zi ts1→zf r g o1 cap1 ts1 D→zc r w D→Calls Tryz.prog 97 #[.pointer (some ⟨r,0,none⟩)] D (za3 r g D (ZK 0 ts1)))
  (hbl:∀D o1 cap1 ts1 r1,zI F ts1=some r1→zi ts1→zf r g o1 cap1 ts1 D→zc r w D→Calls Tryz.prog 98 #[.pointer (some ⟨r,0,none⟩)] D (XY r g D r1)) :
  Calls Tryz.prog 52 #[.pointer (some ⟨r,0,none⟩),.int .i64 (line:Int)] w (UK r g w R):=by
 have bg:∀(fn:Fn) (first cap:Array Value) (w:World),(Instr.makeFunc fn first cap).run Tryz.prog w=.ok (.func fn first cap) w:=fun _ _ _ _=>rfl
 obtain ⟨t0,aS,rfl⟩:=hE.cons;have hr:=h.lt.1;have bf:=h.lt.2;obtain ⟨w0,ak⟩:∃w0,w0=w.alloc fcZ:=⟨_,rfl⟩;have h0:zf r g o cap (t0::aS) w0:=by rw [ak];exact h.alloc _
 have k0:zc r w w0:=by rw [ak];exact (zc.refl r w).alloc _
 have b0:w0.heap[w.heap.size]?=some fcZ:=by rw [ak];exact World.alloc_heap_new _ _
 have ba:w0.heap.size=w.heap.size+1:=by rw [ak];simp
 have cn:=xu r g o cap t0 aS w0 h0 (fun hk=>(hE.tail (by omega)).ne)
 have aN:Hid (w0=w.alloc fcZ):=ak;have aQ:Hid (∀D o1 cap1 ts1 r1,zI F ts1=some r1→zi ts1→zf r g o1 cap1 ts1 D→zc r w D→Calls Tryz.prog 98 #[.pointer (some ⟨r,0,none⟩)] D (XY r g D r1)):=hbl;have a5:Hid (∀D o1 cap1 ts1,zi ts1→zf r g o1 cap1 ts1 D→zc r w D→Calls Tryz.prog 97 #[.pointer (some ⟨r,0,none⟩)] D (za3 r g D (ZK 0 ts1))):=hty;have a3:Hid (∀D o1 cap1 ts1 r1,yw F ts1=some r1→zi ts1→zf r g o1 cap1 ts1 D→zc r w D→Calls Tryz.prog 96 #[.pointer (some ⟨r,0,none⟩),.func (.func 95) #[.pointer (some ⟨r,0,none⟩)] #[]] D (zdj r g D r1)):=hpar
 unfold ZZ Z6 at hp
 simp only [zC,List.tail_cons] at hp;clear h h0 ak hbl hty hpar
 by_cases hk:t0.k=1
 ·simp only [if_pos hk] at cn
  rw [if_pos hk] at hp;simp only [zh] at hp;have aM:=hE.tail (by omega:t0.k≠0)
  go_enter Tryz.func52,Tryz.ntmps52
  go_wp2_with fail
  rw [←aN.out];refine cn.mono ?_;clear cn aN;rintro e D ⟨am,rfl,h1⟩;obtain ⟨A,ao⟩:∃A,A=zb t0.s:=⟨_,rfl⟩;rw [←ao];have az:Hid (A=zb t0.s):=ao;obtain ⟨w2,ah⟩:∃w2,w2=D.alloc (fcO A (.slice none 0 0) ⟨#[]⟩ (.slice none 0 0) line):=⟨_,rfl⟩;have a6:=am.size;have k2:zc r w w2:=by rw [ah];exact (k0.trans am).alloc _
  have b2:w2.heap[w.heap.size]?=some fcZ:=by rw [ah];exact (Below.heap_alloc _ _ _ (by omega)).trans ((am.block _ (by omega) (by omega)).trans b0)
  obtain ⟨P,hP⟩:∃P,P=D.heap.size:=⟨_,rfl⟩;have p2:w2.heap[P]?=some (fcO A (.slice none 0 0) ⟨#[]⟩ (.slice none 0 0) line):=by rw [ah,hP];exact World.alloc_heap_new _ _
  have aT:w2.heap.size=P+1:=by rw [ah,hP];simp
  obtain ⟨t1,a1,rfl⟩:=aM.cons;have h2:zf r g (o+5) (cap-1) (t1::a1) w2:=by rw [ah];exact h1.alloc _
  cases hb2:yw F (t1::a1) with
  | none=>rw [hb2] at hp;cases hp
  | some r2 =>
   rw [hb2] at hp;have cp:=a3.out w2 _ _ _ r2 hb2 aM h2 k2;have a2:Hid (w2=D.alloc (fcO A (.slice none 0 0) ⟨#[]⟩ (.slice none 0 0) line)):=ah;have aH:Hid (w2.heap[w.heap.size]?=some fcZ∧w2.heap[P]?=some (fcO A (.slice none 0 0) ⟨#[]⟩ (.slice none 0 0) line)):=⟨b2,p2⟩;have aO:Hid (zc r w w2):=k2;have HS:Hid (w.heap.size<P∧w2.heap.size=P+1):=⟨by omega,aT⟩
   have bc:Hid (D.heap.size=P):=hP.symm;clear ah k2 b2 p2 aT h2 h1 am a6 hP k0 b0 ba ao;go_wp2_with fail
   rw [←a2.out];rw [bc.out];refine cp.mono ?_;clear cp a2;rintro e w3 ⟨al,z⟩;rcases r2 with a | ⟨pl,bh⟩
   ·obtain rfl:=z
    simp only [Option.some.injEq] at hp;subst hp;exact ⟨rfl,aO.out.trans al,rfl⟩
   ·obtain ⟨vp,o3,aj,rfl,aJ,aA⟩:=z
    simp only at hp;obtain ⟨I,c1,c2,rfl⟩:=aJ.slice;have ax:=xx hb2 aM;obtain ⟨t2,ag,rfl⟩:=ax.cons;have hS:=HS.out;have a9:=al.size;have b3:=(al.block w.heap.size (by omega) (by omega)).trans aH.out.1
    have p3:=(al.block P (by omega) (by omega)).trans aH.out.2
    obtain ⟨-,m1,-,-,-,mf⟩:=zU p3;have aP:=mf 1;obtain ⟨w4,O⟩:∃w4,w4=w3.setCell ⟨P,1,none⟩ (.slice I c1 c2):=⟨_,rfl⟩;have p4:w4.heap[P]?=some (fcO A (.slice I c1 c2) ⟨#[]⟩ (.slice none 0 0) line):=by rw [O];exact zo _ p3
    have b4:w4.heap[w.heap.size]?=some fcZ:=by rw [O,Below.heap_setCell _ _ _ _ (by simp;omega)];exact b3
    have be:w4.heap.size=w3.heap.size:=by rw [O];simp
    have aF:zf r g o3 aj (t2::ag) w4:=by rw [O];exact aA.setP _ (by omega) (by omega)
    have k4:zc r w w4:=by rw [O];exact (aO.out.trans al).setOther (by simp;omega) _
    have aE:ZU w2.heap.size w4 pl (.slice I c1 c2):=by rw [O];exact aJ.setP _ (by omega)
    have cs:=Zy r g o3 aj t2 ag [58] w4 aF (fun hi=>(ax.tail (zk hi)).ne)
    have Z:Hid (w4.heap[w.heap.size]?=some fcZ∧w4.heap[P]?=some (fcO A (.slice I c1 c2) ⟨#[]⟩ (.slice none 0 0) line)):=⟨b4,p4⟩;have aw:Hid (zc r w w4):=k4;have aB:Hid (ZU w2.heap.size w4 pl (.slice I c1 c2)):=aE;have aC:=O.symm;simp only [Xk,zC,List.tail_cons] at hp;clear O p4 b4 be aF k4 aE aJ aA b3 p3 mf al a9 hS aH aO
    by_cases hi:zm t2 [58]=true
    ·rw [hi] at cs
     simp only [if_pos hi] at hp;have aU:=ax.tail (zk hi);go_wp2_with fail
     refine cs.mono ?_;clear cs aC m1 aP;rintro e w5 ⟨rfl,aK,h5⟩;have aW:zf r g (o3+5) (aj-1) ag w5:=by simpa using h5
     have ct:=a5.out w5 _ _ ag aU aW (aw.out.trans aK);have aX:Hid (zc r w4 w5):=aK;clear h5 aW aK;go_wp2_with fail
     refine ct.mono ?_;clear ct;rintro e w6 ⟨a0,z⟩;have L:Hid (zc r w4 w6):=aX.out.trans a0;cases hR6:ZK 0 ag with
     | error a =>
      rw [hR6] at z hp;obtain rfl:=z;simp only [Option.some.injEq] at hp;subst hp;exact ⟨rfl,aw.out.trans L.out,rfl⟩
     | ok y =>
      obtain ⟨ty,aR⟩:=y;rw [hR6] at z hp;obtain ⟨o6,aY,rfl,ay⟩:=z;simp only at hp;have aL:=(YK _ _ _ _ hR6 aU).1;obtain ⟨TY,aI⟩:∃TY,TY=zb ty:=⟨_,rfl⟩;rw [←aI];have aZ:Hid (TY=zb ty):=aI;have hS:=HS.out;have bb:=L.out.size;have aq:P<w4.heap.size:=(Array.getElem?_eq_some_iff.1 Z.out.2).1;have ar:w.heap.size<w4.heap.size:=(Array.getElem?_eq_some_iff.1 Z.out.1).1;have b6:=(L.out.block w.heap.size ar (by omega)).trans Z.out.1
      have p6:=(L.out.block P aq (by omega)).trans Z.out.2
      have aD:=aB.out.keptR L.out (by omega)
      obtain ⟨-,-,m2,-,-,mf⟩:=zU p6;have a7:=mf 2;obtain ⟨w7,af⟩:∃w7,w7=w6.setCell ⟨P,2,none⟩ (.string TY):=⟨_,rfl⟩;have p7:w7.heap[P]?=some (fcO A (.slice I c1 c2) TY (.slice none 0 0) line):=by rw [af];exact zo _ p6
      have b7:w7.heap[w.heap.size]?=some fcZ:=by rw [af,Below.heap_setCell _ _ _ _ (by simp;omega)];exact b6
      have ad:zf r g o6 aY aR w7:=by rw [af];exact ay.setP _ (by omega) (by omega)
      have k7:zc r w w7:=by rw [af];exact (aw.out.trans L.out).setOther (by simp;omega) _
      have U:ZU w2.heap.size w7 pl (.slice I c1 c2):=by rw [af];exact aD.setP _ (by omega)
      have a4:=af.symm;clear af p6 b6 aD ay mf bb aq ar hS aI a0;cases hb8:zI F aR with
      | none=>rw [hb8] at hp;cases hp
      | some r8 =>
       rw [hb8] at hp;have cb:=aQ.out w7 _ _ _ r8 hb8 aL ad k7;have J:Hid (w7.heap[w.heap.size]?=some fcZ∧w7.heap[P]?=some (fcO A (.slice I c1 c2) TY (.slice none 0 0) line)):=⟨b7,p7⟩;have ai:Hid (zc r w w7):=k7;have W:Hid (ZU w2.heap.size w7 pl (.slice I c1 c2)):=U;clear b7 p7 k7 U ad;go_wp2_with fail
       refine cb.mono ?_;clear cb a4 m2 a7;rintro e w8 ⟨H,z⟩;rcases r8 with a | ⟨bl,au⟩
       ·obtain rfl:=z
        simp only [Option.some.injEq] at hp;subst hp;exact ⟨rfl,ai.out.trans H,rfl⟩
       ·obtain ⟨vb,o8,ab,rfl,ae,Y⟩:=z
        simp only [Option.some.injEq] at hp;subst hp;obtain ⟨d0,d1,V,rfl⟩:=ae.slice;have hS:=HS.out;have aG:=H.size;have av:P<w7.heap.size:=(Array.getElem?_eq_some_iff.1 J.out.2).1;have ap:w.heap.size<w7.heap.size:=(Array.getElem?_eq_some_iff.1 J.out.1).1;have b8:=(H.block w.heap.size ap (by omega)).trans J.out.1
        have p8:=(H.block P av (by omega)).trans J.out.2
        have T:=W.out.keptR H (by omega)
        obtain ⟨-,-,-,m3,-,mf⟩:=zU p8;have bd:=mf 3;obtain ⟨w9,G⟩:∃w9,w9=w8.setCell ⟨P,3,none⟩ (.slice d0 d1 V):=⟨_,rfl⟩;have p9:w9.heap[P]?=some (fcO A (.slice I c1 c2) TY (.slice d0 d1 V) line):=by rw [G];exact zo _ p8
        have b9:w9.heap[w.heap.size]?=some fcZ:=by rw [G,Below.heap_setCell _ _ _ _ (by simp;omega)];exact b8
        have X:zf r g o8 ab au w9:=by rw [G];exact Y.setP _ (by omega) (by omega)
        have k9:zc r w w9:=by rw [G];exact (ai.out.trans H).setOther (by simp;omega) _
        have aa:ZU w2.heap.size w9 pl (.slice I c1 c2):=by rw [G];exact T.setP _ (by omega)
        have Q:z8 (fun k=>w7.heap.size≤k) w9 bl (.slice d0 d1 V):=by rw [G];exact ae.setP _ fun k hk=>by omega
        obtain ⟨e0,e1,e2,e3,e4,-⟩:=zU p9;obtain ⟨q0,q1,q2,q3,q4,qf⟩:=zU b9;obtain ⟨z0,z1,z2,z3,z4⟩:=zY b9 (.string A) (.slice I c1 c2) (.string TY) (.slice d0 d1 V) (.int .i64 (line:Int))
        have HP:Hid (UK r g w (.ok (⟨t0.s,pl,ty,bl,line⟩,au)) (.returned (.agg #[.string A,.slice I c1 c2,.string TY,.slice d0 d1 V,.int .i64 (line:Int)])) (set5 w9 w.heap.size (.string A) (.slice I c1 c2) (.string TY) (.slice d0 d1 V) (.int .i64 (line:Int)))):=by
         have N:∀k,k≠w.heap.size→(set5 w9 w.heap.size (.string A) (.slice I c1 c2) (.string TY) (.slice d0 d1 V) (.int .i64 (line:Int))).heap[k]?=w9.heap[k]?:=fun k hk=>zr _ _ _ _ _ _ _ hk
         refine ⟨ZN k9 (Nat.le_refl _) _ _ _ _ _,_,o8,ab,rfl,⟨_,_,by rw [az.out,aZ.out],(aa.kept (by simp) fun k hk _=>N k (by omega)).mono (by omega),(Q.kept (by simp) fun k hk _=>N k (by omega)).wide fun k hk=>by omega⟩,X.keep (N r (by omega)) (N g (by omega))⟩
        have aV:=G.symm;clear G p9 b9 X k9 aa Q b8 p8 T mf H aG av ap hS ae Y J W ai;go_wp2
        exact bodyPost_ret (v:=.agg #[.string A,.slice I c1 c2,.string TY,.slice d0 d1 V,.int .i64 (line:Int)]) (by simp [results,Tryz.results52,go_sem,z0,z1,z2,z3,z4]) rfl HP.out
    ·have a8:zm t2 [58]=false:=by simpa using hi
     rw [a8] at cs;simp only [if_neg hi] at hp;go_wp2_with fail
     refine cs.mono ?_;clear cs aC m1 aP;rintro e w7 ⟨rfl,an,h7⟩;have ad:zf r g o3 aj (t2::ag) w7:=by simpa using h7
     have hS:=HS.out;have aq:P<w4.heap.size:=(Array.getElem?_eq_some_iff.1 Z.out.2).1;have ar:w.heap.size<w4.heap.size:=(Array.getElem?_eq_some_iff.1 Z.out.1).1;have b7:=(an.block w.heap.size ar (by omega)).trans Z.out.1
     have p7:=(an.block P aq (by omega)).trans Z.out.2
     have k7:zc r w w7:=aw.out.trans an;have U:=aB.out.keptR an (by omega)
     have aL:=ax;clear aq ar hS an h7;cases hb8:zI F (t2::ag) with
     | none=>rw [hb8] at hp;cases hp
     | some r8 =>
      rw [hb8] at hp;have cb:=aQ.out w7 _ _ _ r8 hb8 aL ad k7;have J:Hid (w7.heap[w.heap.size]?=some fcZ∧w7.heap[P]?=some (fcO A (.slice I c1 c2) ⟨#[]⟩ (.slice none 0 0) line)):=⟨b7,p7⟩;have ai:Hid (zc r w w7):=k7;have W:Hid (ZU w2.heap.size w7 pl (.slice I c1 c2)):=U;clear b7 p7 k7 U ad;go_wp2_with fail
      refine cb.mono ?_;clear cb;rintro e w8 ⟨H,z⟩;rcases r8 with a | ⟨bl,au⟩
      ·obtain rfl:=z
       simp only [Option.some.injEq] at hp;subst hp;exact ⟨rfl,ai.out.trans H,rfl⟩
      ·obtain ⟨vb,o8,ab,rfl,ae,Y⟩:=z
       simp only [Option.some.injEq] at hp;subst hp;obtain ⟨d0,d1,V,rfl⟩:=ae.slice;have hS:=HS.out;have aG:=H.size;have av:P<w7.heap.size:=(Array.getElem?_eq_some_iff.1 J.out.2).1;have ap:w.heap.size<w7.heap.size:=(Array.getElem?_eq_some_iff.1 J.out.1).1;have b8:=(H.block w.heap.size ap (by omega)).trans J.out.1
       have p8:=(H.block P av (by omega)).trans J.out.2
       have T:=W.out.keptR H (by omega)
       obtain ⟨-,-,-,m3,-,mf⟩:=zU p8;have bd:=mf 3;obtain ⟨w9,G⟩:∃w9,w9=w8.setCell ⟨P,3,none⟩ (.slice d0 d1 V):=⟨_,rfl⟩;have p9:w9.heap[P]?=some (fcO A (.slice I c1 c2) ⟨#[]⟩ (.slice d0 d1 V) line):=by rw [G];exact zo _ p8
       have b9:w9.heap[w.heap.size]?=some fcZ:=by rw [G,Below.heap_setCell _ _ _ _ (by simp;omega)];exact b8
       have X:zf r g o8 ab au w9:=by rw [G];exact Y.setP _ (by omega) (by omega)
       have k9:zc r w w9:=by rw [G];exact (ai.out.trans H).setOther (by simp;omega) _
       have aa:ZU w2.heap.size w9 pl (.slice I c1 c2):=by rw [G];exact T.setP _ (by omega)
       have Q:z8 (fun k=>w7.heap.size≤k) w9 bl (.slice d0 d1 V):=by rw [G];exact ae.setP _ fun k hk=>by omega
       obtain ⟨e0,e1,e2,e3,e4,-⟩:=zU p9;obtain ⟨q0,q1,q2,q3,q4,qf⟩:=zU b9;obtain ⟨z0,z1,z2,z3,z4⟩:=zY b9 (.string A) (.slice I c1 c2) (.string ⟨#[]⟩) (.slice d0 d1 V) (.int .i64 (line:Int))
       have HP:Hid (UK r g w (.ok (⟨t0.s,pl,[],bl,line⟩,au)) (.returned (.agg #[.string A,.slice I c1 c2,.string ⟨#[]⟩,.slice d0 d1 V,.int .i64 (line:Int)])) (set5 w9 w.heap.size (.string A) (.slice I c1 c2) (.string ⟨#[]⟩) (.slice d0 d1 V) (.int .i64 (line:Int)))):=by
        have N:∀k,k≠w.heap.size→(set5 w9 w.heap.size (.string A) (.slice I c1 c2) (.string ⟨#[]⟩) (.slice d0 d1 V) (.int .i64 (line:Int))).heap[k]?=w9.heap[k]?:=fun k hk=>zr _ _ _ _ _ _ _ hk
        refine ⟨ZN k9 (Nat.le_refl _) _ _ _ _ _,_,o8,ab,rfl,⟨_,_,by rw [az.out],(aa.kept (by simp) fun k hk _=>N k (by omega)).mono (by omega),(Q.kept (by simp) fun k hk _=>N k (by omega)).wide fun k hk=>by omega⟩,X.keep (N r (by omega)) (N g (by omega))⟩
       have aV:=G.symm;clear G p9 b9 X k9 aa Q b8 p8 T mf H aG av ap hS ae Y J W ai;go_wp2
       exact bodyPost_ret (v:=.agg #[.string A,.slice I c1 c2,.string ⟨#[]⟩,.slice d0 d1 V,.int .i64 (line:Int)]) (by simp [results,Tryz.results52,go_sem,z0,z1,z2,z3,z4]) rfl HP.out
 ·simp only [if_neg hk] at cn
  rw [if_neg hk] at hp;simp only [zh,Option.some.injEq] at hp;subst hp
  go_enter Tryz.func52,Tryz.ntmps52
  go_wp2_with fail
  rw [←aN.out];refine cn.mono ?_;clear cn;rintro e D ⟨am,rfl⟩;exact ⟨rfl,k0.trans am,rfl⟩
def XM {α:Type} (E:(Nat→Prop)→World→α→List Value→Prop) (sz:Nat) (S:Nat→Prop) (w:World) (l:List α) (v:Value):Prop :=
 (l=[]∧v=.slice none 0 0)∨∃(g cap:Nat) (us:List (List Value)),v=.slice (some ⟨g,0,none⟩) l.length cap∧l≠[]∧us.length=l.length∧S g∧g<w.heap.size∧l.length≤cap∧cap≤maxLen∧(∀j u,us.flatten[j]?=some u→w.cell? ⟨g,j,none⟩=some u)∧(∀c∈us,c.length=sz)∧∀(j:Nat) (x:α) (c:List Value),l[j]?=some x→us[j]?=some c→E S w x c
theorem XM.kept {α:Type} {E:(Nat→Prop)→World→α→List Value→Prop} (L:Z5 E) {sz:Nat} {S:Nat→Prop} {w w':World} {l:List α} {v:Value} (h:XM E sz S w l v) (hs:w.heap.size≤w'.heap.size) (hb:∀k,S k→k<w.heap.size→w'.heap[k]?=w.heap[k]?):XM E sz S w' l v:=by
 rcases h with h | ⟨g,o,G,J,D,Q,A,z,H,I,O,N,y⟩
 ·exact .inl h
 ·exact .inr ⟨g,o,G,J,D,Q,A,Nat.lt_of_lt_of_le z hs,H,I,fun j u hj=>by rw [World.cell?_of_block (hb g A z)];exact O j u hj,N,fun j x c hx hc=>L.kept (y j x c hx hc) hs hb⟩
theorem XM.wide {α:Type} {E:(Nat→Prop)→World→α→List Value→Prop} (L:Z5 E) {sz:Nat} {S S':Nat→Prop} {w:World} {l:List α} {v:Value} (h:XM E sz S w l v) (hS:∀k,S k→S' k):XM E sz S' w l v:=by
 rcases h with h | ⟨g,o,A,H,z,Q,O,N,D,G,J,I,y⟩
 ·exact .inl h
 ·exact .inr ⟨g,o,A,H,z,Q,hS _ O,N,D,G,J,I,fun j x c hx hc=>L.wide (y j x c hx hc) hS⟩
theorem XM.low {α:Type} {E:(Nat→Prop)→World→α→List Value→Prop} (L:Z5 E) {sz:Nat} {S:Nat→Prop} {w:World} {l:List α} {v:Value} (h:XM E sz S w l v):XM E sz (fun k=>S k∧k<w.heap.size) w l v:=by
 rcases h with h | ⟨g,o,D,I,A,Q,O,z,G,H,N,J,y⟩
 ·exact .inl h
 ·exact .inr ⟨g,o,D,I,A,Q,⟨O,z⟩,z,G,H,N,J,fun j x c hx hc=>L.low (y j x c hx hc)⟩
theorem XM.slice {α:Type} {E:(Nat→Prop)→World→α→List Value→Prop} {sz:Nat} {S:Nat→Prop} {w:World} {l:List α} {v:Value} (h:XM E sz S w l v):∃b c,v=.slice b l.length c:=by
 rcases h with ⟨rfl,rfl⟩ | ⟨g,o,z,y,_⟩
 ·exact ⟨none,0,rfl⟩
 ·exact ⟨_,_,y⟩
theorem yJ.toG {α:Type} {E:(Nat→Prop)→World→α→List Value→Prop} (L:Z5 E) {sz ty B:Nat} {w:World} {l:List α} {v:Value} (h:yJ E sz ty B w l v):XM E sz (fun k=>B≤k) w l v:=by
 rcases h with h | ⟨g,z,A,h⟩
 ·exact .inl h
 ·have o:=h.block
  refine .inr ⟨g,z,A,h.val,h.ne,h.len,o.1,o.2.1,o.2.2.1,o.2.2.2,fun j u hj=>?_,h.wid,fun j x c y hc=>L.wide (h.kids j x c y hc) fun k hk=>hk.1⟩
  have y:=h.own.cells (g:=g) (by rw [h.val];rfl) j u hj
  by_cases h0:j=0
  ·subst h0;simpa [Addr.add] using y
  ·simpa [Addr.add,h0] using y
abbrev UL (S:Nat→Prop) (w:World) (l:List Pm) (v:Value):Prop:=XM PmE 2 S w l v
theorem ZU.toG {B:Nat} {w:World} {l:List Pm} {v:Value} (h:ZU B w l v):UL (fun k=>B≤k) w l v:=yJ.toG Ya h
theorem z8.lower {S:Nat→Prop} {w:World} {l:List St} {v:Value} (h:z8 S w l v):z8 (fun k=>S k∧k<w.heap.size) w l v:=by
 obtain ⟨g,o,z,A,y⟩:=h;exact ⟨g,o,z,A.low,fun j x c hx hc=>(y j x c hx hc).low⟩
def RcE (S:Nat→Prop) (w:World) (x:Rc) (c:List Value):Prop:=∃vp,c=[.string (zb x.name),vp,.int .i64 (x.line:Int)]∧UL S w x.fields vp
theorem YR:Z5 RcE:=⟨fun ⟨vp,h1,h2⟩ hs hb=>⟨vp,h1,h2.kept Ya hs hb⟩,fun ⟨vp,h1,h2⟩ hS=>⟨vp,h1,h2.wide Ya hS⟩,fun ⟨vp,h1,h2⟩=>⟨vp,h1,h2.low Ya⟩⟩
def FcE (S:Nat→Prop) (w:World) (x:Fc) (c:List Value):Prop:=∃vp vb,c=[.string (zb x.name),vp,.string (zb x.result),vb,.int .i64 (x.line:Int)]∧UL S w x.params vp∧z8 S w x.body vb
theorem YS:Z5 FcE:=⟨fun ⟨vp,vb,h1,h2,h3⟩ hs hb=>⟨vp,vb,h1,h2.kept Ya hs hb,h3.kept hs hb⟩,fun ⟨vp,vb,h1,h2,h3⟩ hS=>⟨vp,vb,h1,h2.wide Ya hS,h3.wide hS⟩,fun ⟨vp,vb,h1,h2,h3⟩=>⟨vp,vb,h1,h2.low Ya,h3.lower⟩⟩
def EX {α:Type} (E:(Nat→Prop)→World→α→List Value→Prop) (X:Nat→Prop) (S:Nat→Prop) (w:World) (x:α) (c:List Value):Prop:=E (fun k=>S k∧X k) w x c
theorem x9 {α:Type} {E:(Nat→Prop)→World→α→List Value→Prop} (L:Z5 E) (X:Nat→Prop):Z5 (EX E X):=⟨fun h hs hb=>L.kept h hs fun k hk hlt=>hb k hk.1 hlt,fun h hS=>L.wide h fun k hk=>⟨hS k hk.1,hk.2⟩,fun h=>L.wide (L.low h) fun _ hk=>⟨⟨hk.1.1,hk.2⟩,hk.1.2⟩⟩
structure yX (B:Nat) (w:World) (rs:List Rc) (fs:List Fc) (vr vf:Value):Prop where
 r:yJ (EX RcE fun k=>vf.ownBlock≠some k) 3 73 B w rs vr
 f:yJ (EX FcE fun k=>vr.ownBlock≠some k) 5 71 B w fs vf
 apart:∀k,vr.ownBlock=some k→vf.ownBlock≠some k
theorem yX.nil (B:Nat) (w:World):yX B w [] [] (.slice none 0 0) (.slice none 0 0):=⟨.inl ⟨rfl,rfl⟩,.inl ⟨rfl,rfl⟩,fun k h=>by simp [Value.ownBlock] at h⟩
theorem yX.kept {B:Nat} {w w':World} {rs:List Rc} {fs:List Fc} {vr vf:Value} (h:yX B w rs fs vr vf) (hs:w.heap.size≤w'.heap.size) (hb:∀k,B≤k→k<w.heap.size→w'.heap[k]?=w.heap[k]?):yX B w' rs fs vr vf :=
 ⟨h.r.kept (x9 YR _) hs hb,h.f.kept (x9 YS _) hs hb,h.apart⟩
theorem yJ.beside {α:Type} {E:(Nat→Prop)→World→α→List Value→Prop} (L:Z5 E) {sz ty B:Nat} {w w':World} {l:List α} {v vr vr':Value} {ob:Obj} (h:yJ (EX E fun k=>vr.ownBlock≠some k) sz ty B w l v) (ha:∀k,vr.ownBlock=some k→v.ownBlock≠some k) (hg:(w.alloc ob).grownBy w' vr.ownBlock) (hat:vr'.ownBlock=vr.ownBlock∨vr'.ownBlock=some (w.alloc ob).heap.size):yJ (EX E fun k=>vr'.ownBlock≠some k) sz ty B w' l v:=by
 rcases h with h | ⟨g,D,N,h⟩
 ·exact .inl h
 ·have O:w.heap.size≤w'.heap.size:=by have:=hg.size;simp at this;omega
  have o:∀k,vr.ownBlock≠some k→k<w.heap.size→w'.heap[k]?=w.heap[k]?:=fun k hk hlt=>(hg.block k (by simp;omega) (fun e=>hk e.symm)).trans (Below.heap_alloc _ _ _ hlt)
  have J:v.ownBlock=some g:=by rw [h.val];rfl
  have A:vr.ownBlock≠some g:=fun e=>ha g e J
  have U:=h.block;refine .inr ⟨g,D,N,h.val,h.ne,?_,h.len,h.wid,fun j x c hx hc=>?_⟩
  ·refine ⟨h.own.1,?_⟩
   rcases h.own.2 with y | ⟨I,z,G,y,V,T,R⟩
   ·exact .inl y
   ·have e:I=g:=by rw [h.val] at y;simp at y;exact y.1.symm
    subst e;exact .inr ⟨I,z,G,y,V,(o I A U.2.1).trans T,R⟩
  ·have H:E (fun k=>(B≤k∧k≠g)∧vr.ownBlock≠some k) w x c:=h.kids j x c hx hc
   refine L.wide (L.kept (L.low H) O fun k hk _=>o k hk.1.2 hk.2) fun k hk=>⟨hk.1.1,?_⟩
   rcases hat with e | e
   ·rw [e];exact hk.1.2
   ·rw [e]
    intro Q
    have:=Option.some.inj Q
    simp at this
    omega
theorem yX.addR {B N:Nat} {w w':World} {rs:List Rc} {fs:List Fc} {vr vf vr':Value} {x:Rc} {c:List Value} {ob:Obj} {us:List (List Value)} (h:yX B w rs fs vr vf)
  (hnext:∀{w':World} {v':Value} {x:Rc} {c:List Value} {ob:Obj} {N:Nat},EX RcE (fun k=>vf.ownBlock≠some k) (fun k=>N≤k) w x c→B≤N→(∀q,vr.ownBlock=some q→q<N)→c.length=3→w'.ownsRow B 73 3 v' (rs.length+1) (us.flatten++c)→(w.alloc ob).grownBy w' vr.ownBlock→(v'.ownBlock=vr.ownBlock∨v'.ownBlock=some (w.alloc ob).heap.size)→yJ (EX RcE fun k=>vf.ownBlock≠some k) 3 73 B w' (rs++[x]) v')
  (hx:RcE (fun k=>N≤k) w x c) (hBN:B≤N) (hr:∀q,vr.ownBlock=some q→q<N) (hf:∀q,vf.ownBlock=some q→q<N) (hfw:∀q,vf.ownBlock=some q→q<w.heap.size) (hc:c.length=3) (ho:w'.ownsRow B 73 3 vr' (rs.length+1) (us.flatten++c)) (hg:(w.alloc ob).grownBy w' vr.ownBlock) (hat:vr'.ownBlock=vr.ownBlock∨vr'.ownBlock=some (w.alloc ob).heap.size):yX B w' (rs++[x]) fs vr' vf:=by
 refine ⟨hnext (YR.wide hx fun k hk=>⟨hk,fun e=>by have:=hf k e;omega⟩) hBN hr hc ho hg hat,h.f.beside YS h.apart hg hat,fun k hk e=>?_⟩
 rcases hat with o | o
 ·rw [o] at hk;exact h.apart k hk e
 ·rw [o] at hk
  have:=Option.some.inj hk
  have y:=hfw k e
  simp at this
  omega
theorem yX.addF {B N:Nat} {w w':World} {rs:List Rc} {fs:List Fc} {vr vf vf':Value} {x:Fc} {c:List Value} {ob:Obj} {us:List (List Value)} (h:yX B w rs fs vr vf)
  (hnext:∀{w':World} {v':Value} {x:Fc} {c:List Value} {ob:Obj} {N:Nat},EX FcE (fun k=>vr.ownBlock≠some k) (fun k=>N≤k) w x c→B≤N→(∀q,vf.ownBlock=some q→q<N)→c.length=5→w'.ownsRow B 71 5 v' (fs.length+1) (us.flatten++c)→(w.alloc ob).grownBy w' vf.ownBlock→(v'.ownBlock=vf.ownBlock∨v'.ownBlock=some (w.alloc ob).heap.size)→yJ (EX FcE fun k=>vr.ownBlock≠some k) 5 71 B w' (fs++[x]) v')
  (hx:FcE (fun k=>N≤k) w x c) (hBN:B≤N) (hf:∀q,vf.ownBlock=some q→q<N) (hr:∀q,vr.ownBlock=some q→q<N) (hrw:∀q,vr.ownBlock=some q→q<w.heap.size) (hc:c.length=5) (ho:w'.ownsRow B 71 5 vf' (fs.length+1) (us.flatten++c)) (hg:(w.alloc ob).grownBy w' vf.ownBlock) (hat:vf'.ownBlock=vf.ownBlock∨vf'.ownBlock=some (w.alloc ob).heap.size):yX B w' rs (fs++[x]) vr vf':=by
 refine ⟨h.r.beside YR (fun k hk e=>h.apart k e hk) hg hat,hnext (YS.wide hx fun k hk=>⟨hk,fun e=>by have:=hr k e;omega⟩) hBN hf hc ho hg hat,fun k hk e=>?_⟩
 rcases hat with o | o
 ·rw [o] at e;exact h.apart k hk e
 ·rw [o] at e
  have:=Option.some.inj e
  have y:=hrw k hk
  simp at this
  omega
structure Pg where
 recs:List Rc
 funs:List Fc
def Xl (S:Nat→Prop) (w:World) (p:Pg) (v:Value):Prop:=∃vr vf,v=.agg #[vr,vf]∧XM RcE 3 S w p.recs vr∧XM FcE 5 S w p.funs vf
theorem yX.pg {B:Nat} {w:World} {rs:List Rc} {fs:List Fc} {vr vf:Value} (h:yX B w rs fs vr vf):Xl (fun k=>B≤k) w ⟨rs,fs⟩ (.agg #[vr,vf]):=by
 refine ⟨vr,vf,rfl,?_,?_⟩
 ·rcases h.r.toG (x9 YR _) with y | ⟨g,o,A,D,N,L,J,H,O,I,G,y,z⟩
  ·exact .inl y
  ·exact .inr ⟨g,o,A,D,N,L,J,H,O,I,G,y,fun j x c hx hc=>YR.wide (z j x c hx hc) fun k hk=>hk.1⟩
 ·rcases h.f.toG (x9 YS _) with y | ⟨g,o,A,D,N,L,J,H,O,I,G,y,z⟩
  ·exact .inl y
  ·exact .inr ⟨g,o,A,D,N,L,J,H,O,I,G,y,fun j x c hx hc=>YS.wide (z j x c hx hc) fun k hk=>hk.1⟩
theorem Xl.kept {S:Nat→Prop} {w w':World} {p:Pg} {v:Value} (h:Xl S w p v) (hs:w.heap.size≤w'.heap.size) (hb:∀k,S k→k<w.heap.size→w'.heap[k]?=w.heap[k]?):Xl S w' p v:=by
 obtain ⟨y,z,rfl,A,o⟩:=h;exact ⟨y,z,rfl,A.kept YR hs hb,o.kept YS hs hb⟩
theorem Xl.wide {S S':Nat→Prop} {w:World} {p:Pg} {v:Value} (h:Xl S w p v) (hS:∀k,S k→S' k):Xl S' w p v:=by
 obtain ⟨y,z,rfl,A,o⟩:=h;exact ⟨y,z,rfl,A.wide YR hS,o.wide YS hS⟩
def Zq (f line:Nat) (ts:List Tk):Option (PR Rc):=zh (Z6 ts) fun s us=>zh (zR [123] us) fun _ us=>zh (zP f [] us) fun l us=>zh (zR [125] us) fun _ us=>some (.ok (⟨s,l,line⟩,us))
def Zp:Nat→List Rc→List Fc→List Tk→Option (PR Pg)
 | 0,_,_,_=>none
 | f+1,rs,fs,ts =>
  if (zu ts).k=0 then some (.ok (⟨rs,fs⟩,ts))
  else if zm (zu ts) [114,101,99,111,114,100]=true then zh (Zq f (zu ts).line ts.tail) fun x us=>Zp f (rs++[x]) fs us
  else if zm (zu ts) [102,110]=true then zh (ZZ f (zu ts).line ts.tail) fun x us=>Zp f rs (fs++[x]) us
  else some (.error (zu ts).at0)
theorem Yx {f line:Nat} {ts us:List Tk} {x:Rc} (h:Zq f line ts=some (.ok (x,us))) (hE:zi ts):zi us:=by
 unfold Zq at h
 obtain ⟨_,_,y,h⟩:=za h;obtain ⟨_,_,o,h⟩:=za h;obtain ⟨_,_,A,h⟩:=za h;obtain ⟨_,_,z,h⟩:=za h;exact Za h (zZ z (Yb A (zZ o (ZM y hE))))
theorem xy {f line:Nat} {ts us:List Tk} {x:Fc} (h:ZZ f line ts=some (.ok (x,us))) (hE:zi ts):zi us:=by
 unfold ZZ at h
 obtain ⟨_,_,y,h⟩:=za h;obtain ⟨_,_,o,h⟩:=za h;obtain ⟨_,_,A,h⟩:=za h;obtain ⟨_,_,z,h⟩:=za h;exact Za h ((vB f).2.1 _ _ _ z (Qm A (xx o (ZM y hE))))
theorem Yy {f:Nat}:∀{o:List Pm} {ts:List Tk} {r:PR (List Pm)},zP f o ts=some r→zP (f+1) o ts=some r:=by
 induction f with
 | zero=>intro o ts r h;simp [zP] at h
 | succ f ih =>
  intro o ts r h;rw [zP] at h ⊢;cases hb:Z9 ts with
  | error a=>rw [hb] at h;exact h
  | ok y =>
   rw [hb] at h;simp only at h ⊢
   split at h
   ·rename_i z;rw [if_pos z];exact ih h
   ·rename_i z;rw [if_neg z];exact h
theorem VI {f line:Nat} {ts:List Tk} {r:PR Rc} (h:Zq f line ts=some r):Zq (f+1) line ts=some r:=by
 unfold Zq at h ⊢
 exact yz h fun _ _ _ h=>yz h fun _ _ _ h=>zE h (fun _=>Yy) fun _ _ _ h=>h
theorem UM {f line:Nat} {ts:List Tk} {r:PR Fc} (h:ZZ f line ts=some r):ZZ (f+1) line ts=some r:=by
 unfold ZZ at h ⊢
 refine yz h fun _ _ _ h=>zE h (fun _ h=>?_) fun _ _ _ h=>yz h fun _ _ _ h=>zE h ((Xg f).2.1 _) fun _ _ _ h=>h
 unfold yw at h ⊢
 refine yz h fun _ _ _ h=>?_
 split at h
 ·rename_i o;rw [if_pos o];exact h
 ·rename_i o;rw [if_neg o];exact zE h (fun _=>Yy) fun _ _ _ h=>h
theorem Vm {f k line:Nat} {ts:List Tk} {r:PR Rc} (h:Zq f line ts=some r):Zq (f+k) line ts=some r:=by
 induction k with
 | zero=>exact h
 | succ k ih=>exact VI ih
theorem UO {f k line:Nat} {ts:List Tk} {r:PR Fc} (h:ZZ f line ts=some r):ZZ (f+k) line ts=some r:=by
 induction k with
 | zero=>exact h
 | succ k ih=>exact UM ih
theorem XD (n:Nat):∀(ts:List Tk),ts.length≤n→zi ts→∀h,yv (fun f=>zP f h ts) (n-1):=by
 induction n with
 | zero=>intro ts D A;have:=A.pos;omega
 | succ n ih =>
  intro ts D A h;cases hb:Z9 ts with
  | error a=>exact (XZ a n).step fun f=>by rw [zP,hb]
  | ok y =>
   obtain ⟨p,z⟩:=y;obtain ⟨o,G⟩:=YX hb A
   by_cases hc:zm (zu z) [44]=true
   ·have H:=Zc hc
    exact ((ih z.tail (by omega) (zA o hc) (h++[p])).le (by omega)).step fun f=>by rw [zP,hb];simp only [if_pos hc]
   ·exact (ZH (h++[p]) z (n:=n) (by omega) o).step fun f=>by rw [zP,hb];simp only [if_neg hc]
theorem VJ (line:Nat) {n:Nat} (ts:List Tk) (hl:ts.length≤n+1) (hE:zi ts):yv (fun f=>Zq f line ts) n:=by
 unfold Zq
 refine (Vh ts (n:=n) hl hE).then (q:=fun f s us=>zh (zR [123] us) fun _ us=>zh (zP f [] us) fun l us=>zh (zR [125] us) fun _ us=>some (.ok ((⟨s,l,line⟩:Rc),us))) fun s us hu hEu=>?_
 refine (yj [123] us (n:=n) (by omega) hEu).then (q:=fun f _ us=>zh (zP f [] us) fun l us=>zh (zR [125] us) fun _ us=>some (.ok ((⟨s,l,line⟩:Rc),us))) fun _ us hu hEu=>?_
 refine (XD n us hu hEu []).then (q:=fun f l us=>zh (zR [125] us) fun _ us=>some (.ok ((⟨s,l,line⟩:Rc),us))) fun l us hu hEu=>?_
 exact (yj [125] us (n:=n) (by omega) hEu).then (q:=fun f _ us=>some (.ok ((⟨s,l,line⟩:Rc),us))) fun _ us hu hEu=>ZH _ _ hu hEu
theorem UP (line:Nat) {n:Nat} (ts:List Tk) (hl:ts.length≤n+1) (hE:zi ts):yv (fun f=>ZZ f line ts) n:=by
 unfold ZZ
 refine (Vh ts (n:=n) hl hE).then (q:=fun f s us=>zh (yw f us) fun l us=>zh (Xk us) fun t us=>zh (zI f us) fun b us=>some (.ok ((⟨s,l,t,b,line⟩:Fc),us))) fun s us hu hEu=>?_
 have y:yv (fun f=>yw f us) n:=by
  unfold yw
  refine (yj [40] us (n:=n) (by omega) hEu).then (q:=fun f _ us=>if zm (zu us) [41]=true then some (.ok ([],us.tail)) else zh (zP f [] us) fun l us=>zh (zR [41] us) fun _ us=>some (.ok (l,us))) fun _ us hu hEu=>?_
  by_cases hc:zm (zu us) [41]=true
  ·have h:=Zc hc
   simp only [if_pos hc];exact ZH _ _ (by omega) (zA hEu hc)
  ·simp only [if_neg hc]
   exact (XD n us hu hEu []).then (q:=fun f l us=>zh (zR [41] us) fun _ us=>some (.ok (l,us))) fun l us hu hEu=>(yj [41] us (n:=n) (by omega) hEu).then (q:=fun f _ us=>some (.ok (l,us))) fun _ us hu hEu=>ZH _ _ hu hEu
 refine y.then (q:=fun f l us=>zh (Xk us) fun t us=>zh (zI f us) fun b us=>some (.ok ((⟨s,l,t,b,line⟩:Fc),us))) fun l us hu hEu=>?_
 have o:yv (fun _=>Xk us) n:=by
  by_cases hc:zm (zu us) [58]=true
  ·have h:=Zc hc
   refine ⟨0,ZK 0 us.tail,fun _=>by unfold Xk;rw [if_pos hc],fun x us' e=>?_⟩
   have:=YK _ _ _ _ e (zA hEu hc)
   exact ⟨by omega,this.1⟩
  ·refine ⟨0,.ok ([],us),fun _=>by unfold Xk;rw [if_neg hc],fun x us' e=>?_⟩
   cases e
   exact ⟨hu,hEu⟩
 refine o.then (q:=fun f t us=>zh (zI f us) fun b us=>some (.ok ((⟨s,l,t,b,line⟩:Fc),us))) fun t us hu hEu=>?_
 exact (UE n us hu hEu).2.1.then (q:=fun f b us=>some (.ok ((⟨s,l,t,b,line⟩:Fc),us))) fun b us hu hEu=>ZH _ _ (by omega) hEu
theorem zcp (n:Nat):∀(ts:List Tk),ts.length≤n→zi ts→∀A z,yv (fun f=>Zp f A z ts) n:=by
 induction n with
 | zero=>intro ts G o;have:=o.pos;omega
 | succ n ih =>
  intro ts G o A z
  by_cases h0:(zu ts).k=0
  ·exact (ZH (⟨A,z⟩:Pg) ts G o).step fun f=>by rw [Zp,if_pos h0]
  by_cases h1:zm (zu ts) [114,101,99,111,114,100]=true
  ·have D:=Zc h1
   have h:=zA o h1;have y:=h.pos;exact ((VJ (zu ts).line (n:=n-1) ts.tail (by omega) h).then (q:=fun f x us=>Zp f (A++[x]) z us) (m:=n+1) fun x us hu hEu=>(ih us (by omega) hEu _ _).le (by omega)).step fun f=>by rw [Zp,if_neg h0,if_pos h1]
  by_cases h2:zm (zu ts) [102,110]=true
  ·have D:=Zc h2
   have h:=zA o h2;have y:=h.pos;exact ((UP (zu ts).line (n:=n-1) ts.tail (by omega) h).then (q:=fun f x us=>Zp f A (z++[x]) us) (m:=n+1) fun x us hu hEu=>(ih us (by omega) hEu _ _).le (by omega)).step fun f=>by rw [Zp,if_neg h0,if_neg h1,if_pos h2]
  ·exact (XZ _ _).step fun f=>by rw [Zp,if_neg h0,if_neg h1,if_neg h2]
end Go.Proofs.YtcphojjpapgblaaGreatDoor
