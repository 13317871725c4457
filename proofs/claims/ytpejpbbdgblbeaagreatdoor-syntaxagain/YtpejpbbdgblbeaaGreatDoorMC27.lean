import Derived.Test.YtpejpbbdgblbeaaGreatDoorMC17
namespace Go.Proofs.YtpejpbbdgblbeaaGreatDoor
open Go.RowKit Go.Shelf
set_option maxHeartbeats 16000000
set_option maxRecDepth 100000
structure Fc where
 name:List UInt8
 params:List Pm
 result:List UInt8
 body:List St
 line:Nat
def yo (f:Nat) (ts:List Tk):Option (PR (List Pm)):=zh (zR [40] ts) fun _ us=>if zm (zv us) [41]=true then some (.ok ([],us.tail)) else zh (zN f [] us) fun l us=>zh (zR [41] us) fun _ us=>some (.ok (l,us))
def xK (ts:List Tk):Option (PR (List UInt8)):=if zm (zv ts) [58]=true then some (ZB 0 ts.tail) else some (.ok ([],ts))
def ZX (f line:Nat) (ts:List Tk):Option (PR Fc):=zh (Z3 ts) fun s us=>zh (yo f us) fun l us=>zh (xK us) fun t us=>zh (zH f us) fun b us=>some (.ok (⟨s,l,t,b,line⟩,us))
def zjm (B:Nat) (w:World) (x:Fc) (v:Value):Prop :=
 ∃vp vb,v=.agg #[.string (zb x.name),vp,.string (zb x.result),vb,.int .i64 (x.line:Int)]∧ZV B w x.params vp∧z8 (fun k=>B≤k) w x.body vb
abbrev fcO (a:ByteArray) (p:Value) (t:ByteArray) (b:Value) (l:Int):Obj:=.cells #[.string a,p,.string t,b,.int .i64 l] 72
abbrev fcZ:Obj:=fcO ⟨#[]⟩ (.slice none 0 0) ⟨#[]⟩ (.slice none 0 0) 0
def UH (r g:Nat) (w:World) (res:PR Fc) (e:Ending) (w':World):Prop :=
 zd r w w'∧match res with
  | .error a=>e=ZI a
  | .ok (x,ts)=>∃v o cap,e=.returned v∧zjm w.heap.size w' x v∧zg r g o cap ts w'
theorem Ya {f:Nat}:∀{o l:List Pm} {ts us:List Tk},zN f o ts=some (.ok (l,us))→zi ts→zi us:=by
 induction f with
 | zero=>intro o l ts us h;simp [zN] at h
 | succ f ih =>
  intro o l ts us h A;rw [zN] at h;cases hb:Z8 ts with
  | error a=>rw [hb] at h;cases h
  | ok y =>
   obtain ⟨p,D⟩:=y;rw [hb] at h;simp only at h;have z:=(YV hb A).1
   split at h
   ·rename_i G;exact ih h (zD z G)
   ·exact Za h z
theorem xy {f:Nat} {ts us:List Tk} {l:List Pm} (h:yo f ts=some (.ok (l,us))) (hE:zi ts):zi us:=by
 unfold yo at h
 obtain ⟨_,A,G,h⟩:=za h;have o:=zY G hE
 split at h
 ·rename_i H;exact Za h (zD o H)
 ·obtain ⟨J,I,y,h⟩:=za h
  obtain ⟨_,D,z,h⟩:=za h;exact Za h (zY z (Ya y o))
theorem Qe {ts us:List Tk} {s:List UInt8} (h:xK ts=some (.ok (s,us))) (hE:zi ts):zi us:=by
 unfold xK at h
 split at h
 ·rename_i o
  simp only [Option.some.injEq] at h;exact (YI _ _ _ _ h (zD hE o)).1
 ·exact Za h hE
theorem ZV.keptR {r B:Nat} {w w':World} {l:List Pm} {v:Value} (h:ZV B w l v) (hk:zd r w w') (hB:r<B):ZV B w' l v:=h.kept hk.size fun k hk' hlt=>hk.block k hlt (by omega)
theorem ZV.setP {B P j:Nat} {w:World} {l:List Pm} {v:Value} (h:ZV B w l v) (u:Value) (hP:P<B):ZV B (w.setCell ⟨P,j,none⟩ u) l v:=h.kept (by simp) fun k hk _=>Below.heap_setCell _ _ _ _ (by simp;omega)
theorem zh5 (r g o cap line F:Nat) (ts:List Tk) (w:World) (R:PR Fc) (h:zg r g o cap ts w) (hE:zi ts) (hp:ZX F line ts=some R)
  (hpar:∀D o1 cap1 ts1 r1,yo F ts1=some r1→zi ts1→zg r g o1 cap1 ts1 D→zd r w D→Calls Tryz.prog 98 #[.pointer (some ⟨r,0,none⟩),.func (.func 97) #[.pointer (some ⟨r,0,none⟩)] #[]] D (zcY r g D r1))
  (hty:∀D o1 cap1 ts1,zi ts1→zg r g o1 cap1 ts1 D→zd r w D→Calls Tryz.prog 99 #[.pointer (some ⟨r,0,none⟩)] D (zaP r g D (ZB 0 ts1)))
  (hbl:∀D o1 cap1 ts1 r1,zH F ts1=some r1→zi ts1→zg r g o1 cap1 ts1 D→zd r w D→Calls Tryz.prog 100 #[.pointer (some ⟨r,0,none⟩)] D (X5 r g D r1)) :
  Calls Tryz.prog 54 #[.pointer (some ⟨r,0,none⟩),.int .i64 (line:Int)] w (UH r g w R):=by
 have bi:∀(fn:Fn) (first cap:Array Value) (w:World),(Instr.makeFunc fn first cap).run Tryz.prog w=.ok (.func fn first cap) w:=fun _ _ _ _=>rfl
 obtain ⟨t0,aT,rfl⟩:=hE.cons;have hr:=h.lt.1;have bh:=h.lt.2;obtain ⟨w0,am⟩:∃w0,w0=w.alloc fcZ:=⟨_,rfl⟩;have h0:zg r g o cap (t0::aT) w0:=by rw [am];exact h.alloc _
 have k0:zd r w w0:=by rw [am];exact (zd.refl r w).alloc _
 have b0:w0.heap[w.heap.size]?=some fcZ:=by rw [am];exact World.alloc_heap_new _ _
 have bb:w0.heap.size=w.heap.size+1:=by rw [am];simp
 have cn:=xu r g o cap t0 aT w0 h0 (fun hk=>(hE.tail (by omega)).ne)
 have aK:Hid (w0=w.alloc fcZ):=am;have aW:Hid (∀D o1 cap1 ts1 r1,zH F ts1=some r1→zi ts1→zg r g o1 cap1 ts1 D→zd r w D→Calls Tryz.prog 100 #[.pointer (some ⟨r,0,none⟩)] D (X5 r g D r1)):=hbl;have a9:Hid (∀D o1 cap1 ts1,zi ts1→zg r g o1 cap1 ts1 D→zd r w D→Calls Tryz.prog 99 #[.pointer (some ⟨r,0,none⟩)] D (zaP r g D (ZB 0 ts1))):=hty;have a0:Hid (∀D o1 cap1 ts1 r1,yo F ts1=some r1→zi ts1→zg r g o1 cap1 ts1 D→zd r w D→Calls Tryz.prog 98 #[.pointer (some ⟨r,0,none⟩),.func (.func 97) #[.pointer (some ⟨r,0,none⟩)] #[]] D (zcY r g D r1)):=hpar
 unfold ZX Z3 at hp
 simp only [zE,List.tail_cons] at hp;clear h h0 am hbl hty hpar
 by_cases hk:t0.k=1
 ·simp only [if_pos hk] at cn
  rw [if_pos hk] at hp;simp only [zh] at hp;have aM:=hE.tail (by omega:t0.k≠0)
  go_enter Tryz.func54,Tryz.ntmps54
  go_wp2_with fail
  rw [←aK.out];refine cn.mono ?_;clear cn aK;rintro e D ⟨an,rfl,h1⟩;obtain ⟨A,ar⟩:∃A,A=zb t0.s:=⟨_,rfl⟩;rw [←ar];have aB:Hid (A=zb t0.s):=ar;obtain ⟨w2,ag⟩:∃w2,w2=D.alloc (fcO A (.slice none 0 0) ⟨#[]⟩ (.slice none 0 0) line):=⟨_,rfl⟩;have bg:=an.size;have k2:zd r w w2:=by rw [ag];exact (k0.trans an).alloc _
  have b2:w2.heap[w.heap.size]?=some fcZ:=by rw [ag];exact (Below.heap_alloc _ _ _ (by omega)).trans ((an.block _ (by omega) (by omega)).trans b0)
  obtain ⟨P,hP⟩:∃P,P=D.heap.size:=⟨_,rfl⟩;have p2:w2.heap[P]?=some (fcO A (.slice none 0 0) ⟨#[]⟩ (.slice none 0 0) line):=by rw [ag,hP];exact World.alloc_heap_new _ _
  have aV:w2.heap.size=P+1:=by rw [ag,hP];simp
  obtain ⟨t1,aZ,rfl⟩:=aM.cons;have h2:zg r g (o+5) (cap-1) (t1::aZ) w2:=by rw [ag];exact h1.alloc _
  cases hb2:yo F (t1::aZ) with
  | none=>rw [hb2] at hp;cases hp
  | some r2 =>
   rw [hb2] at hp;have cp:=a0.out w2 _ _ _ r2 hb2 aM h2 k2;have a3:Hid (w2=D.alloc (fcO A (.slice none 0 0) ⟨#[]⟩ (.slice none 0 0) line)):=ag;have aJ:Hid (w2.heap[w.heap.size]?=some fcZ∧w2.heap[P]?=some (fcO A (.slice none 0 0) ⟨#[]⟩ (.slice none 0 0) line)):=⟨b2,p2⟩;have aP:Hid (zd r w w2):=k2;have HS:Hid (w.heap.size<P∧w2.heap.size=P+1):=⟨by omega,aV⟩
   have bd:Hid (D.heap.size=P):=hP.symm;clear ag k2 b2 p2 aV h2 h1 an bg hP k0 b0 bb ar;go_wp2_with fail
   rw [←a3.out];rw [bd.out];refine cp.mono ?_;clear cp a3;rintro e w3 ⟨ao,z⟩;rcases r2 with a | ⟨pl,bj⟩
   ·obtain rfl:=z
    simp only [Option.some.injEq] at hp;subst hp;exact ⟨rfl,aP.out.trans ao,rfl⟩
   ·obtain ⟨vp,o3,al,rfl,aN,aF⟩:=z
    simp only at hp;obtain ⟨I,c1,c2,rfl⟩:=aN.slice;have az:=xy hb2 aM;obtain ⟨t2,ai,rfl⟩:=az.cons;have hS:=HS.out;have ba:=ao.size;have b3:=(ao.block w.heap.size (by omega) (by omega)).trans aJ.out.1
    have p3:=(ao.block P (by omega) (by omega)).trans aJ.out.2
    obtain ⟨-,m1,-,-,-,mf⟩:=zU p3;have a6:=mf 1;obtain ⟨w4,ad⟩:∃w4,w4=w3.setCell ⟨P,1,none⟩ (.slice I c1 c2):=⟨_,rfl⟩;have p4:w4.heap[P]?=some (fcO A (.slice I c1 c2) ⟨#[]⟩ (.slice none 0 0) line):=by rw [ad];exact zq _ p3
    have b4:w4.heap[w.heap.size]?=some fcZ:=by rw [ad,Below.heap_setCell _ _ _ _ (by simp;omega)];exact b3
    have a8:w4.heap.size=w3.heap.size:=by rw [ad];simp
    have aD:zg r g o3 al (t2::ai) w4:=by rw [ad];exact aF.setP _ (by omega) (by omega)
    have k4:zd r w w4:=by rw [ad];exact (aP.out.trans ao).setOther (by simp;omega) _
    have aH:ZV w2.heap.size w4 pl (.slice I c1 c2):=by rw [ad];exact aN.setP _ (by omega)
    have cs:=Zx r g o3 al t2 ai [58] w4 aD (fun hi=>(az.tail (zj hi)).ne)
    have O:Hid (w4.heap[w.heap.size]?=some fcZ∧w4.heap[P]?=some (fcO A (.slice I c1 c2) ⟨#[]⟩ (.slice none 0 0) line)):=⟨b4,p4⟩;have ay:Hid (zd r w w4):=k4;have aC:Hid (ZV w2.heap.size w4 pl (.slice I c1 c2)):=aH;have aG:=ad.symm;simp only [xK,zE,List.tail_cons] at hp;clear ad p4 b4 a8 aD k4 aH aN aF b3 p3 mf ao ba hS aJ aP
    by_cases hi:zm t2 [58]=true
    ·rw [hi] at cs
     simp only [if_pos hi] at hp;have aR:=az.tail (zj hi);go_wp2_with fail
     refine cs.mono ?_;clear cs aG m1 a6;rintro e w5 ⟨rfl,aQ,h5⟩;have aU:zg r g (o3+5) (al-1) ai w5:=by simpa using h5
     have ct:=a9.out w5 _ _ ai aR aU (ay.out.trans aQ);have aY:Hid (zd r w4 w5):=aQ;clear h5 aU aQ;go_wp2_with fail
     refine ct.mono ?_;clear ct;rintro e w6 ⟨a4,z⟩;have L:Hid (zd r w4 w6):=aY.out.trans a4;cases hR6:ZB 0 ai with
     | error a =>
      rw [hR6] at z hp;obtain rfl:=z;simp only [Option.some.injEq] at hp;subst hp;exact ⟨rfl,ay.out.trans L.out,rfl⟩
     | ok y =>
      obtain ⟨ty,a1⟩:=y;rw [hR6] at z hp;obtain ⟨o6,aS,rfl,aA⟩:=z;simp only at hp;have aL:=(YI _ _ _ _ hR6 aR).1;obtain ⟨TY,aI⟩:∃TY,TY=zb ty:=⟨_,rfl⟩;rw [←aI];have a5:Hid (TY=zb ty):=aI;have hS:=HS.out;have be:=L.out.size;have ax:P<w4.heap.size:=(Array.getElem?_eq_some_iff.1 O.out.2).1;have ap:w.heap.size<w4.heap.size:=(Array.getElem?_eq_some_iff.1 O.out.1).1;have b6:=(L.out.block w.heap.size ap (by omega)).trans O.out.1
      have p6:=(L.out.block P ax (by omega)).trans O.out.2
      have aE:=aC.out.keptR L.out (by omega)
      obtain ⟨-,-,m2,-,-,mf⟩:=zU p6;have bf:=mf 2;obtain ⟨w7,ah⟩:∃w7,w7=w6.setCell ⟨P,2,none⟩ (.string TY):=⟨_,rfl⟩;have p7:w7.heap[P]?=some (fcO A (.slice I c1 c2) TY (.slice none 0 0) line):=by rw [ah];exact zq _ p6
      have b7:w7.heap[w.heap.size]?=some fcZ:=by rw [ah,Below.heap_setCell _ _ _ _ (by simp;omega)];exact b6
      have af:zg r g o6 aS a1 w7:=by rw [ah];exact aA.setP _ (by omega) (by omega)
      have k7:zd r w w7:=by rw [ah];exact (ay.out.trans L.out).setOther (by simp;omega) _
      have ae:ZV w2.heap.size w7 pl (.slice I c1 c2):=by rw [ah];exact aE.setP _ (by omega)
      have a2:=ah.symm;clear ah p6 b6 aE aA mf be ax ap hS aI a4;cases hb8:zH F a1 with
      | none=>rw [hb8] at hp;cases hp
      | some r8 =>
       rw [hb8] at hp;have cb:=aW.out w7 _ _ _ r8 hb8 aL af k7;have J:Hid (w7.heap[w.heap.size]?=some fcZ∧w7.heap[P]?=some (fcO A (.slice I c1 c2) TY (.slice none 0 0) line)):=⟨b7,p7⟩;have ak:Hid (zd r w w7):=k7;have T:Hid (ZV w2.heap.size w7 pl (.slice I c1 c2)):=ae;clear b7 p7 k7 ae af;go_wp2_with fail
       refine cb.mono ?_;clear cb a2 m2 bf;rintro e w8 ⟨H,z⟩;rcases r8 with a | ⟨bl,av⟩
       ·obtain rfl:=z
        simp only [Option.some.injEq] at hp;subst hp;exact ⟨rfl,ak.out.trans H,rfl⟩
       ·obtain ⟨vb,o8,Z,rfl,aj,aa⟩:=z
        simp only [Option.some.injEq] at hp;subst hp;obtain ⟨Y,Q,d2,rfl⟩:=aj.slice;have hS:=HS.out;have aO:=H.size;have au:P<w7.heap.size:=(Array.getElem?_eq_some_iff.1 J.out.2).1;have aw:w.heap.size<w7.heap.size:=(Array.getElem?_eq_some_iff.1 J.out.1).1;have b8:=(H.block w.heap.size aw (by omega)).trans J.out.1
        have p8:=(H.block P au (by omega)).trans J.out.2
        have ab:=T.out.keptR H (by omega)
        obtain ⟨-,-,-,m3,-,mf⟩:=zU p8;have a7:=mf 3;obtain ⟨w9,G⟩:∃w9,w9=w8.setCell ⟨P,3,none⟩ (.slice Y Q d2):=⟨_,rfl⟩;have p9:w9.heap[P]?=some (fcO A (.slice I c1 c2) TY (.slice Y Q d2) line):=by rw [G];exact zq _ p8
        have b9:w9.heap[w.heap.size]?=some fcZ:=by rw [G,Below.heap_setCell _ _ _ _ (by simp;omega)];exact b8
        have U:zg r g o8 Z av w9:=by rw [G];exact aa.setP _ (by omega) (by omega)
        have k9:zd r w w9:=by rw [G];exact (ak.out.trans H).setOther (by simp;omega) _
        have V:ZV w2.heap.size w9 pl (.slice I c1 c2):=by rw [G];exact ab.setP _ (by omega)
        have W:z8 (fun k=>w7.heap.size≤k) w9 bl (.slice Y Q d2):=by rw [G];exact aj.setP _ fun k hk=>by omega
        obtain ⟨e0,e1,e2,e3,e4,-⟩:=zU p9;obtain ⟨q0,q1,q2,q3,q4,qf⟩:=zU b9;obtain ⟨z0,z1,z2,z3,z4⟩:=zX b9 (.string A) (.slice I c1 c2) (.string TY) (.slice Y Q d2) (.int .i64 (line:Int))
        have HP:Hid (UH r g w (.ok (⟨t0.s,pl,ty,bl,line⟩,av)) (.returned (.agg #[.string A,.slice I c1 c2,.string TY,.slice Y Q d2,.int .i64 (line:Int)])) (set5 w9 w.heap.size (.string A) (.slice I c1 c2) (.string TY) (.slice Y Q d2) (.int .i64 (line:Int)))):=by
         have N:∀k,k≠w.heap.size→(set5 w9 w.heap.size (.string A) (.slice I c1 c2) (.string TY) (.slice Y Q d2) (.int .i64 (line:Int))).heap[k]?=w9.heap[k]?:=fun k hk=>zu _ _ _ _ _ _ _ hk
         refine ⟨ZN k9 (Nat.le_refl _) _ _ _ _ _,_,o8,Z,rfl,⟨_,_,by rw [aB.out,a5.out],(V.kept (by simp) fun k hk _=>N k (by omega)).mono (by omega),(W.kept (by simp) fun k hk _=>N k (by omega)).wide fun k hk=>by omega⟩,U.keep (N r (by omega)) (N g (by omega))⟩
        have aX:=G.symm;clear G p9 b9 U k9 V W b8 p8 ab mf H aO au aw hS aj aa J T ak;go_wp2
        exact bodyPost_ret (v:=.agg #[.string A,.slice I c1 c2,.string TY,.slice Y Q d2,.int .i64 (line:Int)]) (by simp [results,Tryz.results54,go_sem,z0,z1,z2,z3,z4]) rfl HP.out
    ·have bc:zm t2 [58]=false:=by simpa using hi
     rw [bc] at cs;simp only [if_neg hi] at hp;go_wp2_with fail
     refine cs.mono ?_;clear cs aG m1 a6;rintro e w7 ⟨rfl,aq,h7⟩;have af:zg r g o3 al (t2::ai) w7:=by simpa using h7
     have hS:=HS.out;have ax:P<w4.heap.size:=(Array.getElem?_eq_some_iff.1 O.out.2).1;have ap:w.heap.size<w4.heap.size:=(Array.getElem?_eq_some_iff.1 O.out.1).1;have b7:=(aq.block w.heap.size ap (by omega)).trans O.out.1
     have p7:=(aq.block P ax (by omega)).trans O.out.2
     have k7:zd r w w7:=ay.out.trans aq;have ae:=aC.out.keptR aq (by omega)
     have aL:=az;clear ax ap hS aq h7;cases hb8:zH F (t2::ai) with
     | none=>rw [hb8] at hp;cases hp
     | some r8 =>
      rw [hb8] at hp;have cb:=aW.out w7 _ _ _ r8 hb8 aL af k7;have J:Hid (w7.heap[w.heap.size]?=some fcZ∧w7.heap[P]?=some (fcO A (.slice I c1 c2) ⟨#[]⟩ (.slice none 0 0) line)):=⟨b7,p7⟩;have ak:Hid (zd r w w7):=k7;have T:Hid (ZV w2.heap.size w7 pl (.slice I c1 c2)):=ae;clear b7 p7 k7 ae af;go_wp2_with fail
      refine cb.mono ?_;clear cb;rintro e w8 ⟨H,z⟩;rcases r8 with a | ⟨bl,av⟩
      ·obtain rfl:=z
       simp only [Option.some.injEq] at hp;subst hp;exact ⟨rfl,ak.out.trans H,rfl⟩
      ·obtain ⟨vb,o8,Z,rfl,aj,aa⟩:=z
       simp only [Option.some.injEq] at hp;subst hp;obtain ⟨Y,Q,d2,rfl⟩:=aj.slice;have hS:=HS.out;have aO:=H.size;have au:P<w7.heap.size:=(Array.getElem?_eq_some_iff.1 J.out.2).1;have aw:w.heap.size<w7.heap.size:=(Array.getElem?_eq_some_iff.1 J.out.1).1;have b8:=(H.block w.heap.size aw (by omega)).trans J.out.1
       have p8:=(H.block P au (by omega)).trans J.out.2
       have ab:=T.out.keptR H (by omega)
       obtain ⟨-,-,-,m3,-,mf⟩:=zU p8;have a7:=mf 3;obtain ⟨w9,G⟩:∃w9,w9=w8.setCell ⟨P,3,none⟩ (.slice Y Q d2):=⟨_,rfl⟩;have p9:w9.heap[P]?=some (fcO A (.slice I c1 c2) ⟨#[]⟩ (.slice Y Q d2) line):=by rw [G];exact zq _ p8
       have b9:w9.heap[w.heap.size]?=some fcZ:=by rw [G,Below.heap_setCell _ _ _ _ (by simp;omega)];exact b8
       have U:zg r g o8 Z av w9:=by rw [G];exact aa.setP _ (by omega) (by omega)
       have k9:zd r w w9:=by rw [G];exact (ak.out.trans H).setOther (by simp;omega) _
       have V:ZV w2.heap.size w9 pl (.slice I c1 c2):=by rw [G];exact ab.setP _ (by omega)
       have W:z8 (fun k=>w7.heap.size≤k) w9 bl (.slice Y Q d2):=by rw [G];exact aj.setP _ fun k hk=>by omega
       obtain ⟨e0,e1,e2,e3,e4,-⟩:=zU p9;obtain ⟨q0,q1,q2,q3,q4,qf⟩:=zU b9;obtain ⟨z0,z1,z2,z3,z4⟩:=zX b9 (.string A) (.slice I c1 c2) (.string ⟨#[]⟩) (.slice Y Q d2) (.int .i64 (line:Int))
       have HP:Hid (UH r g w (.ok (⟨t0.s,pl,[],bl,line⟩,av)) (.returned (.agg #[.string A,.slice I c1 c2,.string ⟨#[]⟩,.slice Y Q d2,.int .i64 (line:Int)])) (set5 w9 w.heap.size (.string A) (.slice I c1 c2) (.string ⟨#[]⟩) (.slice Y Q d2) (.int .i64 (line:Int)))):=by
        have N:∀k,k≠w.heap.size→(set5 w9 w.heap.size (.string A) (.slice I c1 c2) (.string ⟨#[]⟩) (.slice Y Q d2) (.int .i64 (line:Int))).heap[k]?=w9.heap[k]?:=fun k hk=>zu _ _ _ _ _ _ _ hk
        refine ⟨ZN k9 (Nat.le_refl _) _ _ _ _ _,_,o8,Z,rfl,⟨_,_,by rw [aB.out],(V.kept (by simp) fun k hk _=>N k (by omega)).mono (by omega),(W.kept (by simp) fun k hk _=>N k (by omega)).wide fun k hk=>by omega⟩,U.keep (N r (by omega)) (N g (by omega))⟩
       have aX:=G.symm;clear G p9 b9 U k9 V W b8 p8 ab mf H aO au aw hS aj aa J T ak;go_wp2
       exact bodyPost_ret (v:=.agg #[.string A,.slice I c1 c2,.string ⟨#[]⟩,.slice Y Q d2,.int .i64 (line:Int)]) (by simp [results,Tryz.results54,go_sem,z0,z1,z2,z3,z4]) rfl HP.out
 ·simp only [if_neg hk] at cn
  rw [if_neg hk] at hp;simp only [zh,Option.some.injEq] at hp;subst hp
  go_enter Tryz.func54,Tryz.ntmps54
  go_wp2_with fail
  rw [←aK.out];refine cn.mono ?_;clear cn;rintro e D ⟨an,rfl⟩;exact ⟨rfl,k0.trans an,rfl⟩
def XS {α:Type} (E:(Nat→Prop)→World→α→List Value→Prop) (sz:Nat) (S:Nat→Prop) (w:World) (l:List α) (v:Value):Prop :=
 (l=[]∧v=.slice none 0 0)∨∃(g cap:Nat) (us:List (List Value)),v=.slice (some ⟨g,0,none⟩) l.length cap∧l≠[]∧us.length=l.length∧S g∧g<w.heap.size∧l.length≤cap∧cap≤maxLen∧(∀j u,us.flatten[j]?=some u→w.cell? ⟨g,j,none⟩=some u)∧(∀c∈us,c.length=sz)∧∀(j:Nat) (x:α) (c:List Value),l[j]?=some x→us[j]?=some c→E S w x c
theorem XS.kept {α:Type} {E:(Nat→Prop)→World→α→List Value→Prop} (L:yd E) {sz:Nat} {S:Nat→Prop} {w w':World} {l:List α} {v:Value} (h:XS E sz S w l v) (hs:w.heap.size≤w'.heap.size) (hb:∀k,S k→k<w.heap.size→w'.heap[k]?=w.heap[k]?):XS E sz S w' l v:=by
 rcases h with h | ⟨g,y,N,I,D,G,A,z,H,O,Q,J,o⟩
 ·exact .inl h
 ·exact .inr ⟨g,y,N,I,D,G,A,Nat.lt_of_lt_of_le z hs,H,O,fun j u hj=>by rw [World.cell?_of_block (hb g A z)];exact Q j u hj,J,fun j x c hx hc=>L.kept (o j x c hx hc) hs hb⟩
theorem XS.wide {α:Type} {E:(Nat→Prop)→World→α→List Value→Prop} (L:yd E) {sz:Nat} {S S':Nat→Prop} {w:World} {l:List α} {v:Value} (h:XS E sz S w l v) (hS:∀k,S k→S' k):XS E sz S' w l v:=by
 rcases h with h | ⟨g,y,N,I,z,D,G,A,H,O,Q,J,o⟩
 ·exact .inl h
 ·exact .inr ⟨g,y,N,I,z,D,hS _ G,A,H,O,Q,J,fun j x c hx hc=>L.wide (o j x c hx hc) hS⟩
theorem XS.low {α:Type} {E:(Nat→Prop)→World→α→List Value→Prop} (L:yd E) {sz:Nat} {S:Nat→Prop} {w:World} {l:List α} {v:Value} (h:XS E sz S w l v):XS E sz (fun k=>S k∧k<w.heap.size) w l v:=by
 rcases h with h | ⟨g,y,N,I,A,D,G,z,H,O,Q,J,o⟩
 ·exact .inl h
 ·exact .inr ⟨g,y,N,I,A,D,⟨G,z⟩,z,H,O,Q,J,fun j x c hx hc=>L.low (o j x c hx hc)⟩
theorem XS.slice {α:Type} {E:(Nat→Prop)→World→α→List Value→Prop} {sz:Nat} {S:Nat→Prop} {w:World} {l:List α} {v:Value} (h:XS E sz S w l v):∃b c,v=.slice b l.length c:=by
 rcases h with ⟨rfl,rfl⟩ | ⟨g,o,z,y,_⟩
 ·exact ⟨none,0,rfl⟩
 ·exact ⟨_,_,y⟩
theorem yK.toG {α:Type} {E:(Nat→Prop)→World→α→List Value→Prop} (L:yd E) {sz ty B:Nat} {w:World} {l:List α} {v:Value} (h:yK E sz ty B w l v):XS E sz (fun k=>B≤k) w l v:=by
 rcases h with h | ⟨g,z,A,h⟩
 ·exact .inl h
 ·have y:=h.block
  refine .inr ⟨g,z,A,h.val,h.ne,h.len,y.1,y.2.1,y.2.2.1,y.2.2.2,fun j u hj=>?_,h.wid,fun j x c o hc=>L.wide (h.kids j x c o hc) fun k hk=>hk.1⟩
  have o:=h.own.cells (g:=g) (by rw [h.val];rfl) j u hj
  by_cases h0:j=0
  ·subst h0;simpa [Addr.add] using o
  ·simpa [Addr.add,h0] using o
abbrev UI (S:Nat→Prop) (w:World) (l:List Pm) (v:Value):Prop:=XS PmE 2 S w l v
theorem ZV.toG {B:Nat} {w:World} {l:List Pm} {v:Value} (h:ZV B w l v):UI (fun k=>B≤k) w l v:=yK.toG y9 h
theorem z8.lower {S:Nat→Prop} {w:World} {l:List St} {v:Value} (h:z8 S w l v):z8 (fun k=>S k∧k<w.heap.size) w l v:=by
 obtain ⟨g,o,z,A,y⟩:=h;exact ⟨g,o,z,A.low,fun j x c hx hc=>(y j x c hx hc).low⟩
def RcE (S:Nat→Prop) (w:World) (x:Rc) (c:List Value):Prop:=∃vp,c=[.string (zb x.name),vp,.int .i64 (x.line:Int)]∧UI S w x.fields vp
theorem YO:yd RcE:=⟨fun ⟨vp,h1,h2⟩ hs hb=>⟨vp,h1,h2.kept y9 hs hb⟩,fun ⟨vp,h1,h2⟩ hS=>⟨vp,h1,h2.wide y9 hS⟩,fun ⟨vp,h1,h2⟩=>⟨vp,h1,h2.low y9⟩⟩
def FcE (S:Nat→Prop) (w:World) (x:Fc) (c:List Value):Prop:=∃vp vb,c=[.string (zb x.name),vp,.string (zb x.result),vb,.int .i64 (x.line:Int)]∧UI S w x.params vp∧z8 S w x.body vb
theorem YP:yd FcE:=⟨fun ⟨vp,vb,h1,h2,h3⟩ hs hb=>⟨vp,vb,h1,h2.kept y9 hs hb,h3.kept hs hb⟩,fun ⟨vp,vb,h1,h2,h3⟩ hS=>⟨vp,vb,h1,h2.wide y9 hS,h3.wide hS⟩,fun ⟨vp,vb,h1,h2,h3⟩=>⟨vp,vb,h1,h2.low y9,h3.lower⟩⟩
def EX {α:Type} (E:(Nat→Prop)→World→α→List Value→Prop) (X:Nat→Prop) (S:Nat→Prop) (w:World) (x:α) (c:List Value):Prop:=E (fun k=>S k∧X k) w x c
theorem Xa {α:Type} {E:(Nat→Prop)→World→α→List Value→Prop} (L:yd E) (X:Nat→Prop):yd (EX E X):=⟨fun h hs hb=>L.kept h hs fun k hk hlt=>hb k hk.1 hlt,fun h hS=>L.wide h fun k hk=>⟨hS k hk.1,hk.2⟩,fun h=>L.wide (L.low h) fun _ hk=>⟨⟨hk.1.1,hk.2⟩,hk.1.2⟩⟩
structure yY (B:Nat) (w:World) (rs:List Rc) (fs:List Fc) (vr vf:Value):Prop where
 r:yK (EX RcE fun k=>vf.ownBlock≠some k) 3 74 B w rs vr
 f:yK (EX FcE fun k=>vr.ownBlock≠some k) 5 72 B w fs vf
 apart:∀k,vr.ownBlock=some k→vf.ownBlock≠some k
theorem yY.nil (B:Nat) (w:World):yY B w [] [] (.slice none 0 0) (.slice none 0 0):=⟨.inl ⟨rfl,rfl⟩,.inl ⟨rfl,rfl⟩,fun k h=>by simp [Value.ownBlock] at h⟩
theorem yY.kept {B:Nat} {w w':World} {rs:List Rc} {fs:List Fc} {vr vf:Value} (h:yY B w rs fs vr vf) (hs:w.heap.size≤w'.heap.size) (hb:∀k,B≤k→k<w.heap.size→w'.heap[k]?=w.heap[k]?):yY B w' rs fs vr vf :=
 ⟨h.r.kept (Xa YO _) hs hb,h.f.kept (Xa YP _) hs hb,h.apart⟩
theorem yK.beside {α:Type} {E:(Nat→Prop)→World→α→List Value→Prop} (L:yd E) {sz ty B:Nat} {w w':World} {l:List α} {v vr vr':Value} {ob:Obj} (h:yK (EX E fun k=>vr.ownBlock≠some k) sz ty B w l v) (ha:∀k,vr.ownBlock=some k→v.ownBlock≠some k) (hg:(w.alloc ob).grownBy w' vr.ownBlock) (hat:vr'.ownBlock=vr.ownBlock∨vr'.ownBlock=some (w.alloc ob).heap.size):yK (EX E fun k=>vr'.ownBlock≠some k) sz ty B w' l v:=by
 rcases h with h | ⟨g,A,Q,h⟩
 ·exact .inl h
 ·have U:w.heap.size≤w'.heap.size:=by have:=hg.size;simp at this;omega
  have o:∀k,vr.ownBlock≠some k→k<w.heap.size→w'.heap[k]?=w.heap[k]?:=fun k hk hlt=>(hg.block k (by simp;omega) (fun e=>hk e.symm)).trans (Below.heap_alloc _ _ _ hlt)
  have D:v.ownBlock=some g:=by rw [h.val];rfl
  have J:vr.ownBlock≠some g:=fun e=>ha g e D
  have O:=h.block;refine .inr ⟨g,A,Q,h.val,h.ne,?_,h.len,h.wid,fun j x c hx hc=>?_⟩
  ·refine ⟨h.own.1,?_⟩
   rcases h.own.2 with y | ⟨I,z,H,y,R,T,N⟩
   ·exact .inl y
   ·have e:I=g:=by rw [h.val] at y;simp at y;exact y.1.symm
    subst e;exact .inr ⟨I,z,H,y,R,(o I J O.2.1).trans T,N⟩
  ·have G:E (fun k=>(B≤k∧k≠g)∧vr.ownBlock≠some k) w x c:=h.kids j x c hx hc
   refine L.wide (L.kept (L.low G) U fun k hk _=>o k hk.1.2 hk.2) fun k hk=>⟨hk.1.1,?_⟩
   rcases hat with e | e
   ·rw [e];exact hk.1.2
   ·rw [e]
    intro V
    have:=Option.some.inj V
    simp at this
    omega
theorem yY.addR {B N:Nat} {w w':World} {rs:List Rc} {fs:List Fc} {vr vf vr':Value} {x:Rc} {c:List Value} {ob:Obj} {us:List (List Value)} (h:yY B w rs fs vr vf)
  (hnext:∀{w':World} {v':Value} {x:Rc} {c:List Value} {ob:Obj} {N:Nat},EX RcE (fun k=>vf.ownBlock≠some k) (fun k=>N≤k) w x c→B≤N→(∀q,vr.ownBlock=some q→q<N)→c.length=3→w'.ownsRow B 74 3 v' (rs.length+1) (us.flatten++c)→(w.alloc ob).grownBy w' vr.ownBlock→(v'.ownBlock=vr.ownBlock∨v'.ownBlock=some (w.alloc ob).heap.size)→yK (EX RcE fun k=>vf.ownBlock≠some k) 3 74 B w' (rs++[x]) v')
  (hx:RcE (fun k=>N≤k) w x c) (hBN:B≤N) (hr:∀q,vr.ownBlock=some q→q<N) (hf:∀q,vf.ownBlock=some q→q<N) (hfw:∀q,vf.ownBlock=some q→q<w.heap.size) (hc:c.length=3) (ho:w'.ownsRow B 74 3 vr' (rs.length+1) (us.flatten++c)) (hg:(w.alloc ob).grownBy w' vr.ownBlock) (hat:vr'.ownBlock=vr.ownBlock∨vr'.ownBlock=some (w.alloc ob).heap.size):yY B w' (rs++[x]) fs vr' vf:=by
 refine ⟨hnext (YO.wide hx fun k hk=>⟨hk,fun e=>by have:=hf k e;omega⟩) hBN hr hc ho hg hat,h.f.beside YP h.apart hg hat,fun k hk e=>?_⟩
 rcases hat with o | o
 ·rw [o] at hk;exact h.apart k hk e
 ·rw [o] at hk
  have:=Option.some.inj hk
  have y:=hfw k e
  simp at this
  omega
theorem yY.addF {B N:Nat} {w w':World} {rs:List Rc} {fs:List Fc} {vr vf vf':Value} {x:Fc} {c:List Value} {ob:Obj} {us:List (List Value)} (h:yY B w rs fs vr vf)
  (hnext:∀{w':World} {v':Value} {x:Fc} {c:List Value} {ob:Obj} {N:Nat},EX FcE (fun k=>vr.ownBlock≠some k) (fun k=>N≤k) w x c→B≤N→(∀q,vf.ownBlock=some q→q<N)→c.length=5→w'.ownsRow B 72 5 v' (fs.length+1) (us.flatten++c)→(w.alloc ob).grownBy w' vf.ownBlock→(v'.ownBlock=vf.ownBlock∨v'.ownBlock=some (w.alloc ob).heap.size)→yK (EX FcE fun k=>vr.ownBlock≠some k) 5 72 B w' (fs++[x]) v')
  (hx:FcE (fun k=>N≤k) w x c) (hBN:B≤N) (hf:∀q,vf.ownBlock=some q→q<N) (hr:∀q,vr.ownBlock=some q→q<N) (hrw:∀q,vr.ownBlock=some q→q<w.heap.size) (hc:c.length=5) (ho:w'.ownsRow B 72 5 vf' (fs.length+1) (us.flatten++c)) (hg:(w.alloc ob).grownBy w' vf.ownBlock) (hat:vf'.ownBlock=vf.ownBlock∨vf'.ownBlock=some (w.alloc ob).heap.size):yY B w' rs (fs++[x]) vr vf':=by
 refine ⟨h.r.beside YO (fun k hk e=>h.apart k e hk) hg hat,hnext (YP.wide hx fun k hk=>⟨hk,fun e=>by have:=hr k e;omega⟩) hBN hf hc ho hg hat,fun k hk e=>?_⟩
 rcases hat with o | o
 ·rw [o] at e;exact h.apart k hk e
 ·rw [o] at e
  have:=Option.some.inj e
  have y:=hrw k hk
  simp at this
  omega
structure Pg where
 recs:List Rc
 funs:List Fc
def xL (S:Nat→Prop) (w:World) (p:Pg) (v:Value):Prop:=∃vr vf,v=.agg #[vr,vf]∧XS RcE 3 S w p.recs vr∧XS FcE 5 S w p.funs vf
theorem yY.pg {B:Nat} {w:World} {rs:List Rc} {fs:List Fc} {vr vf:Value} (h:yY B w rs fs vr vf):xL (fun k=>B≤k) w ⟨rs,fs⟩ (.agg #[vr,vf]):=by
 refine ⟨vr,vf,rfl,?_,?_⟩
 ·rcases h.r.toG (Xa YO _) with y | ⟨g,o,G,L,H,J,A,I,D,N,O,y,z⟩
  ·exact .inl y
  ·exact .inr ⟨g,o,G,L,H,J,A,I,D,N,O,y,fun j x c hx hc=>YO.wide (z j x c hx hc) fun k hk=>hk.1⟩
 ·rcases h.f.toG (Xa YP _) with y | ⟨g,o,G,L,H,J,A,I,D,N,O,y,z⟩
  ·exact .inl y
  ·exact .inr ⟨g,o,G,L,H,J,A,I,D,N,O,y,fun j x c hx hc=>YP.wide (z j x c hx hc) fun k hk=>hk.1⟩
theorem xL.kept {S:Nat→Prop} {w w':World} {p:Pg} {v:Value} (h:xL S w p v) (hs:w.heap.size≤w'.heap.size) (hb:∀k,S k→k<w.heap.size→w'.heap[k]?=w.heap[k]?):xL S w' p v:=by
 obtain ⟨o,z,rfl,A,y⟩:=h;exact ⟨o,z,rfl,A.kept YO hs hb,y.kept YP hs hb⟩
theorem xL.wide {S S':Nat→Prop} {w:World} {p:Pg} {v:Value} (h:xL S w p v) (hS:∀k,S k→S' k):xL S' w p v:=by
 obtain ⟨o,z,rfl,A,y⟩:=h;exact ⟨o,z,rfl,A.wide YO hS,y.wide YP hS⟩
def Zl (f line:Nat) (ts:List Tk):Option (PR Rc):=zh (Z3 ts) fun s us=>zh (zR [123] us) fun _ us=>zh (zN f [] us) fun l us=>zh (zR [125] us) fun _ us=>some (.ok (⟨s,l,line⟩,us))
def Zm:Nat→List Rc→List Fc→List Tk→Option (PR Pg)
 | 0,_,_,_=>none
 | f+1,rs,fs,ts =>
  if (zv ts).k=0 then some (.ok (⟨rs,fs⟩,ts))
  else if zm (zv ts) [114,101,99,111,114,100]=true then zh (Zl f (zv ts).line ts.tail) fun x us=>Zm f (rs++[x]) fs us
  else if zm (zv ts) [102,110]=true then zh (ZX f (zv ts).line ts.tail) fun x us=>Zm f rs (fs++[x]) us
  else some (.error (zv ts).at0)
theorem Yy {f line:Nat} {ts us:List Tk} {x:Rc} (h:Zl f line ts=some (.ok (x,us))) (hE:zi ts):zi us:=by
 unfold Zl at h
 obtain ⟨_,_,A,h⟩:=za h;obtain ⟨_,_,o,h⟩:=za h;obtain ⟨_,_,y,h⟩:=za h;obtain ⟨_,_,z,h⟩:=za h;exact Za h (zY z (Ya y (zY o (ZM A hE))))
theorem xz {f line:Nat} {ts us:List Tk} {x:Fc} (h:ZX f line ts=some (.ok (x,us))) (hE:zi ts):zi us:=by
 unfold ZX at h
 obtain ⟨_,_,A,h⟩:=za h;obtain ⟨_,_,o,h⟩:=za h;obtain ⟨_,_,y,h⟩:=za h;obtain ⟨_,_,z,h⟩:=za h;exact Za h ((vI f).2.1 _ _ _ z (Qe y (xy o (ZM A hE))))
theorem Yz {f:Nat}:∀{o:List Pm} {ts:List Tk} {r:PR (List Pm)},zN f o ts=some r→zN (f+1) o ts=some r:=by
 induction f with
 | zero=>intro o ts r h;simp [zN] at h
 | succ f ih =>
  intro o ts r h;rw [zN] at h ⊢;cases hb:Z8 ts with
  | error a=>rw [hb] at h;exact h
  | ok y =>
   rw [hb] at h;simp only at h ⊢
   split at h
   ·rename_i z;rw [if_pos z];exact ih h
   ·rename_i z;rw [if_neg z];exact h
theorem VL {f line:Nat} {ts:List Tk} {r:PR Rc} (h:Zl f line ts=some r):Zl (f+1) line ts=some r:=by
 unfold Zl at h ⊢
 exact yC h fun _ _ _ h=>yC h fun _ _ _ h=>zG h (fun _=>Yz) fun _ _ _ h=>h
theorem UJ {f line:Nat} {ts:List Tk} {r:PR Fc} (h:ZX f line ts=some r):ZX (f+1) line ts=some r:=by
 unfold ZX at h ⊢
 refine yC h fun _ _ _ h=>zG h (fun _ h=>?_) fun _ _ _ h=>yC h fun _ _ _ h=>zG h ((Xh f).2.1 _) fun _ _ _ h=>h
 unfold yo at h ⊢
 refine yC h fun _ _ _ h=>?_
 split at h
 ·rename_i o;rw [if_pos o];exact h
 ·rename_i o;rw [if_neg o];exact zG h (fun _=>Yz) fun _ _ _ h=>h
theorem Vp {f k line:Nat} {ts:List Tk} {r:PR Rc} (h:Zl f line ts=some r):Zl (f+k) line ts=some r:=by
 induction k with
 | zero=>exact h
 | succ k ih=>exact VL ih
theorem UK {f k line:Nat} {ts:List Tk} {r:PR Fc} (h:ZX f line ts=some r):ZX (f+k) line ts=some r:=by
 induction k with
 | zero=>exact h
 | succ k ih=>exact UJ ih
theorem XF (n:Nat):∀(ts:List Tk),ts.length≤n→zi ts→∀h,yy (fun f=>zN f h ts) (n-1):=by
 induction n with
 | zero=>intro ts D z;have:=z.pos;omega
 | succ n ih =>
  intro ts D z h;cases hb:Z8 ts with
  | error a=>exact (X6 a n).step fun f=>by rw [zN,hb]
  | ok y =>
   obtain ⟨p,A⟩:=y;obtain ⟨o,G⟩:=YV hb z
   by_cases hc:zm (zv A) [44]=true
   ·have H:=Zf hc
    exact ((ih A.tail (by omega) (zD o hc) (h++[p])).le (by omega)).step fun f=>by rw [zN,hb];simp only [if_pos hc]
   ·exact (ZJ (h++[p]) A (n:=n) (by omega) o).step fun f=>by rw [zN,hb];simp only [if_neg hc]
theorem VM (line:Nat) {n:Nat} (ts:List Tk) (hl:ts.length≤n+1) (hE:zi ts):yy (fun f=>Zl f line ts) n:=by
 unfold Zl
 refine (Vk ts (n:=n) hl hE).then (q:=fun f s us=>zh (zR [123] us) fun _ us=>zh (zN f [] us) fun l us=>zh (zR [125] us) fun _ us=>some (.ok ((⟨s,l,line⟩:Rc),us))) fun s us hu hEu=>?_
 refine (yr [123] us (n:=n) (by omega) hEu).then (q:=fun f _ us=>zh (zN f [] us) fun l us=>zh (zR [125] us) fun _ us=>some (.ok ((⟨s,l,line⟩:Rc),us))) fun _ us hu hEu=>?_
 refine (XF n us hu hEu []).then (q:=fun f l us=>zh (zR [125] us) fun _ us=>some (.ok ((⟨s,l,line⟩:Rc),us))) fun l us hu hEu=>?_
 exact (yr [125] us (n:=n) (by omega) hEu).then (q:=fun f _ us=>some (.ok ((⟨s,l,line⟩:Rc),us))) fun _ us hu hEu=>ZJ _ _ hu hEu
theorem UL (line:Nat) {n:Nat} (ts:List Tk) (hl:ts.length≤n+1) (hE:zi ts):yy (fun f=>ZX f line ts) n:=by
 unfold ZX
 refine (Vk ts (n:=n) hl hE).then (q:=fun f s us=>zh (yo f us) fun l us=>zh (xK us) fun t us=>zh (zH f us) fun b us=>some (.ok ((⟨s,l,t,b,line⟩:Fc),us))) fun s us hu hEu=>?_
 have o:yy (fun f=>yo f us) n:=by
  unfold yo
  refine (yr [40] us (n:=n) (by omega) hEu).then (q:=fun f _ us=>if zm (zv us) [41]=true then some (.ok ([],us.tail)) else zh (zN f [] us) fun l us=>zh (zR [41] us) fun _ us=>some (.ok (l,us))) fun _ us hu hEu=>?_
  by_cases hc:zm (zv us) [41]=true
  ·have h:=Zf hc
   simp only [if_pos hc];exact ZJ _ _ (by omega) (zD hEu hc)
  ·simp only [if_neg hc]
   exact (XF n us hu hEu []).then (q:=fun f l us=>zh (zR [41] us) fun _ us=>some (.ok (l,us))) fun l us hu hEu=>(yr [41] us (n:=n) (by omega) hEu).then (q:=fun f _ us=>some (.ok (l,us))) fun _ us hu hEu=>ZJ _ _ hu hEu
 refine o.then (q:=fun f l us=>zh (xK us) fun t us=>zh (zH f us) fun b us=>some (.ok ((⟨s,l,t,b,line⟩:Fc),us))) fun l us hu hEu=>?_
 have y:yy (fun _=>xK us) n:=by
  by_cases hc:zm (zv us) [58]=true
  ·have h:=Zf hc
   refine ⟨0,ZB 0 us.tail,fun _=>by unfold xK;rw [if_pos hc],fun x us' e=>?_⟩
   have:=YI _ _ _ _ e (zD hEu hc)
   exact ⟨by omega,this.1⟩
  ·refine ⟨0,.ok ([],us),fun _=>by unfold xK;rw [if_neg hc],fun x us' e=>?_⟩
   cases e
   exact ⟨hu,hEu⟩
 refine y.then (q:=fun f t us=>zh (zH f us) fun b us=>some (.ok ((⟨s,l,t,b,line⟩:Fc),us))) fun t us hu hEu=>?_
 exact (UB n us hu hEu).2.1.then (q:=fun f b us=>some (.ok ((⟨s,l,t,b,line⟩:Fc),us))) fun b us hu hEu=>ZJ _ _ (by omega) hEu
theorem zb7 (n:Nat):∀(ts:List Tk),ts.length≤n→zi ts→∀z A,yy (fun f=>Zm f z A ts) n:=by
 induction n with
 | zero=>intro ts G o;have:=o.pos;omega
 | succ n ih =>
  intro ts G o z A
  by_cases h0:(zv ts).k=0
  ·exact (ZJ (⟨z,A⟩:Pg) ts G o).step fun f=>by rw [Zm,if_pos h0]
  by_cases h1:zm (zv ts) [114,101,99,111,114,100]=true
  ·have D:=Zf h1
   have h:=zD o h1;have y:=h.pos;exact ((VM (zv ts).line (n:=n-1) ts.tail (by omega) h).then (q:=fun f x us=>Zm f (z++[x]) A us) (m:=n+1) fun x us hu hEu=>(ih us (by omega) hEu _ _).le (by omega)).step fun f=>by rw [Zm,if_neg h0,if_pos h1]
  by_cases h2:zm (zv ts) [102,110]=true
  ·have D:=Zf h2
   have h:=zD o h2;have y:=h.pos;exact ((UL (zv ts).line (n:=n-1) ts.tail (by omega) h).then (q:=fun f x us=>Zm f z (A++[x]) us) (m:=n+1) fun x us hu hEu=>(ih us (by omega) hEu _ _).le (by omega)).step fun f=>by rw [Zm,if_neg h0,if_neg h1,if_pos h2]
  ·exact (X6 _ _).step fun f=>by rw [Zm,if_neg h0,if_neg h1,if_neg h2]
end Go.Proofs.YtpejpbbdgblbeaaGreatDoor
