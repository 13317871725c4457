import Derived.Test.YtpejpbbdgblbeaaGreatDoorMC18
namespace Go.Proofs.YtpejpbbdgblbeaaGreatDoor
open Go.RowKit Go.Shelf
set_option maxHeartbeats 16000000
set_option maxRecDepth 100000
structure Fc where
 name:List UInt8
 params:List Pm
 result:List UInt8
 body:List St
 line:Nat
def yY (f:Nat) (ts:List Tk):Option (PR (List Pm)):=zm (zW [40] ts) fun _ us=>if zo (zw us) [41]=true then some (.ok ([],us.tail)) else zm (zZ f [] us) fun l us=>zm (zW [41] us) fun _ us=>some (.ok (l,us))
def Xs (ts:List Tk):Option (PR (List UInt8)):=if zo (zw ts) [58]=true then some (ZW 0 ts.tail) else some (.ok ([],ts))
def ye (f line:Nat) (ts:List Tk):Option (PR Fc):=zm (yo ts) fun s us=>zm (yY f us) fun l us=>zm (Xs us) fun t us=>zm (zO f us) fun b us=>some (.ok (⟨s,l,t,b,line⟩,us))
def zg2 (B:Nat) (w:World) (x:Fc) (v:Value):Prop :=
 ∃vp vb,v=.agg #[.string (zb x.name),vp,.string (zb x.result),vb,.int .i64 (x.line:Int)]∧ZU B w x.params vp∧z6 (fun k=>B≤k) w x.body vb
abbrev fcO (a:ByteArray) (p:Value) (t:ByteArray) (b:Value) (l:Int):Obj:=.cells #[.string a,p,.string t,b,.int .i64 l] 72
abbrev fcZ:Obj:=fcO ⟨#[]⟩ (.slice none 0 0) ⟨#[]⟩ (.slice none 0 0) 0
def uO (r g:Nat) (w:World) (res:PR Fc) (e:Ending) (w':World):Prop :=
 zd r w w'∧match res with
  | .error a=>e=ZH a
  | .ok (x,ts)=>∃v o cap,e=.returned v∧zg2 w.heap.size w' x v∧zf r g o cap ts w'
theorem yS {f:Nat}:∀{o l:List Pm} {ts us:List Tk},zZ f o ts=some (.ok (l,us))→zg ts→zg us:=by
 induction f with
 | zero=>intro o l ts us h;simp [zZ] at h
 | succ f ih =>
  intro o l ts us h A;rw [zZ] at h;cases hb:yq ts with
  | error a=>rw [hb] at h;cases h
  | ok y =>
   obtain ⟨p,D⟩:=y;rw [hb] at h;simp only at h;have s:=(YI hb A).1
   split at h
   ·rename_i z;exact ih h (zy s z)
   ·exact z8 h s
theorem xg {f:Nat} {ts us:List Tk} {l:List Pm} (h:yY f ts=some (.ok (l,us))) (hE:zg ts):zg us:=by
 unfold yY at h
 obtain ⟨_,z,A,h⟩:=za h;have o:=zU A hE
 split at h
 ·rename_i s;exact z8 h (zy o s)
 ·obtain ⟨I,D,H,h⟩:=za h
  obtain ⟨_,y,G,h⟩:=za h;exact z8 h (zU G (yS H o))
theorem U7 {ts us:List Tk} {s:List UInt8} (h:Xs ts=some (.ok (s,us))) (hE:zg ts):zg us:=by
 unfold Xs at h
 split at h
 ·rename_i o
  simp only [Option.some.injEq] at h;exact (Yx _ _ _ _ h (zy hE o)).1
 ·exact z8 h hE
theorem ZU.keptR {r B:Nat} {w w':World} {l:List Pm} {v:Value} (h:ZU B w l v) (hk:zd r w w') (hB:r<B):ZU B w' l v:=h.kept hk.size fun k hk' hlt=>hk.block k hlt (by omega)
theorem ZU.setP {B P j:Nat} {w:World} {l:List Pm} {v:Value} (h:ZU B w l v) (u:Value) (hP:P<B):ZU B (w.setCell ⟨P,j,none⟩ u) l v:=h.kept (by simp) fun k hk _=>Below.heap_setCell _ _ _ _ (by simp;omega)
theorem zf0 (r g o cap line F:Nat) (ts:List Tk) (w:World) (R:PR Fc) (h:zf r g o cap ts w) (hE:zg ts) (hp:ye F line ts=some R)
  (hpar:∀G o1 cap1 ts1 r1,yY F ts1=some r1→zg ts1→zf r g o1 cap1 ts1 G→zd r w G→Calls Tryz.prog 98 #[.pointer (some ⟨r,0,none⟩),.func (.func 97) #[.pointer (some ⟨r,0,none⟩)] #[]] G (zbH r g G r1))
  (hty:∀G o1 cap1 ts1,zg ts1→zf r g o1 cap1 ts1 G→zd r w G→Calls Tryz.prog 99 #[.pointer (some ⟨r,0,none⟩)] G (QI r g G (ZW 0 ts1)))
  (hbl:∀G o1 cap1 ts1 r1,zO F ts1=some r1→zg ts1→zf r g o1 cap1 ts1 G→zd r w G→Calls Tryz.prog 100 #[.pointer (some ⟨r,0,none⟩)] G (XD r g G r1)) :
  Calls Tryz.prog 54 #[.pointer (some ⟨r,0,none⟩),.int .i64 (line:Int)] w (uO r g w R):=by
 have bi:∀(fn:Fn) (first cap:Array Value) (w:World),(Instr.makeFunc fn first cap).run Tryz.prog w=.ok (.func fn first cap) w:=fun _ _ _ _=>rfl
 obtain ⟨t0,aR,rfl⟩:=hE.cons;have hr:=h.lt.1;have bh:=h.lt.2;obtain ⟨w0,am⟩:∃w0,w0=w.alloc fcZ:=⟨_,rfl⟩;have h0:zf r g o cap (t0::aR) w0:=by rw [am];exact h.alloc _
 have k0:zd r w w0:=by rw [am];exact (zd.refl r w).alloc _
 have b0:w0.heap[w.heap.size]?=some fcZ:=by rw [am];exact World.alloc_heap_new _ _
 have bf:w0.heap.size=w.heap.size+1:=by rw [am];simp
 have cn:=xe r g o cap t0 aR w0 h0 (fun hk=>(hE.tail (by omega)).ne)
 have aJ:Hid (w0=w.alloc fcZ):=am;have aV:Hid (∀G o1 cap1 ts1 r1,zO F ts1=some r1→zg ts1→zf r g o1 cap1 ts1 G→zd r w G→Calls Tryz.prog 100 #[.pointer (some ⟨r,0,none⟩)] G (XD r g G r1)):=hbl;have a8:Hid (∀G o1 cap1 ts1,zg ts1→zf r g o1 cap1 ts1 G→zd r w G→Calls Tryz.prog 99 #[.pointer (some ⟨r,0,none⟩)] G (QI r g G (ZW 0 ts1))):=hty;have aU:Hid (∀G o1 cap1 ts1 r1,yY F ts1=some r1→zg ts1→zf r g o1 cap1 ts1 G→zd r w G→Calls Tryz.prog 98 #[.pointer (some ⟨r,0,none⟩),.func (.func 97) #[.pointer (some ⟨r,0,none⟩)] #[]] G (zbH r g G r1)):=hpar
 unfold ye yo at hp
 simp only [zz,List.tail_cons] at hp;clear h h0 am hbl hty hpar
 by_cases hk:t0.k=1
 ·simp only [if_pos hk] at cn
  rw [if_pos hk] at hp;simp only [zm] at hp;have aK:=hE.tail (by omega:t0.k≠0)
  go_enter Tryz.func54,Tryz.ntmps54
  go_wp2_with fail
  rw [←aJ.out];refine cn.mono ?_;clear cn aJ;rintro e G ⟨al,rfl,h1⟩;obtain ⟨A,av⟩:∃A,A=zb t0.s:=⟨_,rfl⟩;rw [←av];have aG:Hid (A=zb t0.s):=av;obtain ⟨w2,ag⟩:∃w2,w2=G.alloc (fcO A (.slice none 0 0) ⟨#[]⟩ (.slice none 0 0) line):=⟨_,rfl⟩;have bb:=al.size;have k2:zd r w w2:=by rw [ag];exact (k0.trans al).alloc _
  have b2:w2.heap[w.heap.size]?=some fcZ:=by rw [ag];exact (Below.heap_alloc _ _ _ (by omega)).trans ((al.block _ (by omega) (by omega)).trans b0)
  obtain ⟨P,hP⟩:∃P,P=G.heap.size:=⟨_,rfl⟩;have p2:w2.heap[P]?=some (fcO A (.slice none 0 0) ⟨#[]⟩ (.slice none 0 0) line):=by rw [ag,hP];exact World.alloc_heap_new _ _
  have aY:w2.heap.size=P+1:=by rw [ag,hP];simp
  obtain ⟨t1,a1,rfl⟩:=aK.cons;have h2:zf r g (o+5) (cap-1) (t1::a1) w2:=by rw [ag];exact h1.alloc _
  cases hb2:yY F (t1::a1) with
  | none=>rw [hb2] at hp;cases hp
  | some r2 =>
   rw [hb2] at hp;have cp:=aU.out w2 _ _ _ r2 hb2 aK h2 k2;have aT:Hid (w2=G.alloc (fcO A (.slice none 0 0) ⟨#[]⟩ (.slice none 0 0) line)):=ag;have aL:Hid (w2.heap[w.heap.size]?=some fcZ∧w2.heap[P]?=some (fcO A (.slice none 0 0) ⟨#[]⟩ (.slice none 0 0) line)):=⟨b2,p2⟩;have aO:Hid (zd r w w2):=k2;have HS:Hid (w.heap.size<P∧w2.heap.size=P+1):=⟨by omega,aY⟩
   have ba:Hid (G.heap.size=P):=hP.symm;clear ag k2 b2 p2 aY h2 h1 al bb hP k0 b0 bf av;go_wp2_with fail
   rw [←aT.out];rw [ba.out];refine cp.mono ?_;clear cp aT;rintro e w3 ⟨an,z⟩;rcases r2 with a | ⟨pl,bg⟩
   ·obtain rfl:=z
    simp only [Option.some.injEq] at hp;subst hp;exact ⟨rfl,aO.out.trans an,rfl⟩
   ·obtain ⟨vp,o3,ak,rfl,aI,aA⟩:=z
    simp only at hp;obtain ⟨I,c1,c2,rfl⟩:=aI.slice;have ay:=xg hb2 aK;obtain ⟨t2,ai,rfl⟩:=ay.cons;have hS:=HS.out;have be:=an.size;have b3:=(an.block w.heap.size (by omega) (by omega)).trans aL.out.1
    have p3:=(an.block P (by omega) (by omega)).trans aL.out.2
    obtain ⟨-,m1,-,-,-,mf⟩:=zR p3;have aQ:=mf 1;obtain ⟨w4,Q⟩:∃w4,w4=w3.setCell ⟨P,1,none⟩ (.slice I c1 c2):=⟨_,rfl⟩;have p4:w4.heap[P]?=some (fcO A (.slice I c1 c2) ⟨#[]⟩ (.slice none 0 0) line):=by rw [Q];exact zn _ p3
    have b4:w4.heap[w.heap.size]?=some fcZ:=by rw [Q,Below.heap_setCell _ _ _ _ (by simp;omega)];exact b3
    have a7:w4.heap.size=w3.heap.size:=by rw [Q];simp
    have az:zf r g o3 ak (t2::ai) w4:=by rw [Q];exact aA.setP _ (by omega) (by omega)
    have k4:zd r w w4:=by rw [Q];exact (aO.out.trans an).setOther (by simp;omega) _
    have aC:ZU w2.heap.size w4 pl (.slice I c1 c2):=by rw [Q];exact aI.setP _ (by omega)
    have cs:=Zt r g o3 ak t2 ai [58] w4 az (fun hi=>(ay.tail (zi hi)).ne)
    have Y:Hid (w4.heap[w.heap.size]?=some fcZ∧w4.heap[P]?=some (fcO A (.slice I c1 c2) ⟨#[]⟩ (.slice none 0 0) line)):=⟨b4,p4⟩;have ax:Hid (zd r w w4):=k4;have aF:Hid (ZU w2.heap.size w4 pl (.slice I c1 c2)):=aC;have aB:=Q.symm;simp only [Xs,zz,List.tail_cons] at hp;clear Q p4 b4 a7 az k4 aC aI aA b3 p3 mf an be hS aL aO
    by_cases hi:zo t2 [58]=true
    ·rw [hi] at cs
     simp only [if_pos hi] at hp;have a0:=ay.tail (zi hi);go_wp2_with fail
     refine cs.mono ?_;clear cs aB m1 aQ;rintro e w5 ⟨rfl,aP,h5⟩;have aX:zf r g (o3+5) (ak-1) ai w5:=by simpa using h5
     have ct:=a8.out w5 _ _ ai a0 aX (ax.out.trans aP);have aW:Hid (zd r w4 w5):=aP;clear h5 aX aP;go_wp2_with fail
     refine ct.mono ?_;clear ct;rintro e w6 ⟨a4,z⟩;have K:Hid (zd r w4 w6):=aW.out.trans a4;cases hR6:ZW 0 ai with
     | error a =>
      rw [hR6] at z hp;obtain rfl:=z;simp only [Option.some.injEq] at hp;subst hp;exact ⟨rfl,ax.out.trans K.out,rfl⟩
     | ok y =>
      obtain ⟨ty,aS⟩:=y;rw [hR6] at z hp;obtain ⟨o6,a5,rfl,aD⟩:=z;simp only at hp;have aN:=(Yx _ _ _ _ hR6 a0).1;obtain ⟨TY,aH⟩:∃TY,TY=zb ty:=⟨_,rfl⟩;rw [←aH];have a3:Hid (TY=zb ty):=aH;have hS:=HS.out;have a9:=K.out.size;have aw:P<w4.heap.size:=(Array.getElem?_eq_some_iff.1 Y.out.2).1;have aq:w.heap.size<w4.heap.size:=(Array.getElem?_eq_some_iff.1 Y.out.1).1;have b6:=(K.out.block w.heap.size aq (by omega)).trans Y.out.1
      have p6:=(K.out.block P aw (by omega)).trans Y.out.2
      have aE:=aF.out.keptR K.out (by omega)
      obtain ⟨-,-,m2,-,-,mf⟩:=zR p6;have bc:=mf 2;obtain ⟨w7,ah⟩:∃w7,w7=w6.setCell ⟨P,2,none⟩ (.string TY):=⟨_,rfl⟩;have p7:w7.heap[P]?=some (fcO A (.slice I c1 c2) TY (.slice none 0 0) line):=by rw [ah];exact zn _ p6
      have b7:w7.heap[w.heap.size]?=some fcZ:=by rw [ah,Below.heap_setCell _ _ _ _ (by simp;omega)];exact b6
      have Z:zf r g o6 a5 aS w7:=by rw [ah];exact aD.setP _ (by omega) (by omega)
      have k7:zd r w w7:=by rw [ah];exact (ax.out.trans K.out).setOther (by simp;omega) _
      have U:ZU w2.heap.size w7 pl (.slice I c1 c2):=by rw [ah];exact aE.setP _ (by omega)
      have aZ:=ah.symm;clear ah p6 b6 aE aD mf a9 aw aq hS aH a4;cases hb8:zO F aS with
      | none=>rw [hb8] at hp;cases hp
      | some r8 =>
       rw [hb8] at hp;have cb:=aV.out w7 _ _ _ r8 hb8 aN Z k7;have J:Hid (w7.heap[w.heap.size]?=some fcZ∧w7.heap[P]?=some (fcO A (.slice I c1 c2) TY (.slice none 0 0) line)):=⟨b7,p7⟩;have aj:Hid (zd r w w7):=k7;have ab:Hid (ZU w2.heap.size w7 pl (.slice I c1 c2)):=U;clear b7 p7 k7 U Z;go_wp2_with fail
       refine cb.mono ?_;clear cb aZ m2 bc;rintro e w8 ⟨H,z⟩;rcases r8 with a | ⟨bl,au⟩
       ·obtain rfl:=z
        simp only [Option.some.injEq] at hp;subst hp;exact ⟨rfl,aj.out.trans H,rfl⟩
       ·obtain ⟨vb,o8,V,rfl,af,W⟩:=z
        simp only [Option.some.injEq] at hp;subst hp;obtain ⟨N,d1,O,rfl⟩:=af.slice;have hS:=HS.out;have aM:=H.size;have ap:P<w7.heap.size:=(Array.getElem?_eq_some_iff.1 J.out.2).1;have ar:w.heap.size<w7.heap.size:=(Array.getElem?_eq_some_iff.1 J.out.1).1;have b8:=(H.block w.heap.size ar (by omega)).trans J.out.1
        have p8:=(H.block P ap (by omega)).trans J.out.2
        have ad:=ab.out.keptR H (by omega)
        obtain ⟨-,-,-,m3,-,mf⟩:=zR p8;have a6:=mf 3;obtain ⟨w9,D⟩:∃w9,w9=w8.setCell ⟨P,3,none⟩ (.slice N d1 O):=⟨_,rfl⟩;have p9:w9.heap[P]?=some (fcO A (.slice I c1 c2) TY (.slice N d1 O) line):=by rw [D];exact zn _ p8
        have b9:w9.heap[w.heap.size]?=some fcZ:=by rw [D,Below.heap_setCell _ _ _ _ (by simp;omega)];exact b8
        have T:zf r g o8 V au w9:=by rw [D];exact W.setP _ (by omega) (by omega)
        have k9:zd r w w9:=by rw [D];exact (aj.out.trans H).setOther (by simp;omega) _
        have aa:ZU w2.heap.size w9 pl (.slice I c1 c2):=by rw [D];exact ad.setP _ (by omega)
        have ae:z6 (fun k=>w7.heap.size≤k) w9 bl (.slice N d1 O):=by rw [D];exact af.setP _ fun k hk=>by omega
        obtain ⟨e0,e1,e2,e3,e4,-⟩:=zR p9;obtain ⟨q0,q1,q2,q3,q4,qf⟩:=zR b9;obtain ⟨z0,z1,z2,z3,z4⟩:=zT b9 (.string A) (.slice I c1 c2) (.string TY) (.slice N d1 O) (.int .i64 (line:Int))
        have HP:Hid (uO r g w (.ok (⟨t0.s,pl,ty,bl,line⟩,au)) (.returned (.agg #[.string A,.slice I c1 c2,.string TY,.slice N d1 O,.int .i64 (line:Int)])) (set5 w9 w.heap.size (.string A) (.slice I c1 c2) (.string TY) (.slice N d1 O) (.int .i64 (line:Int)))):=by
         have L:∀k,k≠w.heap.size→(set5 w9 w.heap.size (.string A) (.slice I c1 c2) (.string TY) (.slice N d1 O) (.int .i64 (line:Int))).heap[k]?=w9.heap[k]?:=fun k hk=>zr _ _ _ _ _ _ _ hk
         refine ⟨ZO k9 (Nat.le_refl _) _ _ _ _ _,_,o8,V,rfl,⟨_,_,by rw [aG.out,a3.out],(aa.kept (by simp) fun k hk _=>L k (by omega)).mono (by omega),(ae.kept (by simp) fun k hk _=>L k (by omega)).wide fun k hk=>by omega⟩,T.keep (L r (by omega)) (L g (by omega))⟩
        have a2:=D.symm;clear D p9 b9 T k9 aa ae b8 p8 ad mf H aM ap ar hS af W J ab aj;go_wp2
        exact bodyPost_ret (v:=.agg #[.string A,.slice I c1 c2,.string TY,.slice N d1 O,.int .i64 (line:Int)]) (by simp [results,Tryz.results54,go_sem,z0,z1,z2,z3,z4]) rfl HP.out
    ·have bd:zo t2 [58]=false:=by simpa using hi
     rw [bd] at cs;simp only [if_neg hi] at hp;go_wp2_with fail
     refine cs.mono ?_;clear cs aB m1 aQ;rintro e w7 ⟨rfl,ao,h7⟩;have Z:zf r g o3 ak (t2::ai) w7:=by simpa using h7
     have hS:=HS.out;have aw:P<w4.heap.size:=(Array.getElem?_eq_some_iff.1 Y.out.2).1;have aq:w.heap.size<w4.heap.size:=(Array.getElem?_eq_some_iff.1 Y.out.1).1;have b7:=(ao.block w.heap.size aq (by omega)).trans Y.out.1
     have p7:=(ao.block P aw (by omega)).trans Y.out.2
     have k7:zd r w w7:=ax.out.trans ao;have U:=aF.out.keptR ao (by omega)
     have aN:=ay;clear aw aq hS ao h7;cases hb8:zO F (t2::ai) with
     | none=>rw [hb8] at hp;cases hp
     | some r8 =>
      rw [hb8] at hp;have cb:=aV.out w7 _ _ _ r8 hb8 aN Z k7;have J:Hid (w7.heap[w.heap.size]?=some fcZ∧w7.heap[P]?=some (fcO A (.slice I c1 c2) ⟨#[]⟩ (.slice none 0 0) line)):=⟨b7,p7⟩;have aj:Hid (zd r w w7):=k7;have ab:Hid (ZU w2.heap.size w7 pl (.slice I c1 c2)):=U;clear b7 p7 k7 U Z;go_wp2_with fail
      refine cb.mono ?_;clear cb;rintro e w8 ⟨H,z⟩;rcases r8 with a | ⟨bl,au⟩
      ·obtain rfl:=z
       simp only [Option.some.injEq] at hp;subst hp;exact ⟨rfl,aj.out.trans H,rfl⟩
      ·obtain ⟨vb,o8,V,rfl,af,W⟩:=z
       simp only [Option.some.injEq] at hp;subst hp;obtain ⟨N,d1,O,rfl⟩:=af.slice;have hS:=HS.out;have aM:=H.size;have ap:P<w7.heap.size:=(Array.getElem?_eq_some_iff.1 J.out.2).1;have ar:w.heap.size<w7.heap.size:=(Array.getElem?_eq_some_iff.1 J.out.1).1;have b8:=(H.block w.heap.size ar (by omega)).trans J.out.1
       have p8:=(H.block P ap (by omega)).trans J.out.2
       have ad:=ab.out.keptR H (by omega)
       obtain ⟨-,-,-,m3,-,mf⟩:=zR p8;have a6:=mf 3;obtain ⟨w9,D⟩:∃w9,w9=w8.setCell ⟨P,3,none⟩ (.slice N d1 O):=⟨_,rfl⟩;have p9:w9.heap[P]?=some (fcO A (.slice I c1 c2) ⟨#[]⟩ (.slice N d1 O) line):=by rw [D];exact zn _ p8
       have b9:w9.heap[w.heap.size]?=some fcZ:=by rw [D,Below.heap_setCell _ _ _ _ (by simp;omega)];exact b8
       have T:zf r g o8 V au w9:=by rw [D];exact W.setP _ (by omega) (by omega)
       have k9:zd r w w9:=by rw [D];exact (aj.out.trans H).setOther (by simp;omega) _
       have aa:ZU w2.heap.size w9 pl (.slice I c1 c2):=by rw [D];exact ad.setP _ (by omega)
       have ae:z6 (fun k=>w7.heap.size≤k) w9 bl (.slice N d1 O):=by rw [D];exact af.setP _ fun k hk=>by omega
       obtain ⟨e0,e1,e2,e3,e4,-⟩:=zR p9;obtain ⟨q0,q1,q2,q3,q4,qf⟩:=zR b9;obtain ⟨z0,z1,z2,z3,z4⟩:=zT b9 (.string A) (.slice I c1 c2) (.string ⟨#[]⟩) (.slice N d1 O) (.int .i64 (line:Int))
       have HP:Hid (uO r g w (.ok (⟨t0.s,pl,[],bl,line⟩,au)) (.returned (.agg #[.string A,.slice I c1 c2,.string ⟨#[]⟩,.slice N d1 O,.int .i64 (line:Int)])) (set5 w9 w.heap.size (.string A) (.slice I c1 c2) (.string ⟨#[]⟩) (.slice N d1 O) (.int .i64 (line:Int)))):=by
        have L:∀k,k≠w.heap.size→(set5 w9 w.heap.size (.string A) (.slice I c1 c2) (.string ⟨#[]⟩) (.slice N d1 O) (.int .i64 (line:Int))).heap[k]?=w9.heap[k]?:=fun k hk=>zr _ _ _ _ _ _ _ hk
        refine ⟨ZO k9 (Nat.le_refl _) _ _ _ _ _,_,o8,V,rfl,⟨_,_,by rw [aG.out],(aa.kept (by simp) fun k hk _=>L k (by omega)).mono (by omega),(ae.kept (by simp) fun k hk _=>L k (by omega)).wide fun k hk=>by omega⟩,T.keep (L r (by omega)) (L g (by omega))⟩
       have a2:=D.symm;clear D p9 b9 T k9 aa ae b8 p8 ad mf H aM ap ar hS af W J ab aj;go_wp2
       exact bodyPost_ret (v:=.agg #[.string A,.slice I c1 c2,.string ⟨#[]⟩,.slice N d1 O,.int .i64 (line:Int)]) (by simp [results,Tryz.results54,go_sem,z0,z1,z2,z3,z4]) rfl HP.out
 ·simp only [if_neg hk] at cn
  rw [if_neg hk] at hp;simp only [zm,Option.some.injEq] at hp;subst hp
  go_enter Tryz.func54,Tryz.ntmps54
  go_wp2_with fail
  rw [←aJ.out];refine cn.mono ?_;clear cn;rintro e G ⟨al,rfl⟩;exact ⟨rfl,k0.trans al,rfl⟩
def Xt {α:Type} (E:(Nat→Prop)→World→α→List Value→Prop) (sz:Nat) (S:Nat→Prop) (w:World) (l:List α) (v:Value):Prop :=
 (l=[]∧v=.slice none 0 0)∨∃(g cap:Nat) (us:List (List Value)),v=.slice (some ⟨g,0,none⟩) l.length cap∧l≠[]∧us.length=l.length∧S g∧g<w.heap.size∧l.length≤cap∧cap≤maxLen∧(∀j u,us.flatten[j]?=some u→w.cell? ⟨g,j,none⟩=some u)∧(∀c∈us,c.length=sz)∧∀(j:Nat) (x:α) (c:List Value),l[j]?=some x→us[j]?=some c→E S w x c
theorem Xt.kept {α:Type} {E:(Nat→Prop)→World→α→List Value→Prop} (L:Z2 E) {sz:Nat} {S:Nat→Prop} {w w':World} {l:List α} {v:Value} (h:Xt E sz S w l v) (hs:w.heap.size≤w'.heap.size) (hb:∀k,S k→k<w.heap.size→w'.heap[k]?=w.heap[k]?):Xt E sz S w' l v:=by
 rcases h with h | ⟨g,s,G,I,N,K,y,z,A,H,J,D,o⟩
 ·exact .inl h
 ·exact .inr ⟨g,s,G,I,N,K,y,Nat.lt_of_lt_of_le z hs,A,H,fun j u hj=>by rw [World.cell?_of_block (hb g y z)];exact J j u hj,D,fun j x c hx hc=>L.kept (o j x c hx hc) hs hb⟩
theorem Xt.wide {α:Type} {E:(Nat→Prop)→World→α→List Value→Prop} (L:Z2 E) {sz:Nat} {S S':Nat→Prop} {w:World} {l:List α} {v:Value} (h:Xt E sz S w l v) (hS:∀k,S k→S' k):Xt E sz S' w l v:=by
 rcases h with h | ⟨g,s,D,I,N,K,y,G,z,H,J,A,o⟩
 ·exact .inl h
 ·exact .inr ⟨g,s,D,I,N,K,hS _ y,G,z,H,J,A,fun j x c hx hc=>L.wide (o j x c hx hc) hS⟩
theorem Xt.low {α:Type} {E:(Nat→Prop)→World→α→List Value→Prop} (L:Z2 E) {sz:Nat} {S:Nat→Prop} {w:World} {l:List α} {v:Value} (h:Xt E sz S w l v):Xt E sz (fun k=>S k∧k<w.heap.size) w l v:=by
 rcases h with h | ⟨g,s,G,I,N,K,z,y,A,H,J,D,o⟩
 ·exact .inl h
 ·exact .inr ⟨g,s,G,I,N,K,⟨z,y⟩,y,A,H,J,D,fun j x c hx hc=>L.low (o j x c hx hc)⟩
theorem Xt.slice {α:Type} {E:(Nat→Prop)→World→α→List Value→Prop} {sz:Nat} {S:Nat→Prop} {w:World} {l:List α} {v:Value} (h:Xt E sz S w l v):∃b c,v=.slice b l.length c:=by
 rcases h with ⟨rfl,rfl⟩ | ⟨g,s,y,o,_⟩
 ·exact ⟨none,0,rfl⟩
 ·exact ⟨_,_,o⟩
theorem yC.toG {α:Type} {E:(Nat→Prop)→World→α→List Value→Prop} (L:Z2 E) {sz ty B:Nat} {w:World} {l:List α} {v:Value} (h:yC E sz ty B w l v):Xt E sz (fun k=>B≤k) w l v:=by
 rcases h with h | ⟨g,y,z,h⟩
 ·exact .inl h
 ·have s:=h.block
  refine .inr ⟨g,y,z,h.val,h.ne,h.len,s.1,s.2.1,s.2.2.1,s.2.2.2,fun j u hj=>?_,h.wid,fun j x c o hc=>L.wide (h.kids j x c o hc) fun k hk=>hk.1⟩
  have o:=h.own.cells (g:=g) (by rw [h.val];rfl) j u hj
  by_cases h0:j=0
  ·subst h0;simpa [Addr.add] using o
  ·simpa [Addr.add,h0] using o
abbrev uP (S:Nat→Prop) (w:World) (l:List Pm) (v:Value):Prop:=Xt PmE 2 S w l v
theorem ZU.toG {B:Nat} {w:World} {l:List Pm} {v:Value} (h:ZU B w l v):uP (fun k=>B≤k) w l v:=yC.toG yR h
theorem z6.lower {S:Nat→Prop} {w:World} {l:List St} {v:Value} (h:z6 S w l v):z6 (fun k=>S k∧k<w.heap.size) w l v:=by
 obtain ⟨g,o,z,s,y⟩:=h;exact ⟨g,o,z,s.low,fun j x c hx hc=>(y j x c hx hc).low⟩
def RcE (S:Nat→Prop) (w:World) (x:Rc) (c:List Value):Prop:=∃vp,c=[.string (zb x.name),vp,.int .i64 (x.line:Int)]∧uP S w x.fields vp
theorem YB:Z2 RcE:=⟨fun ⟨vp,h1,h2⟩ hs hb=>⟨vp,h1,h2.kept yR hs hb⟩,fun ⟨vp,h1,h2⟩ hS=>⟨vp,h1,h2.wide yR hS⟩,fun ⟨vp,h1,h2⟩=>⟨vp,h1,h2.low yR⟩⟩
def FcE (S:Nat→Prop) (w:World) (x:Fc) (c:List Value):Prop:=∃vp vb,c=[.string (zb x.name),vp,.string (zb x.result),vb,.int .i64 (x.line:Int)]∧uP S w x.params vp∧z6 S w x.body vb
theorem YC:Z2 FcE:=⟨fun ⟨vp,vb,h1,h2,h3⟩ hs hb=>⟨vp,vb,h1,h2.kept yR hs hb,h3.kept hs hb⟩,fun ⟨vp,vb,h1,h2,h3⟩ hS=>⟨vp,vb,h1,h2.wide yR hS,h3.wide hS⟩,fun ⟨vp,vb,h1,h2,h3⟩=>⟨vp,vb,h1,h2.low yR,h3.lower⟩⟩
def EX {α:Type} (E:(Nat→Prop)→World→α→List Value→Prop) (X:Nat→Prop) (S:Nat→Prop) (w:World) (x:α) (c:List Value):Prop:=E (fun k=>S k∧X k) w x c
theorem xN {α:Type} {E:(Nat→Prop)→World→α→List Value→Prop} (L:Z2 E) (X:Nat→Prop):Z2 (EX E X):=⟨fun h hs hb=>L.kept h hs fun k hk hlt=>hb k hk.1 hlt,fun h hS=>L.wide h fun k hk=>⟨hS k hk.1,hk.2⟩,fun h=>L.wide (L.low h) fun _ hk=>⟨⟨hk.1.1,hk.2⟩,hk.1.2⟩⟩
structure yP (B:Nat) (w:World) (rs:List Rc) (fs:List Fc) (vr vf:Value):Prop where
 r:yC (EX RcE fun k=>vf.ownBlock≠some k) 3 74 B w rs vr
 f:yC (EX FcE fun k=>vr.ownBlock≠some k) 5 72 B w fs vf
 apart:∀k,vr.ownBlock=some k→vf.ownBlock≠some k
theorem yP.nil (B:Nat) (w:World):yP B w [] [] (.slice none 0 0) (.slice none 0 0):=⟨.inl ⟨rfl,rfl⟩,.inl ⟨rfl,rfl⟩,fun k h=>by simp [Value.ownBlock] at h⟩
theorem yP.kept {B:Nat} {w w':World} {rs:List Rc} {fs:List Fc} {vr vf:Value} (h:yP B w rs fs vr vf) (hs:w.heap.size≤w'.heap.size) (hb:∀k,B≤k→k<w.heap.size→w'.heap[k]?=w.heap[k]?):yP B w' rs fs vr vf :=
 ⟨h.r.kept (xN YB _) hs hb,h.f.kept (xN YC _) hs hb,h.apart⟩
theorem yC.beside {α:Type} {E:(Nat→Prop)→World→α→List Value→Prop} (L:Z2 E) {sz ty B:Nat} {w w':World} {l:List α} {v vr vr':Value} {ob:Obj} (h:yC (EX E fun k=>vr.ownBlock≠some k) sz ty B w l v) (ha:∀k,vr.ownBlock=some k→v.ownBlock≠some k) (hg:(w.alloc ob).grownBy w' vr.ownBlock) (hat:vr'.ownBlock=vr.ownBlock∨vr'.ownBlock=some (w.alloc ob).heap.size):yC (EX E fun k=>vr'.ownBlock≠some k) sz ty B w' l v:=by
 rcases h with h | ⟨g,G,N,h⟩
 ·exact .inl h
 ·have R:w.heap.size≤w'.heap.size:=by have:=hg.size;simp at this;omega
  have o:∀k,vr.ownBlock≠some k→k<w.heap.size→w'.heap[k]?=w.heap[k]?:=fun k hk hlt=>(hg.block k (by simp;omega) (fun e=>hk e.symm)).trans (Below.heap_alloc _ _ _ hlt)
  have I:v.ownBlock=some g:=by rw [h.val];rfl
  have z:vr.ownBlock≠some g:=fun e=>ha g e I
  have Q:=h.block;refine .inr ⟨g,G,N,h.val,h.ne,?_,h.len,h.wid,fun j x c hx hc=>?_⟩
  ·refine ⟨h.own.1,?_⟩
   rcases h.own.2 with s | ⟨H,y,A,s,O,T,J⟩
   ·exact .inl s
   ·have e:H=g:=by rw [h.val] at s;simp at s;exact s.1.symm
    subst e;exact .inr ⟨H,y,A,s,O,(o H z Q.2.1).trans T,J⟩
  ·have D:E (fun k=>(B≤k∧k≠g)∧vr.ownBlock≠some k) w x c:=h.kids j x c hx hc
   refine L.wide (L.kept (L.low D) R fun k hk _=>o k hk.1.2 hk.2) fun k hk=>⟨hk.1.1,?_⟩
   rcases hat with e | e
   ·rw [e];exact hk.1.2
   ·rw [e]
    intro K
    have:=Option.some.inj K
    simp at this
    omega
theorem yP.addR {B N:Nat} {w w':World} {rs:List Rc} {fs:List Fc} {vr vf vr':Value} {x:Rc} {c:List Value} {ob:Obj} {us:List (List Value)} (h:yP B w rs fs vr vf)
  (hnext:∀{w':World} {v':Value} {x:Rc} {c:List Value} {ob:Obj} {N:Nat},EX RcE (fun k=>vf.ownBlock≠some k) (fun k=>N≤k) w x c→B≤N→(∀q,vr.ownBlock=some q→q<N)→c.length=3→w'.ownsRow B 74 3 v' (rs.length+1) (us.flatten++c)→(w.alloc ob).grownBy w' vr.ownBlock→(v'.ownBlock=vr.ownBlock∨v'.ownBlock=some (w.alloc ob).heap.size)→yC (EX RcE fun k=>vf.ownBlock≠some k) 3 74 B w' (rs++[x]) v')
  (hx:RcE (fun k=>N≤k) w x c) (hBN:B≤N) (hr:∀q,vr.ownBlock=some q→q<N) (hf:∀q,vf.ownBlock=some q→q<N) (hfw:∀q,vf.ownBlock=some q→q<w.heap.size) (hc:c.length=3) (ho:w'.ownsRow B 74 3 vr' (rs.length+1) (us.flatten++c)) (hg:(w.alloc ob).grownBy w' vr.ownBlock) (hat:vr'.ownBlock=vr.ownBlock∨vr'.ownBlock=some (w.alloc ob).heap.size):yP B w' (rs++[x]) fs vr' vf:=by
 refine ⟨hnext (YB.wide hx fun k hk=>⟨hk,fun e=>by have:=hf k e;omega⟩) hBN hr hc ho hg hat,h.f.beside YC h.apart hg hat,fun k hk e=>?_⟩
 rcases hat with o | o
 ·rw [o] at hk;exact h.apart k hk e
 ·rw [o] at hk
  have:=Option.some.inj hk
  have s:=hfw k e
  simp at this
  omega
theorem yP.addF {B N:Nat} {w w':World} {rs:List Rc} {fs:List Fc} {vr vf vf':Value} {x:Fc} {c:List Value} {ob:Obj} {us:List (List Value)} (h:yP B w rs fs vr vf)
  (hnext:∀{w':World} {v':Value} {x:Fc} {c:List Value} {ob:Obj} {N:Nat},EX FcE (fun k=>vr.ownBlock≠some k) (fun k=>N≤k) w x c→B≤N→(∀q,vf.ownBlock=some q→q<N)→c.length=5→w'.ownsRow B 72 5 v' (fs.length+1) (us.flatten++c)→(w.alloc ob).grownBy w' vf.ownBlock→(v'.ownBlock=vf.ownBlock∨v'.ownBlock=some (w.alloc ob).heap.size)→yC (EX FcE fun k=>vr.ownBlock≠some k) 5 72 B w' (fs++[x]) v')
  (hx:FcE (fun k=>N≤k) w x c) (hBN:B≤N) (hf:∀q,vf.ownBlock=some q→q<N) (hr:∀q,vr.ownBlock=some q→q<N) (hrw:∀q,vr.ownBlock=some q→q<w.heap.size) (hc:c.length=5) (ho:w'.ownsRow B 72 5 vf' (fs.length+1) (us.flatten++c)) (hg:(w.alloc ob).grownBy w' vf.ownBlock) (hat:vf'.ownBlock=vf.ownBlock∨vf'.ownBlock=some (w.alloc ob).heap.size):yP B w' rs (fs++[x]) vr vf':=by
 refine ⟨h.r.beside YB (fun k hk e=>h.apart k e hk) hg hat,hnext (YC.wide hx fun k hk=>⟨hk,fun e=>by have:=hr k e;omega⟩) hBN hf hc ho hg hat,fun k hk e=>?_⟩
 rcases hat with o | o
 ·rw [o] at e;exact h.apart k hk e
 ·rw [o] at e
  have:=Option.some.inj e
  have s:=hrw k hk
  simp at this
  omega
structure Pg where
 recs:List Rc
 funs:List Fc
def xu (S:Nat→Prop) (w:World) (p:Pg) (v:Value):Prop:=∃vr vf,v=.agg #[vr,vf]∧Xt RcE 3 S w p.recs vr∧Xt FcE 5 S w p.funs vf
theorem yP.pg {B:Nat} {w:World} {rs:List Rc} {fs:List Fc} {vr vf:Value} (h:yP B w rs fs vr vf):xu (fun k=>B≤k) w ⟨rs,fs⟩ (.agg #[vr,vf]):=by
 refine ⟨vr,vf,rfl,?_,?_⟩
 ·rcases h.r.toG (xN YB _) with y | ⟨g,s,A,K,G,L,z,I,H,J,D,y,o⟩
  ·exact .inl y
  ·exact .inr ⟨g,s,A,K,G,L,z,I,H,J,D,y,fun j x c hx hc=>YB.wide (o j x c hx hc) fun k hk=>hk.1⟩
 ·rcases h.f.toG (xN YC _) with y | ⟨g,s,A,K,G,L,z,I,H,J,D,y,o⟩
  ·exact .inl y
  ·exact .inr ⟨g,s,A,K,G,L,z,I,H,J,D,y,fun j x c hx hc=>YC.wide (o j x c hx hc) fun k hk=>hk.1⟩
theorem xu.kept {S:Nat→Prop} {w w':World} {p:Pg} {v:Value} (h:xu S w p v) (hs:w.heap.size≤w'.heap.size) (hb:∀k,S k→k<w.heap.size→w'.heap[k]?=w.heap[k]?):xu S w' p v:=by
 obtain ⟨y,s,rfl,o,z⟩:=h;exact ⟨y,s,rfl,o.kept YB hs hb,z.kept YC hs hb⟩
theorem xu.wide {S S':Nat→Prop} {w:World} {p:Pg} {v:Value} (h:xu S w p v) (hS:∀k,S k→S' k):xu S' w p v:=by
 obtain ⟨y,s,rfl,o,z⟩:=h;exact ⟨y,s,rfl,o.wide YB hS,z.wide YC hS⟩
def Zx (f line:Nat) (ts:List Tk):Option (PR Rc):=zm (yo ts) fun s us=>zm (zW [123] us) fun _ us=>zm (zZ f [] us) fun l us=>zm (zW [125] us) fun _ us=>some (.ok (⟨s,l,line⟩,us))
def Zy:Nat→List Rc→List Fc→List Tk→Option (PR Pg)
 | 0,_,_,_=>none
 | f+1,rs,fs,ts =>
  if (zw ts).k=0 then some (.ok (⟨rs,fs⟩,ts))
  else if zo (zw ts) [114,101,99,111,114,100]=true then zm (Zx f (zw ts).line ts.tail) fun x us=>Zy f (rs++[x]) fs us
  else if zo (zw ts) [102,110]=true then zm (ye f (zw ts).line ts.tail) fun x us=>Zy f rs (fs++[x]) us
  else some (.error (zw ts).at0)
theorem Yn {f line:Nat} {ts us:List Tk} {x:Rc} (h:Zx f line ts=some (.ok (x,us))) (hE:zg ts):zg us:=by
 unfold Zx at h
 obtain ⟨_,_,s,h⟩:=za h;obtain ⟨_,_,z,h⟩:=za h;obtain ⟨_,_,y,h⟩:=za h;obtain ⟨_,_,o,h⟩:=za h;exact z8 h (zU o (yS y (zU z (ZM s hE))))
theorem xh {f line:Nat} {ts us:List Tk} {x:Fc} (h:ye f line ts=some (.ok (x,us))) (hE:zg ts):zg us:=by
 unfold ye at h
 obtain ⟨_,_,s,h⟩:=za h;obtain ⟨_,_,z,h⟩:=za h;obtain ⟨_,_,y,h⟩:=za h;obtain ⟨_,_,o,h⟩:=za h;exact z8 h ((XR f).2.1 _ _ _ o (U7 y (xg z (ZM s hE))))
theorem YZ {f:Nat}:∀{o:List Pm} {ts:List Tk} {r:PR (List Pm)},zZ f o ts=some r→zZ (f+1) o ts=some r:=by
 induction f with
 | zero=>intro o ts r h;simp [zZ] at h
 | succ f ih =>
  intro o ts r h;rw [zZ] at h ⊢;cases hb:yq ts with
  | error a=>rw [hb] at h;exact h
  | ok y =>
   rw [hb] at h;simp only at h ⊢
   split at h
   ·rename_i s;rw [if_pos s];exact ih h
   ·rename_i s;rw [if_neg s];exact h
theorem vY {f line:Nat} {ts:List Tk} {r:PR Rc} (h:Zx f line ts=some r):Zx (f+1) line ts=some r:=by
 unfold Zx at h ⊢
 exact yO h fun _ _ _ h=>yO h fun _ _ _ h=>zD h (fun _=>YZ) fun _ _ _ h=>h
theorem uQ {f line:Nat} {ts:List Tk} {r:PR Fc} (h:ye f line ts=some r):ye (f+1) line ts=some r:=by
 unfold ye at h ⊢
 refine yO h fun _ _ _ h=>zD h (fun _ h=>?_) fun _ _ _ h=>yO h fun _ _ _ h=>zD h ((U1 f).2.1 _) fun _ _ _ h=>h
 unfold yY at h ⊢
 refine yO h fun _ _ _ h=>?_
 split at h
 ·rename_i o;rw [if_pos o];exact h
 ·rename_i o;rw [if_neg o];exact zD h (fun _=>YZ) fun _ _ _ h=>h
theorem uR {f k line:Nat} {ts:List Tk} {r:PR Rc} (h:Zx f line ts=some r):Zx (f+k) line ts=some r:=by
 induction k with
 | zero=>exact h
 | succ k ih=>exact vY ih
theorem QU {f k line:Nat} {ts:List Tk} {r:PR Fc} (h:ye f line ts=some r):ye (f+k) line ts=some r:=by
 induction k with
 | zero=>exact h
 | succ k ih=>exact uQ ih
theorem Xj (n:Nat):∀(ts:List Tk),ts.length≤n→zg ts→∀h,yr (fun f=>zZ f h ts) (n-1):=by
 induction n with
 | zero=>intro ts A s;have:=s.pos;omega
 | succ n ih =>
  intro ts A s h;cases hb:yq ts with
  | error a=>exact (XE a n).step fun f=>by rw [zZ,hb]
  | ok y =>
   obtain ⟨p,z⟩:=y;obtain ⟨o,D⟩:=YI hb s
   by_cases hc:zo (zw z) [44]=true
   ·have G:=Zc hc
    exact ((ih z.tail (by omega) (zy o hc) (h++[p])).le (by omega)).step fun f=>by rw [zZ,hb];simp only [if_pos hc]
   ·exact (ZI (h++[p]) z (n:=n) (by omega) o).step fun f=>by rw [zZ,hb];simp only [if_neg hc]
theorem vZ (line:Nat) {n:Nat} (ts:List Tk) (hl:ts.length≤n+1) (hE:zg ts):yr (fun f=>Zx f line ts) n:=by
 unfold Zx
 refine (vG ts (n:=n) hl hE).then (q:=fun f s us=>zm (zW [123] us) fun _ us=>zm (zZ f [] us) fun l us=>zm (zW [125] us) fun _ us=>some (.ok ((⟨s,l,line⟩:Rc),us))) fun s us hu hEu=>?_
 refine (yd [123] us (n:=n) (by omega) hEu).then (q:=fun f _ us=>zm (zZ f [] us) fun l us=>zm (zW [125] us) fun _ us=>some (.ok ((⟨s,l,line⟩:Rc),us))) fun _ us hu hEu=>?_
 refine (Xj n us hu hEu []).then (q:=fun f l us=>zm (zW [125] us) fun _ us=>some (.ok ((⟨s,l,line⟩:Rc),us))) fun l us hu hEu=>?_
 exact (yd [125] us (n:=n) (by omega) hEu).then (q:=fun f _ us=>some (.ok ((⟨s,l,line⟩:Rc),us))) fun _ us hu hEu=>ZI _ _ hu hEu
theorem uS (line:Nat) {n:Nat} (ts:List Tk) (hl:ts.length≤n+1) (hE:zg ts):yr (fun f=>ye f line ts) n:=by
 unfold ye
 refine (vG ts (n:=n) hl hE).then (q:=fun f s us=>zm (yY f us) fun l us=>zm (Xs us) fun t us=>zm (zO f us) fun b us=>some (.ok ((⟨s,l,t,b,line⟩:Fc),us))) fun s us hu hEu=>?_
 have y:yr (fun f=>yY f us) n:=by
  unfold yY
  refine (yd [40] us (n:=n) (by omega) hEu).then (q:=fun f _ us=>if zo (zw us) [41]=true then some (.ok ([],us.tail)) else zm (zZ f [] us) fun l us=>zm (zW [41] us) fun _ us=>some (.ok (l,us))) fun _ us hu hEu=>?_
  by_cases hc:zo (zw us) [41]=true
  ·have h:=Zc hc
   simp only [if_pos hc];exact ZI _ _ (by omega) (zy hEu hc)
  ·simp only [if_neg hc]
   exact (Xj n us hu hEu []).then (q:=fun f l us=>zm (zW [41] us) fun _ us=>some (.ok (l,us))) fun l us hu hEu=>(yd [41] us (n:=n) (by omega) hEu).then (q:=fun f _ us=>some (.ok (l,us))) fun _ us hu hEu=>ZI _ _ hu hEu
 refine y.then (q:=fun f l us=>zm (Xs us) fun t us=>zm (zO f us) fun b us=>some (.ok ((⟨s,l,t,b,line⟩:Fc),us))) fun l us hu hEu=>?_
 have o:yr (fun _=>Xs us) n:=by
  by_cases hc:zo (zw us) [58]=true
  ·have h:=Zc hc
   refine ⟨0,ZW 0 us.tail,fun _=>by unfold Xs;rw [if_pos hc],fun x us' e=>?_⟩
   have:=Yx _ _ _ _ e (zy hEu hc)
   exact ⟨by omega,this.1⟩
  ·refine ⟨0,.ok ([],us),fun _=>by unfold Xs;rw [if_neg hc],fun x us' e=>?_⟩
   cases e
   exact ⟨hu,hEu⟩
 refine o.then (q:=fun f t us=>zm (zO f us) fun b us=>some (.ok ((⟨s,l,t,b,line⟩:Fc),us))) fun t us hu hEu=>?_
 exact (uK n us hu hEu).2.1.then (q:=fun f b us=>some (.ok ((⟨s,l,t,b,line⟩:Fc),us))) fun b us hu hEu=>ZI _ _ (by omega) hEu
theorem zaY (n:Nat):∀(ts:List Tk),ts.length≤n→zg ts→∀s y,yr (fun f=>Zy f s y ts) n:=by
 induction n with
 | zero=>intro ts D o;have:=o.pos;omega
 | succ n ih =>
  intro ts D o s y
  by_cases h0:(zw ts).k=0
  ·exact (ZI (⟨s,y⟩:Pg) ts D o).step fun f=>by rw [Zy,if_pos h0]
  by_cases h1:zo (zw ts) [114,101,99,111,114,100]=true
  ·have A:=Zc h1
   have h:=zy o h1;have z:=h.pos;exact ((vZ (zw ts).line (n:=n-1) ts.tail (by omega) h).then (q:=fun f x us=>Zy f (s++[x]) y us) (m:=n+1) fun x us hu hEu=>(ih us (by omega) hEu _ _).le (by omega)).step fun f=>by rw [Zy,if_neg h0,if_pos h1]
  by_cases h2:zo (zw ts) [102,110]=true
  ·have A:=Zc h2
   have h:=zy o h2;have z:=h.pos;exact ((uS (zw ts).line (n:=n-1) ts.tail (by omega) h).then (q:=fun f x us=>Zy f s (y++[x]) us) (m:=n+1) fun x us hu hEu=>(ih us (by omega) hEu _ _).le (by omega)).step fun f=>by rw [Zy,if_neg h0,if_neg h1,if_pos h2]
  ·exact (XE _ _).step fun f=>by rw [Zy,if_neg h0,if_neg h1,if_neg h2]
end Go.Proofs.YtpejpbbdgblbeaaGreatDoor
