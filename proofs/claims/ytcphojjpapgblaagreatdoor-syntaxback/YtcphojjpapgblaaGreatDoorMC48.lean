import Derived.Test.YtcphojjpapgblaaGreatDoorMC41
import Derived.Test.YtcphojjpapgblaaGreatDoorMC31
import Derived.Test.YtcphojjpapgblaaGreatDoorMC32
namespace Go.Proofs.YtcphojjpapgblaaGreatDoor
open Go.RowKit Go.Shelf
set_option maxHeartbeats 16000000
set_option maxRecDepth 100000
mutual
def smS:Sz→Sz→Prop
 | .mk k s es body els _,.mk k' s' es' body' els' _=>k=k'∧s=s'∧qR es es'∧xJ body body'∧xJ els els'
def xJ:List Sz→List Sz→Prop
 | [],[]=>True
 | x::xs,y::ys=>smS x y∧xJ xs ys
 | [],_::_=>False
 | _::_,[]=>False
end
theorem qn:∀{l l':List Sz},xJ l l'→l.length=l'.length∧∀(i:Nat) (x y:Sz),l[i]?=some x→l'[i]?=some y→smS x y
 | [],[],_=>⟨rfl,fun i x y hx=>by simp at hx⟩
 | x::xs,y::ys,h=>by
  rw [xJ] at h;obtain ⟨z,o⟩:=qn h.2;refine ⟨by simp [z],fun i a b ha hb=>?_⟩
  cases i with
  | zero =>
   simp only [List.getElem?_cons_zero,Option.some.injEq] at ha hb;subst ha hb;exact h.1
  | succ i=>exact o i a b (by simpa using ha) (by simpa using hb)
 | [],_::_,h=>by rw [xJ] at h;exact h.elim
 | _::_,[],h=>by rw [xJ] at h;exact h.elim
mutual
theorem zgd:∀x:Sz,smS x x
 | .mk k s es body els line=>by rw [smS];exact ⟨rfl,rfl,qm es,ux body,ux els⟩
theorem ux:∀l:List Sz,xJ l l
 | []=>by rw [xJ];trivial
 | x::xs=>by rw [xJ];exact ⟨zgd x,ux xs⟩
end
theorem Zj.kids {w:World} {l:List Ez} {base:Option Addr} {m cap:Nat} (h:Zj (qN w.heap.size w) 5 w.heap.size w l base m cap):Y1 w l base:=fun i x hx=>by
 obtain ⟨b,o,L,T,O,G,N,R,J,e,-,y,z,H,I,D,A,Q,-⟩:=h.ez i x hx;exact ⟨b,o,L,T,O,G,N,R,J,e,y,z,H,I,D,A,Q⟩
theorem zcT {l l':List Ez} {base base':Option Addr} {m m' cap cap':Nat} {w:World} (h:Zj (qN w.heap.size w) 5 w.heap.size w l base m cap) (h':Zj (qN w.heap.size w) 5 w.heap.size w l' base' m' cap') (hs:qR l l') :
  Calls Tryz.prog 44 #[.slice base m cap,.slice base' m' cap'] w fun e w'=>e=.returned (.bool true)∧Below w.heap.size w w':=by
 obtain ⟨z,o⟩:=zas hs;have A:=h.1;have D:=h'.1;obtain rfl:m=m':=by omega
 exact VX l l' base base' m cap cap' w A D (by have:=h.2.1;have:=h.2.2.1;unfold maxLen at this;omega) h.kids h'.kids fun i x y hx hy W v u h1 h2=>uw (qw x) x y v u W (Nat.le_refl _) (o i x y hx hy) h1 h2
theorem Zj.at {α:Type} {P P':α→List Value→Prop} {sz:Nat} {w W:World} {l:List α} {base:Option Addr} {m cap:Nat} (h:Zj P sz w.heap.size w l base m cap) (hb:Below w.heap.size w W) (hP:∀x c,P x c→P' x c):Zj P' sz W.heap.size W l base m cap :=
 (h.kept hb hP).wide hb.size fun _ _ h=>h
theorem Zj.sz2 {B f:Nat} {w:World} {l:List Sz} {base:Option Addr} {m cap:Nat} (h:Zj (ZE B w (f+1)) 6 B w l base m cap) {i:Nat} {k:Int} {s:List UInt8} {es:List Ez} {body els:List Sz} {line:Int} (hx:l[i]?=some (.mk k s es body els line)) :
  ∃b o A H I D J L bl z G,base=some ⟨b,o,none⟩∧b<B∧Zj (qN B w) 5 B w es A H I∧Zj (ZE B w f) 6 B w body D J L∧Zj (ZE B w f) 6 B w els bl z G ∧
   w.cell? ⟨b,o+i*6,none⟩=some (.int .i64 k)∧w.cell? ⟨b,o+i*6+1,none⟩=some (.string (zb s))∧w.cell? ⟨b,o+i*6+2,none⟩=some (.slice A H I)∧w.cell? ⟨b,o+i*6+3,none⟩=some (.slice D J L)∧w.cell? ⟨b,o+i*6+4,none⟩=some (.slice bl z G)∧w.cell? ⟨b,o+i*6+5,none⟩=some (.int .i64 line):=by
 obtain ⟨b,o,c,e,T,N,V,O,y⟩:=h.2.2.2 i _ hx;obtain ⟨A,H,I,D,J,L,bl,z,G,rfl,-,R,U,Q⟩:=O;exact ⟨b,o,A,H,I,D,J,L,bl,z,G,e,T,R,U,Q,y 0 _ rfl,y 1 _ rfl,y 2 _ rfl,y 3 _ rfl,y 4 _ rfl,y 5 _ rfl⟩
theorem zeB {k k':Int} {s s':List UInt8} {es es':List Ez} {b b' e e':List Sz} {n n':Int} (h:smS (.mk k s es b e n) (.mk k' s' es' b' e' n')):k=k'∧s=s'∧qR es es'∧xJ b b'∧xJ e e':=by rw [smS] at h;exact h
def zge (base base':Option Addr) (i:Nat) (W:World):Prop:=∃(b o:Nat) (k:Int) (s:List UInt8) (be:Option Addr) (me ce:Nat) (bb:Option Addr) (mb cb:Nat) (bl:Option Addr) (ml cl:Nat) (b' o':Nat) (be':Option Addr) (me' ce':Nat) (bb':Option Addr) (mb' cb':Nat) (bl':Option Addr) (ml' cl':Nat),base=some ⟨b,o,none⟩∧base'=some ⟨b',o',none⟩∧b<W.heap.size∧b'<W.heap.size ∧
 W.cell? ⟨b,o+i*6,none⟩=some (.int .i64 k)∧W.cell? ⟨b,o+i*6+1,none⟩=some (.string (zb s))∧W.cell? ⟨b,o+i*6+2,none⟩=some (.slice be me ce)∧W.cell? ⟨b,o+i*6+3,none⟩=some (.slice bb mb cb)∧W.cell? ⟨b,o+i*6+4,none⟩=some (.slice bl ml cl) ∧
 W.cell? ⟨b',o'+i*6,none⟩=some (.int .i64 k)∧W.cell? ⟨b',o'+i*6+1,none⟩=some (.string (zb s))∧W.cell? ⟨b',o'+i*6+2,none⟩=some (.slice be' me' ce')∧W.cell? ⟨b',o'+i*6+3,none⟩=some (.slice bb' mb' cb')∧W.cell? ⟨b',o'+i*6+4,none⟩=some (.slice bl' ml' cl') ∧
 Hid (∀wx,Below W.heap.size W wx→Calls Tryz.prog 44 #[.slice be me ce,.slice be' me' ce'] wx fun e w''=>e=.returned (.bool true)∧Below W.heap.size W w'') ∧
 Hid (∀wx,Below W.heap.size W wx→Calls Tryz.prog 27 #[.slice bb mb cb,.slice bb' mb' cb'] wx fun e w''=>e=.returned (.bool true)∧Below W.heap.size W w'') ∧
 Hid (∀wx,Below W.heap.size W wx→Calls Tryz.prog 27 #[.slice bl ml cl,.slice bl' ml' cl'] wx fun e w''=>e=.returned (.bool true)∧Below W.heap.size W w'')
theorem VY (base base':Option Addr) (m cap cap':Nat) (w:World) (hmx:m≤9223372036854775807) (hat:∀i,i<m→∀W,Below w.heap.size w W→zge base base' i W) :
  Calls Tryz.prog 27 #[.slice base m cap,.slice base' m cap'] w fun e w'=>e=.returned (.bool true)∧Below w.heap.size w w':=by
 have G:Hid (∀i,i<m→∀W,Below w.heap.size w W→zge base base' i W):=hat
 have D:Hid (Below w.heap.size w w):=Below.refl _ _;clear hat
 go_enter Tryz.func27,Tryz.ntmps27
 go_wp2
 go_loopw [5] (fun vi wr=>∃i:Nat,i≤m∧vi=.int .i64 (i:Int)∧Below w.heap.size w wr) (fun vi _=>m-(intOf vi).toNat)
 case atStart=>exact ⟨0,Nat.zero_le _,rfl,D.out⟩
 case round =>
  obtain ⟨i,hi,rfl,z⟩:=hrel;have A:Hid (Below w.heap.size w wr):=z;clear z
  by_cases hlt:i<m
  ·have L:(i:Int)<m:=by omega
   obtain ⟨b,o,k,s,be,me,ce,bb,mb,cb,bl,ml,cl,b',o',ah,ab,aa,aj,ag,ae,ad,af,ai,rfl,rfl,y,h,U,m1,R,Q,X,n0,V,Z,T,Y,H,N,O⟩:=G.out i hlt wr A.out;have I:w.heap.size≤wr.heap.size:=A.out.size;have u0:=Zk (n:=wr.heap.size) U y;have u1:=Zk (n:=wr.heap.size) m1 y;have u2:=Zk (n:=wr.heap.size) R y;have u3:=Zk (n:=wr.heap.size) Q y;have u4:=Zk (n:=wr.heap.size) X y;have v0:=Zk (n:=wr.heap.size) n0 h;have v1:=Zk (n:=wr.heap.size) V h;have v2:=Zk (n:=wr.heap.size) Z h;have v3:=Zk (n:=wr.heap.size) T h;have v4:=Zk (n:=wr.heap.size) Y h;clear U m1 R Q X n0 V Z T Y;go_wp2_with fail
   simp only [List.append_eq,List.cons_append,List.nil_append];refine xU (n:=wr.heap.size) (w0:=wr) (Below.refl _ _) (by kernel_rfl) (by kernel_rfl) ?_
   iterate 35 (go_big_quiet_step (fail))
   go_big_quiet_step (exact Xc H.out _)
   iterate 13 (go_big_quiet_step (fail))
   go_big_quiet_step (exact Xc N.out _)
   iterate 13 (go_big_quiet_step (fail))
   go_big_quiet_step (exact Xc O.out _)
   iterate 2 (go_big_quiet_step (fail))
   refine wpQuiet_nil ?_;rintro _ ⟨c,rfl⟩;have J:Hid (Below w.heap.size w c.1):=A.out.trans (c.2.mono I);clear u0 u1 u2 u3 u4 v0 v1 v2 v3 v4;go_wp2
   exact ⟨⟨i+1,by omega,by go_num,J.out⟩,by simp [intOf];omega⟩
  ·obtain rfl:i=m:=by omega
   have L:¬ (i:Int)<i:=by omega
   go_wp2
   go_ret
   exact ⟨rfl,A.out⟩
theorem qS:∀(f:Nat) (l G:List Sz) (base z:Option Addr) (m m' D A:Nat) (w:World),Zj (ZE w.heap.size w f) 6 w.heap.size w l base m D→Zj (ZE w.heap.size w f) 6 w.heap.size w G z m' A→xJ l G →
  Calls Tryz.prog 27 #[.slice base m D,.slice z m' A] w fun e w'=>e=.returned (.bool true)∧Below w.heap.size w w':=by
 intro f
 induction f with
 | zero =>
  intro l G base z m m' D A w h U hs;obtain ⟨J,R⟩:=qn hs;have e1:=h.1;have e2:=U.1;obtain rfl:m=m':=by omega
  refine VY base z m D A w (by have:=h.2.1;have:=h.2.2.1;unfold maxLen at this;omega) fun i hi W hW=>?_
  obtain ⟨b,o,c,e,hB,ai,hc,hp,ae⟩:=h.2.2.2 i (l[i]'(by omega)) (List.getElem?_eq_getElem (by omega))
  exact hp.elim
 | succ f ih =>
  intro l G base z m m' D A w h U hs;obtain ⟨J,R⟩:=qn hs;have e1:=h.1;have e2:=U.1;obtain rfl:m=m':=by omega
  refine VY base z m D A w (by have:=h.2.1;have:=h.2.2.1;unfold maxLen at this;omega) fun i hi W hW=>?_
  have hx:l[i]?=some (l[i]'(by omega)):=List.getElem?_eq_getElem (by omega)
  have hy:G[i]?=some (G[i]'(by omega)):=List.getElem?_eq_getElem (by omega)
  have H:=R i _ _ hx hy;have V:=h.at hW (fun x c h=>(ZE.wide hW.size (f+1) x c (ZE.kept hW (f+1) x c h):ZE W.heap.size W (f+1) x c))
  have aa:=U.at hW (fun x c h=>(ZE.wide hW.size (f+1) x c (ZE.kept hW (f+1) x c h):ZE W.heap.size W (f+1) x c))
  generalize l[i]'(by omega)=x at hx H
  generalize G[i]'(by omega)=y at hy H
  obtain ⟨xk,xs,ah,xb,xl,xn⟩:=x;obtain ⟨yk,ys,yes,yb,yl,yn⟩:=y;obtain ⟨rfl,rfl,Z,ab,af⟩:=zeB H;obtain ⟨b,o,be,me,ce,bb,mb,cb,bl,ml,cl,rfl,hb,r1,r2,r3,m0,m1,m2,m3,m4,-⟩:=V.sz2 hx;obtain ⟨b',o',ag,ad,X,T,L,O,I,Q,N,rfl,Y,t1,t2,t3,n0,n1,n2,n3,n4,-⟩:=aa.sz2 hy;refine ⟨b,o,xk,xs,be,me,ce,bb,mb,cb,bl,ml,cl,b',o',ag,ad,X,T,L,O,I,Q,N,rfl,rfl,hb,Y,m0,m1,m2,m3,m4,n0,n1,n2,n3,n4,?_,?_,?_⟩
  ·exact fun wx hwx=>(zcT (r1.at hwx fun x c h=>Zl.wide (Zl.kept h hwx) hwx.size) (t1.at hwx fun x c h=>Zl.wide (Zl.kept h hwx) hwx.size) Z).mono fun e w'' h=>⟨h.1,hwx.trans (h.2.mono hwx.size)⟩
  ·exact fun wx hwx=>(ih xb yb bb T mb L cb O wx (r2.at hwx fun x c h=>ZE.wide hwx.size f x c (ZE.kept hwx f x c h)) (t2.at hwx fun x c h=>ZE.wide hwx.size f x c (ZE.kept hwx f x c h)) ab).mono fun e w'' h=>⟨h.1,hwx.trans (h.2.mono hwx.size)⟩
  ·exact fun wx hwx=>(ih xl yl bl I ml Q cl N wx (r3.at hwx fun x c h=>ZE.wide hwx.size f x c (ZE.kept hwx f x c h)) (t3.at hwx fun x c h=>ZE.wide hwx.size f x c (ZE.kept hwx f x c h)) af).mono fun e w'' h=>⟨h.1,hwx.trans (h.2.mono hwx.size)⟩
theorem vv (l:List (List UInt8 × List UInt8)) (base base':Option Addr) (m m' cap cap':Nat) (w:World) (h:Zj PmZ 2 w.heap.size w l base m cap) (h':Zj PmZ 2 w.heap.size w l base' m' cap') :
  Calls Tryz.prog 26 #[.slice base m cap,.slice base' m' cap'] w fun e w'=>e=.returned (.bool true)∧Below w.heap.size w w':=by
 have e1:=h.1;have X:=h'.1;obtain rfl:m=m':=by omega
 have Z:m≤9223372036854775807:=by have:=h.2.1;have:=h.2.2.1;unfold maxLen at this;omega
 have V:Hid (∀i,i<m→∃b o z D s u,base=some ⟨b,o,none⟩∧base'=some ⟨z,D,none⟩∧b<w.heap.size∧z<w.heap.size∧w.cell? ⟨b,o+i*2,none⟩=some (.string (zb s))∧w.cell? ⟨b,o+i*2+1,none⟩=some (.string (zb u))∧w.cell? ⟨z,D+i*2,none⟩=some (.string (zb s))∧w.cell? ⟨z,D+i*2+1,none⟩=some (.string (zb u))):=fun i hi=>by
  obtain ⟨x,T⟩:∃x,l[i]?=some x:=⟨l[i]'(by omega),List.getElem?_eq_getElem (by omega)⟩
  obtain ⟨b,o,J,G,-,-,Y,c1⟩:=h.pm i x T;obtain ⟨z,D,A,H,-,-,d0,U⟩:=h'.pm i x T;exact ⟨b,o,z,D,_,_,J,A,G,H,Y,c1,d0,U⟩
 have L:Hid (Below w.heap.size w w):=Below.refl _ _;clear h h' e1 X
 go_enter Tryz.func26,Tryz.ntmps26
 go_wp2
 go_loopw [5] (fun vi wr=>∃i:Nat,i≤m∧vi=.int .i64 (i:Int)∧Below w.heap.size w wr) (fun vi _=>m-(intOf vi).toNat)
 case atStart=>exact ⟨0,Nat.zero_le _,rfl,L.out⟩
 case round =>
  obtain ⟨i,hi,rfl,I⟩:=hrel;have y:Hid (Below w.heap.size w wr):=I;clear I
  by_cases G:i<m
  ·have N:(i:Int)<m:=by omega
   obtain ⟨b,o,z,D,s,u,rfl,rfl,J,A,Q,W,O,R⟩:=V.out i G;have U:=(y.out.cell (p:=⟨b,o+i*2,none⟩) J).trans Q;have d2:=(y.out.cell (p:=⟨b,o+i*2+1,none⟩) J).trans W;have d3:=(y.out.cell (p:=⟨z,D+i*2,none⟩) A).trans O;have d4:=(y.out.cell (p:=⟨z,D+i*2+1,none⟩) A).trans R;clear Q W O R V
   go_upto_region 6 with fail
   go_quiet (fail)
   go_wp2
   exact ⟨⟨i+1,by omega,by go_num,⟨y.out.os,y.out.tape,y.out.output,y.out.size,y.out.block⟩⟩,by simp [intOf];omega⟩
  ·obtain rfl:i=m:=by omega
   have N:¬ (i:Int)<i:=by omega
   go_wp2
   go_ret
   exact ⟨rfl,y.out⟩
structure SmP (x y:Pz):Prop where
 rl:x.recs.length=y.recs.length
 fl:x.funs.length=y.funs.length
 r:∀(i:Nat) (a b:Rz),x.recs[i]?=some a→y.recs[i]?=some b→a.name=b.name∧a.fields=b.fields
 f:∀(i:Nat) (a b:Fz),x.funs[i]?=some a→y.funs[i]?=some b→a.name=b.name∧a.result=b.result∧a.params=b.params∧xJ a.body b.body
def zhP (base base':Option Addr) (i:Nat) (W:World):Prop:=∃(b o:Nat) (s:List UInt8) (bf:Option Addr) (mf cf:Nat) (b' o':Nat) (bf':Option Addr) (mf' cf':Nat),base=some ⟨b,o,none⟩∧base'=some ⟨b',o',none⟩∧b<W.heap.size∧b'<W.heap.size ∧
 W.cell? ⟨b,o+i*3,none⟩=some (.string (zb s))∧W.cell? ⟨b,o+i*3+1,none⟩=some (.slice bf mf cf) ∧
 W.cell? ⟨b',o'+i*3,none⟩=some (.string (zb s))∧W.cell? ⟨b',o'+i*3+1,none⟩=some (.slice bf' mf' cf') ∧
 Hid (∀wx,Below W.heap.size W wx→Calls Tryz.prog 26 #[.slice bf mf cf,.slice bf' mf' cf'] wx fun e w''=>e=.returned (.bool true)∧Below W.heap.size W w'')
theorem QH {w W:World} {X Y:Obj} (h:W=((w.alloc X).alloc Y).drew):Below w.heap.size w W∧W.heap[w.heap.size]?=some X∧W.heap[w.heap.size+1]?=some Y∧W.heap.size=w.heap.size+2:=by
 have o:Below w.heap.size w (w.alloc X):=(Below.refl _ w).alloc (Nat.le_refl _) _;have y:Below w.heap.size w ((w.alloc X).alloc Y):=o.alloc o.size _;have A:(w.alloc X).heap.size=w.heap.size+1:=by simp
 have e:W.heap=((w.alloc X).alloc Y).heap:=by rw [h];rfl
 refine ⟨by rw [h];exact y.drew,?_,?_,by rw [e];simp⟩
 ·rw [e]
  have z:Below (w.alloc X).heap.size (w.alloc X) ((w.alloc X).alloc Y):=(Below.refl _ _).alloc (Nat.le_refl _) _;exact (z.block _ (by omega)).trans (World.alloc_heap_new w X)
 ·rw [e,←A]
  exact World.alloc_heap_new _ _
def zhQ (base base':Option Addr) (i:Nat) (W:World):Prop:=∃(b o:Nat) (s:List UInt8) (bf:Option Addr) (mf cf:Nat) (u:List UInt8) (bg:Option Addr) (mg cg:Nat) (n:Int) (b' o':Nat) (bf':Option Addr) (mf' cf':Nat) (bg':Option Addr) (mg' cg':Nat) (n':Int),base=some ⟨b,o,none⟩∧base'=some ⟨b',o',none⟩∧b<W.heap.size∧b'<W.heap.size ∧
 W.cell? ⟨b,o+i*5,none⟩=some (.string (zb s))∧W.cell? ⟨b,o+i*5+1,none⟩=some (.slice bf mf cf)∧W.cell? ⟨b,o+i*5+2,none⟩=some (.string (zb u))∧W.cell? ⟨b,o+i*5+3,none⟩=some (.slice bg mg cg)∧W.cell? ⟨b,o+i*5+4,none⟩=some (.int .i64 n) ∧
 W.cell? ⟨b',o'+i*5,none⟩=some (.string (zb s))∧W.cell? ⟨b',o'+i*5+1,none⟩=some (.slice bf' mf' cf')∧W.cell? ⟨b',o'+i*5+2,none⟩=some (.string (zb u))∧W.cell? ⟨b',o'+i*5+3,none⟩=some (.slice bg' mg' cg')∧W.cell? ⟨b',o'+i*5+4,none⟩=some (.int .i64 n') ∧
 Hid (∀wx,Below W.heap.size W wx→Calls Tryz.prog 26 #[.slice bf mf cf,.slice bf' mf' cf'] wx fun e w''=>e=.returned (.bool true)∧Below wx.heap.size wx w'') ∧
 Hid (∀wx,Below W.heap.size W wx→Calls Tryz.prog 27 #[.slice bg mg cg,.slice bg' mg' cg'] wx fun e w''=>e=.returned (.bool true)∧Below wx.heap.size wx w'')
theorem qo (b b2 b' b2':Option Addr) (m cap m2 cap2 cap' cap2':Nat) (w:World) (hmx:m≤9223372036854775807) (hmx2:m2≤9223372036854775807) (hr:∀i,i<m→∀W,Below w.heap.size w W→zhP b b' i W) (hf:∀i,i<m2→∀W,Below w.heap.size w W→zhQ b2 b2' i W) :
  Calls Tryz.prog 8 #[.agg #[.slice b m cap,.slice b2 m2 cap2],.agg #[.slice b' m cap',.slice b2' m2 cap2']] w fun e w'=>e=.returned (.bool true)∧Below w.heap.size w w':=by
 have am:Hid (∀i,i<m→∀W,Below w.heap.size w W→zhP b b' i W):=hr;have al:Hid (∀i,i<m2→∀W,Below w.heap.size w W→zhQ b2 b2' i W):=hf;obtain ⟨w1,J⟩:∃w1,w1=w.alloc (VV b m cap b2 m2 cap2):=⟨_,rfl⟩;have ab:w1.heap.size=w.heap.size+1:=by rw [J];simp
 have ah:Below w.heap.size w w1:=by rw [J];exact (Below.refl _ w).alloc (Nat.le_refl _) _
 have p1:w1.heap[w.heap.size]?=some (VV b m cap b2 m2 cap2):=by rw [J];exact World.alloc_heap_new w _
 obtain ⟨w2,N⟩:∃w2,w2=w1.alloc (VV b' m cap' b2' m2 cap2'):=⟨_,rfl⟩;have aC:w2.heap.size=w.heap.size+2:=by rw [N];simp [ab]
 have V:Below w1.heap.size w1 w2:=by rw [N];exact (Below.refl _ w1).alloc (Nat.le_refl _) _
 have aj:Below w.heap.size w w2:=zt ah V;have p2:w2.heap[w.heap.size]?=some (VV b m cap b2 m2 cap2):=(V.block _ (by omega)).trans p1
 have af:w2.heap[w.heap.size+1]?=some (VV b' m cap' b2' m2 cap2'):=by rw [N,←ab];exact World.alloc_heap_new w1 _
 have ak:Hid (Below w.heap.size w w2):=aj;have HP:Hid (w2.heap[w.heap.size]?=some (VV b m cap b2 m2 cap2)∧w2.heap[w.heap.size+1]?=some (VV b' m cap' b2' m2 cap2')):=⟨p2,af⟩;obtain ⟨c0,c1⟩:=yE p2;obtain ⟨d0,d1⟩:=yE af;have ay:Hid (Below w2.heap.size w2 w2):=Below.refl _ _;have aB:=J.symm;have aA:=N.symm;clear hr hf J N ah aj V p1 p2 af
 go_enter Tryz.func8,Tryz.ntmps8
 go_wp2_with fail
 go_loopw [5] (fun vi wr=>∃i:Nat,i≤m∧vi=.int .i64 (i:Int)∧Below w2.heap.size w2 wr) (fun vi _=>m-(intOf vi).toNat)
 case atStart=>exact ⟨0,Nat.zero_le _,rfl,ay.out⟩
 case round =>
  obtain ⟨i,hi,rfl,y⟩:=hrel;clear c0 c1 d0 d1;obtain ⟨c0,c1⟩:=yE ((y.block _ (by omega)).trans HP.out.1)
  obtain ⟨d0,d1⟩:=yE ((y.block _ (by omega)).trans HP.out.2)
  have HB:Hid (Below w2.heap.size w2 wr):=y;have an:w.heap.size+2≤wr.heap.size:=by have:=y.size;omega
  have U:Hid (Below w.heap.size w wr):=zt ak.out y;clear y
  by_cases hlt:i<m
  ·have ar:(i:Int)<m:=by omega
   obtain ⟨bb,o,s,bf,mf,cf,az,o',O,T,Q,rfl,rfl,hb,ad,m0,m1,n0,n1,HC⟩:=am.out i hlt wr U.out;have ai:w2.heap.size≤wr.heap.size:=HB.out.size;have u0:=Zk (n:=wr.heap.size) m0 hb;have u1:=Zk (n:=wr.heap.size) m1 hb;have v0:=Zk (n:=wr.heap.size) n0 ad;have v1:=Zk (n:=wr.heap.size) n1 ad;have x0:=Zk (n:=wr.heap.size) c0 (show w.heap.size<wr.heap.size by omega)
   have y0:=Zk (n:=wr.heap.size) d0 (show w.heap.size+1<wr.heap.size by omega)
   clear m0 m1 n0 n1;go_wp2_with fail
   refine xU (n:=wr.heap.size) (w0:=wr) (Below.refl _ _) (by kernel_rfl) (by kernel_rfl) ?_
   iterate 26 (go_big_quiet_step (fail))
   go_big_quiet_step (exact Xc HC.out _)
   iterate 2 (go_big_quiet_step (fail))
   refine wpQuiet_nil ?_;rintro _ ⟨c,rfl⟩;have ao:Hid (Below w2.heap.size w2 c.1):=HB.out.trans (c.2.mono ai);clear u0 u1 v0 v1 x0 y0 c0 c1 d0 d1;go_wp2
   exact ⟨⟨i+1,by omega,by go_num,ao.out⟩,by simp [intOf];omega⟩
  ·obtain rfl:i=m:=by omega
   have ar:¬ (i:Int)<i:=by omega
   clear am;go_wp2_with fail
   go_loopw [6] (fun vi wr=>∃j:Nat,j≤m2∧vi=.int .i64 (j:Int)∧Below w2.heap.size w2 wr) (fun vi _=>m2-(intOf vi).toNat)
   case atStart=>exact ⟨0,Nat.zero_le _,rfl,HB.out⟩
   case round =>
    obtain ⟨j,hj,rfl,y⟩:=hrel;clear c0 c1 d0 d1 HB U an;obtain ⟨c0,c1⟩:=yE ((y.block _ (by omega)).trans HP.out.1)
    obtain ⟨d0,d1⟩:=yE ((y.block _ (by omega)).trans HP.out.2)
    have HB:Hid (Below w2.heap.size w2 wr):=y;have an:w.heap.size+2≤wr.heap.size:=by have:=y.size;omega
    have U:Hid (Below w.heap.size w wr):=zt ak.out y;clear y
    by_cases hlt2:j<m2
    ·have av:(j:Int)<m2:=by omega
     obtain ⟨bb,o,s,bf,mf,cf,u,bg,mg,cg,n,az,o',O,T,Q,G,I,H,n',rfl,rfl,hb,ad,m0,m1,ag,m3,m4,n0,n1,n2,n3,n4,Z,aa⟩:=al.out j hlt2 wr U.out;have ai:w2.heap.size≤wr.heap.size:=HB.out.size;have A0:=fun ob=>zl c1 ob
     have B0:=fun ob ob'=>zl (zl c1 ob) ob'
     have A1:=fun ob=>zl d1 ob
     have B1:=fun ob ob'=>zl (zl d1 ob) ob'
     have A2:=fun ob=>zl m0 ob
     have B2:=fun ob ob'=>zl (zl m0 ob) ob'
     have A3:=fun ob=>zl m1 ob
     have B3:=fun ob ob'=>zl (zl m1 ob) ob'
     have A4:=fun ob=>zl ag ob
     have B4:=fun ob ob'=>zl (zl ag ob) ob'
     have A5:=fun ob=>zl m3 ob
     have B5:=fun ob ob'=>zl (zl m3 ob) ob'
     have A6:=fun ob=>zl m4 ob
     have B6:=fun ob ob'=>zl (zl m4 ob) ob'
     have A7:=fun ob=>zl n0 ob
     have B7:=fun ob ob'=>zl (zl n0 ob) ob'
     have A8:=fun ob=>zl n1 ob
     have B8:=fun ob ob'=>zl (zl n1 ob) ob'
     have A9:=fun ob=>zl n2 ob
     have B9:=fun ob ob'=>zl (zl n2 ob) ob'
     have ap:=fun ob=>zl n3 ob
     have ax:=fun ob ob'=>zl (zl n3 ob) ob'
     have aw:=fun ob=>zl n4 ob
     have aq:=fun ob ob'=>zl (zl n4 ob) ob'
     clear al
     go_upto_region 11 with fail
     go_region
     all_goals clear c0 c1 d0 d1 m0 m1 ag m3 m4 n0 n1 n2 n3 n4 A0 A1 A2 A3 A4 A5 A6 A7 A8 A9 ap aw B0 B1 B2 B3 B4 B5 B6 B7 B8 B9 ax aq
     ·obtain ⟨W,hW⟩:∃W,W=((wr.alloc (fzO s bf mf cf u bg mg cg n)).alloc (fzO s O T Q u G I H n')).drew:=⟨_,rfl⟩
      rw [←hW];obtain ⟨A,q0,q1,au⟩:=QH hW;obtain ⟨e0,e1,e2,e3,e4⟩:=Zt q0;obtain ⟨g0,g1,g2,g3,g4⟩:=Zt q1;have R:=Z.out W A;have D:Hid (∀wx,Below W.heap.size W wx→Calls Tryz.prog 27 #[.slice bg mg cg,.slice G I H] wx fun e w''=>e=.returned (.bool true)∧Below wx.heap.size wx w''):=fun wx h=>aa.out wx (zt A h)
      have HQ:Hid (W.heap[wr.heap.size]?=some (fzO s bf mf cf u bg mg cg n)∧W.heap[wr.heap.size+1]?=some (fzO s O T Q u G I H n')):=⟨q0,q1⟩;have X:Hid (Below w2.heap.size w2 W):=zt HB.out A;clear hW A q0 q1 Z aa;go_wp2_with fail
      refine R.mono ?_;clear R e0 e1 e2 e3 e4 g0 g1 g2 g3 g4;rintro e w3 ⟨rfl,z⟩;obtain ⟨e0,e1,e2,e3,e4⟩:=Zt ((z.block _ (by omega)).trans HQ.out.1)
      obtain ⟨g0,g1,g2,g3,g4⟩:=Zt ((z.block _ (by omega)).trans HQ.out.2)
      have R:=D.out w3 z;have L:Hid (Below w2.heap.size w2 w3):=zt X.out z;clear z D HQ X;go_wp2_with fail
      refine R.mono ?_;clear R e0 e1 e2 e3 e4 g0 g1 g2 g3 g4;rintro e w4 ⟨rfl,Y⟩;have ae:Hid (Below w2.heap.size w2 w4):=zt L.out Y;clear Y L;go_wp2
      exact ⟨⟨j+1,by omega,by go_num,ae.out⟩,by simp [intOf];omega⟩
     ·obtain ⟨W,hW⟩:∃W,W=((wr.alloc (fzO s O T Q u G I H n')).alloc (fzO s bf mf cf u bg mg cg n)).drew:=⟨_,rfl⟩
      rw [←hW];obtain ⟨A,q0,q1,au⟩:=QH hW;obtain ⟨e0,e1,e2,e3,e4⟩:=Zt q0;obtain ⟨g0,g1,g2,g3,g4⟩:=Zt q1;have R:=Z.out W A;have D:Hid (∀wx,Below W.heap.size W wx→Calls Tryz.prog 27 #[.slice bg mg cg,.slice G I H] wx fun e w''=>e=.returned (.bool true)∧Below wx.heap.size wx w''):=fun wx h=>aa.out wx (zt A h)
      have HQ:Hid (W.heap[wr.heap.size]?=some (fzO s O T Q u G I H n')∧W.heap[wr.heap.size+1]?=some (fzO s bf mf cf u bg mg cg n)):=⟨q0,q1⟩;have X:Hid (Below w2.heap.size w2 W):=zt HB.out A;clear hW A q0 q1 Z aa;go_wp2_with fail
      refine R.mono ?_;clear R e0 e1 e2 e3 e4 g0 g1 g2 g3 g4;rintro e w3 ⟨rfl,z⟩;obtain ⟨e0,e1,e2,e3,e4⟩:=Zt ((z.block _ (by omega)).trans HQ.out.1)
      obtain ⟨g0,g1,g2,g3,g4⟩:=Zt ((z.block _ (by omega)).trans HQ.out.2)
      have R:=D.out w3 z;have L:Hid (Below w2.heap.size w2 w3):=zt X.out z;clear z D HQ X;go_wp2_with fail
      refine R.mono ?_;clear R e0 e1 e2 e3 e4 g0 g1 g2 g3 g4;rintro e w4 ⟨rfl,Y⟩;have ae:Hid (Below w2.heap.size w2 w4):=zt L.out Y;clear Y L;go_wp2
      exact ⟨⟨j+1,by omega,by go_num,ae.out⟩,by simp [intOf];omega⟩
    ·obtain rfl:j=m2:=by omega
     have av:¬ (j:Int)<j:=by omega
     go_wp2
     go_ret
     exact ⟨rfl,U.out⟩
end Go.Proofs.YtcphojjpapgblaaGreatDoor
