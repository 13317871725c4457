import Derived.Test.YtpejpbbdgblbeaaGreatDoorMC40
import Derived.Test.YtpejpbbdgblbeaaGreatDoorMC34
import Derived.Test.YtpejpbbdgblbeaaGreatDoorMC35
namespace Go.Proofs.YtpejpbbdgblbeaaGreatDoor
open Go.RowKit Go.Shelf
set_option maxHeartbeats 16000000
set_option maxRecDepth 100000
mutual
def smS:Sz→Sz→Prop
 | .mk k s es body els _,.mk k' s' es' body' els' _=>k=k'∧s=s'∧smL es es'∧XN body body'∧XN els els'
def XN:List Sz→List Sz→Prop
 | [],[]=>True
 | x::xs,y::ys=>smS x y∧XN xs ys
 | [],_::_=>False
 | _::_,[]=>False
end
theorem Uh:∀{l l':List Sz},XN l l'→l.length=l'.length∧∀(i:Nat) (x y:Sz),l[i]?=some x→l'[i]?=some y→smS x y
 | [],[],_=>⟨rfl,fun i x y hx=>by simp at hx⟩
 | x::xs,y::ys,h=>by
  rw [XN] at h;obtain ⟨o,s⟩:=Uh h.2;refine ⟨by simp [o],fun i a b ha hb=>?_⟩
  cases i with
  | zero =>
   simp only [List.getElem?_cons_zero,Option.some.injEq] at ha hb;subst ha hb;exact h.1
  | succ i=>exact s i a b (by simpa using ha) (by simpa using hb)
 | [],_::_,h=>by rw [XN] at h;exact h.elim
 | _::_,[],h=>by rw [XN] at h;exact h.elim
mutual
theorem zd8:∀x:Sz,smS x x
 | .mk k s es body els line=>by rw [smS];exact ⟨rfl,rfl,Ug es,VI body,VI els⟩
theorem VI:∀l:List Sz,XN l l
 | []=>by rw [XN];trivial
 | x::xs=>by rw [XN];exact ⟨zd8 x,VI xs⟩
end
theorem Zk.kids {w:World} {l:List Ez} {base:Option Addr} {m cap:Nat} (h:Zk (qI w.heap.size w) 5 w.heap.size w l base m cap):Ya w l base:=fun i x hx=>by
 obtain ⟨b,o,N,I,O,D,A,Q,J,e,-,s,y,z,K,H,L,G,-⟩:=h.ez i x hx;exact ⟨b,o,N,I,O,D,A,Q,J,e,s,y,z,K,H,L,G⟩
theorem zbk {l l':List Ez} {base base':Option Addr} {m m' cap cap':Nat} {w:World} (h:Zk (qI w.heap.size w) 5 w.heap.size w l base m cap) (h':Zk (qI w.heap.size w) 5 w.heap.size w l' base' m' cap') (hs:smL l l') :
  Calls Tryz.prog 46 #[.slice base m cap,.slice base' m' cap'] w fun e w'=>e=.returned (.bool true)∧Below w.heap.size w w':=by
 obtain ⟨s,o⟩:=qU hs;have z:=h.1;have A:=h'.1;obtain rfl:m=m':=by omega
 exact Vi l l' base base' m cap cap' w z A (by have:=h.2.1;have:=h.2.2.1;unfold maxLen at this;omega) h.kids h'.kids fun i x y hx hy W v u h1 h2=>qg (dpE x) x y v u W (Nat.le_refl _) (o i x y hx hy) h1 h2
theorem Zk.at {α:Type} {P P':α→List Value→Prop} {sz:Nat} {w W:World} {l:List α} {base:Option Addr} {m cap:Nat} (h:Zk P sz w.heap.size w l base m cap) (hb:Below w.heap.size w W) (hP:∀x c,P x c→P' x c):Zk P' sz W.heap.size W l base m cap :=
 (h.kept hb hP).wide hb.size fun _ _ h=>h
theorem Zk.sz2 {B f:Nat} {w:World} {l:List Sz} {base:Option Addr} {m cap:Nat} (h:Zk (ZN B w (f+1)) 6 B w l base m cap) {i:Nat} {k:Int} {s:List UInt8} {es:List Ez} {body els:List Sz} {line:Int} (hx:l[i]?=some (.mk k s es body els line)) :
  ∃b o I H A J D L G z K,base=some ⟨b,o,none⟩∧b<B∧Zk (qI B w) 5 B w es I H A∧Zk (ZN B w f) 6 B w body J D L∧Zk (ZN B w f) 6 B w els G z K ∧
   w.cell? ⟨b,o+i*6,none⟩=some (.int .i64 k)∧w.cell? ⟨b,o+i*6+1,none⟩=some (.string (zb s))∧w.cell? ⟨b,o+i*6+2,none⟩=some (.slice I H A)∧w.cell? ⟨b,o+i*6+3,none⟩=some (.slice J D L)∧w.cell? ⟨b,o+i*6+4,none⟩=some (.slice G z K)∧w.cell? ⟨b,o+i*6+5,none⟩=some (.int .i64 line):=by
 obtain ⟨b,o,c,e,R,U,V,Q,y⟩:=h.2.2.2 i _ hx;obtain ⟨I,H,A,J,D,L,G,z,K,rfl,-,O,N,T⟩:=Q;exact ⟨b,o,I,H,A,J,D,L,G,z,K,e,R,O,N,T,y 0 _ rfl,y 1 _ rfl,y 2 _ rfl,y 3 _ rfl,y 4 _ rfl,y 5 _ rfl⟩
theorem zcK {k k':Int} {s s':List UInt8} {es es':List Ez} {b b' e e':List Sz} {n n':Int} (h:smS (.mk k s es b e n) (.mk k' s' es' b' e' n')):k=k'∧s=s'∧smL es es'∧XN b b'∧XN e e':=by rw [smS] at h;exact h
def zd9 (base base':Option Addr) (i:Nat) (W:World):Prop:=∃(b o:Nat) (k:Int) (s:List UInt8) (be:Option Addr) (me ce:Nat) (bb:Option Addr) (mb cb:Nat) (bl:Option Addr) (ml cl:Nat) (b' o':Nat) (be':Option Addr) (me' ce':Nat) (bb':Option Addr) (mb' cb':Nat) (bl':Option Addr) (ml' cl':Nat),base=some ⟨b,o,none⟩∧base'=some ⟨b',o',none⟩∧b<W.heap.size∧b'<W.heap.size ∧
 W.cell? ⟨b,o+i*6,none⟩=some (.int .i64 k)∧W.cell? ⟨b,o+i*6+1,none⟩=some (.string (zb s))∧W.cell? ⟨b,o+i*6+2,none⟩=some (.slice be me ce)∧W.cell? ⟨b,o+i*6+3,none⟩=some (.slice bb mb cb)∧W.cell? ⟨b,o+i*6+4,none⟩=some (.slice bl ml cl) ∧
 W.cell? ⟨b',o'+i*6,none⟩=some (.int .i64 k)∧W.cell? ⟨b',o'+i*6+1,none⟩=some (.string (zb s))∧W.cell? ⟨b',o'+i*6+2,none⟩=some (.slice be' me' ce')∧W.cell? ⟨b',o'+i*6+3,none⟩=some (.slice bb' mb' cb')∧W.cell? ⟨b',o'+i*6+4,none⟩=some (.slice bl' ml' cl') ∧
 Hid (∀wx,Below W.heap.size W wx→Calls Tryz.prog 46 #[.slice be me ce,.slice be' me' ce'] wx fun e w''=>e=.returned (.bool true)∧Below W.heap.size W w'') ∧
 Hid (∀wx,Below W.heap.size W wx→Calls Tryz.prog 29 #[.slice bb mb cb,.slice bb' mb' cb'] wx fun e w''=>e=.returned (.bool true)∧Below W.heap.size W w'') ∧
 Hid (∀wx,Below W.heap.size W wx→Calls Tryz.prog 29 #[.slice bl ml cl,.slice bl' ml' cl'] wx fun e w''=>e=.returned (.bool true)∧Below W.heap.size W w'')
theorem Vj (base base':Option Addr) (m cap cap':Nat) (w:World) (hmx:m≤9223372036854775807) (hat:∀i,i<m→∀W,Below w.heap.size w W→zd9 base base' i W) :
  Calls Tryz.prog 29 #[.slice base m cap,.slice base' m cap'] w fun e w'=>e=.returned (.bool true)∧Below w.heap.size w w':=by
 have J:Hid (∀i,i<m→∀W,Below w.heap.size w W→zd9 base base' i W):=hat
 have G:Hid (Below w.heap.size w w):=Below.refl _ _;clear hat
 go_enter Tryz.func29,Tryz.ntmps29
 go_wp2
 go_loopw [5] (fun vi wr=>∃i:Nat,i≤m∧vi=.int .i64 (i:Int)∧Below w.heap.size w wr) (fun vi _=>m-(intOf vi).toNat)
 case atStart=>exact ⟨0,Nat.zero_le _,rfl,G.out⟩
 case round =>
  obtain ⟨i,hi,rfl,z⟩:=hrel;have A:Hid (Below w.heap.size w wr):=z;clear z
  by_cases hlt:i<m
  ·have H:(i:Int)<m:=by omega
   obtain ⟨b,o,k,s,be,me,ce,bb,mb,cb,bl,ml,cl,b',o',af,aa,ab,ah,aj,ae,ai,ag,ad,rfl,rfl,y,h,O,R,Y,T,Q,U,n1,n2,V,Z,L,D,N⟩:=J.out i hlt wr A.out;have I:w.heap.size≤wr.heap.size:=A.out.size;have u0:=z7 (n:=wr.heap.size) O y;have u1:=z7 (n:=wr.heap.size) R y;have u2:=z7 (n:=wr.heap.size) Y y;have u3:=z7 (n:=wr.heap.size) T y;have u4:=z7 (n:=wr.heap.size) Q y;have v0:=z7 (n:=wr.heap.size) U h;have v1:=z7 (n:=wr.heap.size) n1 h;have v2:=z7 (n:=wr.heap.size) n2 h;have v3:=z7 (n:=wr.heap.size) V h;have v4:=z7 (n:=wr.heap.size) Z h;clear O R Y T Q U n1 n2 V Z;go_wp2_with fail
   simp only [List.append_eq,List.cons_append,List.nil_append];refine xG (n:=wr.heap.size) (w0:=wr) (Below.refl _ _) (by kernel_rfl) (by kernel_rfl) ?_
   iterate 35 (go_big_quiet_step (fail))
   go_big_quiet_step (exact xP L.out _)
   iterate 13 (go_big_quiet_step (fail))
   go_big_quiet_step (exact xP D.out _)
   iterate 13 (go_big_quiet_step (fail))
   go_big_quiet_step (exact xP N.out _)
   iterate 2 (go_big_quiet_step (fail))
   refine wpQuiet_nil ?_;rintro _ ⟨c,rfl⟩;have K:Hid (Below w.heap.size w c.1):=A.out.trans (c.2.mono I);clear u0 u1 u2 u3 u4 v0 v1 v2 v3 v4;go_wp2
   exact ⟨⟨i+1,by omega,by go_num,K.out⟩,by simp [intOf];omega⟩
  ·obtain rfl:i=m:=by omega
   have H:¬ (i:Int)<i:=by omega
   go_wp2
   go_ret
   exact ⟨rfl,A.out⟩
theorem UJ:∀(f:Nat) (l H:List Sz) (A s:Option Addr) (m m' D z:Nat) (w:World),Zk (ZN w.heap.size w f) 6 w.heap.size w l A m D→Zk (ZN w.heap.size w f) 6 w.heap.size w H s m' z→XN l H →
  Calls Tryz.prog 29 #[.slice A m D,.slice s m' z] w fun e w'=>e=.returned (.bool true)∧Below w.heap.size w w':=by
 intro f
 induction f with
 | zero =>
  intro l H A s m m' D z w h T hs;obtain ⟨L,N⟩:=Uh hs;have e1:=h.1;have e2:=T.1;obtain rfl:m=m':=by omega
  refine Vj A s m D z w (by have:=h.2.1;have:=h.2.2.1;unfold maxLen at this;omega) fun i hi W hW=>?_
  obtain ⟨b,o,c,e,hB,ah,hc,hp,Z⟩:=h.2.2.2 i (l[i]'(by omega)) (List.getElem?_eq_getElem (by omega))
  exact hp.elim
 | succ f ih =>
  intro l H A s m m' D z w h T hs;obtain ⟨L,N⟩:=Uh hs;have e1:=h.1;have e2:=T.1;obtain rfl:m=m':=by omega
  refine Vj A s m D z w (by have:=h.2.1;have:=h.2.2.1;unfold maxLen at this;omega) fun i hi W hW=>?_
  have hx:l[i]?=some (l[i]'(by omega)):=List.getElem?_eq_getElem (by omega)
  have hy:H[i]?=some (H[i]'(by omega)):=List.getElem?_eq_getElem (by omega)
  have G:=N i _ _ hx hy;have af:=h.at hW (fun x c h=>(ZN.wide hW.size (f+1) x c (ZN.kept hW (f+1) x c h):ZN W.heap.size W (f+1) x c))
  have ad:=T.at hW (fun x c h=>(ZN.wide hW.size (f+1) x c (ZN.kept hW (f+1) x c h):ZN W.heap.size W (f+1) x c))
  generalize l[i]'(by omega)=x at hx G
  generalize H[i]'(by omega)=y at hy G
  obtain ⟨xk,xs,ai,xb,xl,xn⟩:=x;obtain ⟨yk,ys,aj,yb,yl,yn⟩:=y;obtain ⟨rfl,rfl,ae,ag,aa⟩:=zcK G;obtain ⟨b,o,be,me,ce,bb,mb,cb,bl,ml,cl,rfl,hb,r1,r2,r3,m0,m1,m2,m3,m4,-⟩:=af.sz2 hx;obtain ⟨b',o',ab,U,V,R,K,O,Q,J,I,rfl,Y,t1,t2,t3,n0,n1,n2,n3,n4,-⟩:=ad.sz2 hy;refine ⟨b,o,xk,xs,be,me,ce,bb,mb,cb,bl,ml,cl,b',o',ab,U,V,R,K,O,Q,J,I,rfl,rfl,hb,Y,m0,m1,m2,m3,m4,n0,n1,n2,n3,n4,?_,?_,?_⟩
  ·exact fun wx hwx=>(zbk (r1.at hwx fun x c h=>Zs.wide (Zs.kept h hwx) hwx.size) (t1.at hwx fun x c h=>Zs.wide (Zs.kept h hwx) hwx.size) ae).mono fun e w'' h=>⟨h.1,hwx.trans (h.2.mono hwx.size)⟩
  ·exact fun wx hwx=>(ih xb yb bb R mb K cb O wx (r2.at hwx fun x c h=>ZN.wide hwx.size f x c (ZN.kept hwx f x c h)) (t2.at hwx fun x c h=>ZN.wide hwx.size f x c (ZN.kept hwx f x c h)) ag).mono fun e w'' h=>⟨h.1,hwx.trans (h.2.mono hwx.size)⟩
  ·exact fun wx hwx=>(ih xl yl bl Q ml J cl I wx (r3.at hwx fun x c h=>ZN.wide hwx.size f x c (ZN.kept hwx f x c h)) (t3.at hwx fun x c h=>ZN.wide hwx.size f x c (ZN.kept hwx f x c h)) aa).mono fun e w'' h=>⟨h.1,hwx.trans (h.2.mono hwx.size)⟩
theorem XO (l:List (List UInt8 × List UInt8)) (base base':Option Addr) (m m' cap cap':Nat) (w:World) (h:Zk PmZ 2 w.heap.size w l base m cap) (h':Zk PmZ 2 w.heap.size w l base' m' cap') :
  Calls Tryz.prog 28 #[.slice base m cap,.slice base' m' cap'] w fun e w'=>e=.returned (.bool true)∧Below w.heap.size w w':=by
 have e1:=h.1;have W:=h'.1;obtain rfl:m=m':=by omega
 have Y:m≤9223372036854775807:=by have:=h.2.1;have:=h.2.2.1;unfold maxLen at this;omega
 have V:Hid (∀i,i<m→∃b o z D s u,base=some ⟨b,o,none⟩∧base'=some ⟨z,D,none⟩∧b<w.heap.size∧z<w.heap.size∧w.cell? ⟨b,o+i*2,none⟩=some (.string (zb s))∧w.cell? ⟨b,o+i*2+1,none⟩=some (.string (zb u))∧w.cell? ⟨z,D+i*2,none⟩=some (.string (zb s))∧w.cell? ⟨z,D+i*2+1,none⟩=some (.string (zb u))):=fun i hi=>by
  obtain ⟨x,T⟩:∃x,l[i]?=some x:=⟨l[i]'(by omega),List.getElem?_eq_getElem (by omega)⟩
  obtain ⟨b,o,J,G,-,-,Z,c1⟩:=h.pm i x T;obtain ⟨z,D,A,I,-,-,d0,R⟩:=h'.pm i x T;exact ⟨b,o,z,D,_,_,J,A,G,I,Z,c1,d0,R⟩
 have K:Hid (Below w.heap.size w w):=Below.refl _ _;clear h h' e1 W
 go_enter Tryz.func28,Tryz.ntmps28
 go_wp2
 go_loopw [5] (fun vi wr=>∃i:Nat,i≤m∧vi=.int .i64 (i:Int)∧Below w.heap.size w wr) (fun vi _=>m-(intOf vi).toNat)
 case atStart=>exact ⟨0,Nat.zero_le _,rfl,K.out⟩
 case round =>
  obtain ⟨i,hi,rfl,H⟩:=hrel;have y:Hid (Below w.heap.size w wr):=H;clear H
  by_cases G:i<m
  ·have L:(i:Int)<m:=by omega
   obtain ⟨b,o,z,D,s,u,rfl,rfl,J,A,U,Q,N,O⟩:=V.out i G;have R:=(y.out.cell (p:=⟨b,o+i*2,none⟩) J).trans U;have d2:=(y.out.cell (p:=⟨b,o+i*2+1,none⟩) J).trans Q;have d3:=(y.out.cell (p:=⟨z,D+i*2,none⟩) A).trans N;have d4:=(y.out.cell (p:=⟨z,D+i*2+1,none⟩) A).trans O;clear U Q N O V
   go_upto_region 6 with fail
   go_quiet (fail)
   go_wp2
   exact ⟨⟨i+1,by omega,by go_num,⟨y.out.os,y.out.tape,y.out.output,y.out.size,y.out.block⟩⟩,by simp [intOf];omega⟩
  ·obtain rfl:i=m:=by omega
   have L:¬ (i:Int)<i:=by omega
   go_wp2
   go_ret
   exact ⟨rfl,y.out⟩
structure SmP (x y:Pz):Prop where
 rl:x.recs.length=y.recs.length
 fl:x.funs.length=y.funs.length
 r:∀(i:Nat) (a b:Rz),x.recs[i]?=some a→y.recs[i]?=some b→a.name=b.name∧a.fields=b.fields
 f:∀(i:Nat) (a b:Fz),x.funs[i]?=some a→y.funs[i]?=some b→a.name=b.name∧a.result=b.result∧a.params=b.params∧XN a.body b.body
def zfv (base base':Option Addr) (i:Nat) (W:World):Prop:=∃(b o:Nat) (s:List UInt8) (bf:Option Addr) (mf cf:Nat) (b' o':Nat) (bf':Option Addr) (mf' cf':Nat),base=some ⟨b,o,none⟩∧base'=some ⟨b',o',none⟩∧b<W.heap.size∧b'<W.heap.size ∧
 W.cell? ⟨b,o+i*3,none⟩=some (.string (zb s))∧W.cell? ⟨b,o+i*3+1,none⟩=some (.slice bf mf cf) ∧
 W.cell? ⟨b',o'+i*3,none⟩=some (.string (zb s))∧W.cell? ⟨b',o'+i*3+1,none⟩=some (.slice bf' mf' cf') ∧
 Hid (∀wx,Below W.heap.size W wx→Calls Tryz.prog 28 #[.slice bf mf cf,.slice bf' mf' cf'] wx fun e w''=>e=.returned (.bool true)∧Below W.heap.size W w'')
theorem qh {w W:World} {X Y:Obj} (h:W=((w.alloc X).alloc Y).drew):Below w.heap.size w W∧W.heap[w.heap.size]?=some X∧W.heap[w.heap.size+1]?=some Y∧W.heap.size=w.heap.size+2:=by
 have o:Below w.heap.size w (w.alloc X):=(Below.refl _ w).alloc (Nat.le_refl _) _;have z:Below w.heap.size w ((w.alloc X).alloc Y):=o.alloc o.size _;have s:(w.alloc X).heap.size=w.heap.size+1:=by simp
 have e:W.heap=((w.alloc X).alloc Y).heap:=by rw [h];rfl
 refine ⟨by rw [h];exact z.drew,?_,?_,by rw [e];simp⟩
 ·rw [e]
  have y:Below (w.alloc X).heap.size (w.alloc X) ((w.alloc X).alloc Y):=(Below.refl _ _).alloc (Nat.le_refl _) _;exact (y.block _ (by omega)).trans (World.alloc_heap_new w X)
 ·rw [e,←s]
  exact World.alloc_heap_new _ _
def zfw (base base':Option Addr) (i:Nat) (W:World):Prop:=∃(b o:Nat) (s:List UInt8) (bf:Option Addr) (mf cf:Nat) (u:List UInt8) (bg:Option Addr) (mg cg:Nat) (n:Int) (b' o':Nat) (bf':Option Addr) (mf' cf':Nat) (bg':Option Addr) (mg' cg':Nat) (n':Int),base=some ⟨b,o,none⟩∧base'=some ⟨b',o',none⟩∧b<W.heap.size∧b'<W.heap.size ∧
 W.cell? ⟨b,o+i*5,none⟩=some (.string (zb s))∧W.cell? ⟨b,o+i*5+1,none⟩=some (.slice bf mf cf)∧W.cell? ⟨b,o+i*5+2,none⟩=some (.string (zb u))∧W.cell? ⟨b,o+i*5+3,none⟩=some (.slice bg mg cg)∧W.cell? ⟨b,o+i*5+4,none⟩=some (.int .i64 n) ∧
 W.cell? ⟨b',o'+i*5,none⟩=some (.string (zb s))∧W.cell? ⟨b',o'+i*5+1,none⟩=some (.slice bf' mf' cf')∧W.cell? ⟨b',o'+i*5+2,none⟩=some (.string (zb u))∧W.cell? ⟨b',o'+i*5+3,none⟩=some (.slice bg' mg' cg')∧W.cell? ⟨b',o'+i*5+4,none⟩=some (.int .i64 n') ∧
 Hid (∀wx,Below W.heap.size W wx→Calls Tryz.prog 28 #[.slice bf mf cf,.slice bf' mf' cf'] wx fun e w''=>e=.returned (.bool true)∧Below wx.heap.size wx w'') ∧
 Hid (∀wx,Below W.heap.size W wx→Calls Tryz.prog 29 #[.slice bg mg cg,.slice bg' mg' cg'] wx fun e w''=>e=.returned (.bool true)∧Below wx.heap.size wx w'')
theorem Ui (b b2 b' b2':Option Addr) (m cap m2 cap2 cap' cap2':Nat) (w:World) (hmx:m≤9223372036854775807) (hmx2:m2≤9223372036854775807) (hr:∀i,i<m→∀W,Below w.heap.size w W→zfv b b' i W) (hf:∀i,i<m2→∀W,Below w.heap.size w W→zfw b2 b2' i W) :
  Calls Tryz.prog 10 #[.agg #[.slice b m cap,.slice b2 m2 cap2],.agg #[.slice b' m cap',.slice b2' m2 cap2']] w fun e w'=>e=.returned (.bool true)∧Below w.heap.size w w':=by
 have am:Hid (∀i,i<m→∀W,Below w.heap.size w W→zfv b b' i W):=hr;have al:Hid (∀i,i<m2→∀W,Below w.heap.size w W→zfw b2 b2' i W):=hf;obtain ⟨w1,K⟩:∃w1,w1=w.alloc (qZ b m cap b2 m2 cap2):=⟨_,rfl⟩;have ab:w1.heap.size=w.heap.size+1:=by rw [K];simp
 have ah:Below w.heap.size w w1:=by rw [K];exact (Below.refl _ w).alloc (Nat.le_refl _) _
 have p1:w1.heap[w.heap.size]?=some (qZ b m cap b2 m2 cap2):=by rw [K];exact World.alloc_heap_new w _
 obtain ⟨w2,U⟩:∃w2,w2=w1.alloc (qZ b' m cap' b2' m2 cap2'):=⟨_,rfl⟩;have aA:w2.heap.size=w.heap.size+2:=by rw [U];simp [ab]
 have R:Below w1.heap.size w1 w2:=by rw [U];exact (Below.refl _ w1).alloc (Nat.le_refl _) _
 have aj:Below w.heap.size w w2:=zl ah R;have p2:w2.heap[w.heap.size]?=some (qZ b m cap b2 m2 cap2):=(R.block _ (by omega)).trans p1
 have af:w2.heap[w.heap.size+1]?=some (qZ b' m cap' b2' m2 cap2'):=by rw [U,←ab];exact World.alloc_heap_new w1 _
 have an:Hid (Below w.heap.size w w2):=aj;have HP:Hid (w2.heap[w.heap.size]?=some (qZ b m cap b2 m2 cap2)∧w2.heap[w.heap.size+1]?=some (qZ b' m cap' b2' m2 cap2')):=⟨p2,af⟩;obtain ⟨c0,c1⟩:=yF p2;obtain ⟨d0,d1⟩:=yF af;have az:Hid (Below w2.heap.size w2 w2):=Below.refl _ _;have aC:=K.symm;have aB:=U.symm;clear hr hf K U ah aj R p1 p2 af
 go_enter Tryz.func10,Tryz.ntmps10
 go_wp2_with fail
 go_loopw [5] (fun vi wr=>∃i:Nat,i≤m∧vi=.int .i64 (i:Int)∧Below w2.heap.size w2 wr) (fun vi _=>m-(intOf vi).toNat)
 case atStart=>exact ⟨0,Nat.zero_le _,rfl,az.out⟩
 case round =>
  obtain ⟨i,hi,rfl,y⟩:=hrel;clear c0 c1 d0 d1;obtain ⟨c0,c1⟩:=yF ((y.block _ (by omega)).trans HP.out.1)
  obtain ⟨d0,d1⟩:=yF ((y.block _ (by omega)).trans HP.out.2)
  have HB:Hid (Below w2.heap.size w2 wr):=y;have ai:w.heap.size+2≤wr.heap.size:=by have:=y.size;omega
  have V:Hid (Below w.heap.size w wr):=zl an.out y;clear y
  by_cases hlt:i<m
  ·have ap:(i:Int)<m:=by omega
   obtain ⟨bb,o,s,bf,mf,cf,ay,o',T,O,L,rfl,rfl,hb,ae,m0,m1,n0,n1,HC⟩:=am.out i hlt wr V.out;have ak:w2.heap.size≤wr.heap.size:=HB.out.size;have u0:=z7 (n:=wr.heap.size) m0 hb;have u1:=z7 (n:=wr.heap.size) m1 hb;have v0:=z7 (n:=wr.heap.size) n0 ae;have v1:=z7 (n:=wr.heap.size) n1 ae;have x0:=z7 (n:=wr.heap.size) c0 (show w.heap.size<wr.heap.size by omega)
   have y0:=z7 (n:=wr.heap.size) d0 (show w.heap.size+1<wr.heap.size by omega)
   clear m0 m1 n0 n1;go_wp2_with fail
   refine xG (n:=wr.heap.size) (w0:=wr) (Below.refl _ _) (by kernel_rfl) (by kernel_rfl) ?_
   iterate 26 (go_big_quiet_step (fail))
   go_big_quiet_step (exact xP HC.out _)
   iterate 2 (go_big_quiet_step (fail))
   refine wpQuiet_nil ?_;rintro _ ⟨c,rfl⟩;have aq:Hid (Below w2.heap.size w2 c.1):=HB.out.trans (c.2.mono ak);clear u0 u1 v0 v1 x0 y0 c0 c1 d0 d1;go_wp2
   exact ⟨⟨i+1,by omega,by go_num,aq.out⟩,by simp [intOf];omega⟩
  ·obtain rfl:i=m:=by omega
   have ap:¬ (i:Int)<i:=by omega
   clear am;go_wp2_with fail
   go_loopw [6] (fun vi wr=>∃j:Nat,j≤m2∧vi=.int .i64 (j:Int)∧Below w2.heap.size w2 wr) (fun vi _=>m2-(intOf vi).toNat)
   case atStart=>exact ⟨0,Nat.zero_le _,rfl,HB.out⟩
   case round =>
    obtain ⟨j,hj,rfl,y⟩:=hrel;clear c0 c1 d0 d1 HB V ai;obtain ⟨c0,c1⟩:=yF ((y.block _ (by omega)).trans HP.out.1)
    obtain ⟨d0,d1⟩:=yF ((y.block _ (by omega)).trans HP.out.2)
    have HB:Hid (Below w2.heap.size w2 wr):=y;have ai:w.heap.size+2≤wr.heap.size:=by have:=y.size;omega
    have V:Hid (Below w.heap.size w wr):=zl an.out y;clear y
    by_cases hlt2:j<m2
    ·have au:(j:Int)<m2:=by omega
     obtain ⟨bb,o,s,bf,mf,cf,u,bg,mg,cg,n,ay,o',T,O,L,I,G,H,n',rfl,rfl,hb,ae,m0,m1,ag,m3,m4,n0,n1,n2,n3,n4,aa,Z⟩:=al.out j hlt2 wr V.out;have ak:w2.heap.size≤wr.heap.size:=HB.out.size;have A0:=fun ob=>zj c1 ob
     have B0:=fun ob ob'=>zj (zj c1 ob) ob'
     have A1:=fun ob=>zj d1 ob
     have B1:=fun ob ob'=>zj (zj d1 ob) ob'
     have A2:=fun ob=>zj m0 ob
     have B2:=fun ob ob'=>zj (zj m0 ob) ob'
     have A3:=fun ob=>zj m1 ob
     have B3:=fun ob ob'=>zj (zj m1 ob) ob'
     have A4:=fun ob=>zj ag ob
     have B4:=fun ob ob'=>zj (zj ag ob) ob'
     have A5:=fun ob=>zj m3 ob
     have B5:=fun ob ob'=>zj (zj m3 ob) ob'
     have A6:=fun ob=>zj m4 ob
     have B6:=fun ob ob'=>zj (zj m4 ob) ob'
     have A7:=fun ob=>zj n0 ob
     have B7:=fun ob ob'=>zj (zj n0 ob) ob'
     have A8:=fun ob=>zj n1 ob
     have B8:=fun ob ob'=>zj (zj n1 ob) ob'
     have A9:=fun ob=>zj n2 ob
     have B9:=fun ob ob'=>zj (zj n2 ob) ob'
     have av:=fun ob=>zj n3 ob
     have ao:=fun ob ob'=>zj (zj n3 ob) ob'
     have ar:=fun ob=>zj n4 ob
     have aw:=fun ob ob'=>zj (zj n4 ob) ob'
     clear al
     go_upto_region 11 with fail
     go_region
     all_goals clear c0 c1 d0 d1 m0 m1 ag m3 m4 n0 n1 n2 n3 n4 A0 A1 A2 A3 A4 A5 A6 A7 A8 A9 av ar B0 B1 B2 B3 B4 B5 B6 B7 B8 B9 ao aw
     ·obtain ⟨W,hW⟩:∃W,W=((wr.alloc (Q8 s bf mf cf u bg mg cg n)).alloc (Q8 s T O L u I G H n')).drew:=⟨_,rfl⟩
      rw [←hW];obtain ⟨A,q0,q1,ax⟩:=qh hW;obtain ⟨e0,e1,e2,e3,e4⟩:=Zm q0;obtain ⟨g0,g1,g2,g3,g4⟩:=Zm q1;have N:=aa.out W A;have D:Hid (∀wx,Below W.heap.size W wx→Calls Tryz.prog 29 #[.slice bg mg cg,.slice I G H] wx fun e w''=>e=.returned (.bool true)∧Below wx.heap.size wx w''):=fun wx h=>Z.out wx (zl A h)
      have HQ:Hid (W.heap[wr.heap.size]?=some (Q8 s bf mf cf u bg mg cg n)∧W.heap[wr.heap.size+1]?=some (Q8 s T O L u I G H n')):=⟨q0,q1⟩;have J:Hid (Below w2.heap.size w2 W):=zl HB.out A;clear hW A q0 q1 aa Z;go_wp2_with fail
      refine N.mono ?_;clear N e0 e1 e2 e3 e4 g0 g1 g2 g3 g4;rintro e w3 ⟨rfl,z⟩;obtain ⟨e0,e1,e2,e3,e4⟩:=Zm ((z.block _ (by omega)).trans HQ.out.1)
      obtain ⟨g0,g1,g2,g3,g4⟩:=Zm ((z.block _ (by omega)).trans HQ.out.2)
      have N:=D.out w3 z;have Y:Hid (Below w2.heap.size w2 w3):=zl J.out z;clear z D HQ J;go_wp2_with fail
      refine N.mono ?_;clear N e0 e1 e2 e3 e4 g0 g1 g2 g3 g4;rintro e w4 ⟨rfl,Q⟩;have ad:Hid (Below w2.heap.size w2 w4):=zl Y.out Q;clear Q Y;go_wp2
      exact ⟨⟨j+1,by omega,by go_num,ad.out⟩,by simp [intOf];omega⟩
     ·obtain ⟨W,hW⟩:∃W,W=((wr.alloc (Q8 s T O L u I G H n')).alloc (Q8 s bf mf cf u bg mg cg n)).drew:=⟨_,rfl⟩
      rw [←hW];obtain ⟨A,q0,q1,ax⟩:=qh hW;obtain ⟨e0,e1,e2,e3,e4⟩:=Zm q0;obtain ⟨g0,g1,g2,g3,g4⟩:=Zm q1;have N:=aa.out W A;have D:Hid (∀wx,Below W.heap.size W wx→Calls Tryz.prog 29 #[.slice bg mg cg,.slice I G H] wx fun e w''=>e=.returned (.bool true)∧Below wx.heap.size wx w''):=fun wx h=>Z.out wx (zl A h)
      have HQ:Hid (W.heap[wr.heap.size]?=some (Q8 s T O L u I G H n')∧W.heap[wr.heap.size+1]?=some (Q8 s bf mf cf u bg mg cg n)):=⟨q0,q1⟩;have J:Hid (Below w2.heap.size w2 W):=zl HB.out A;clear hW A q0 q1 aa Z;go_wp2_with fail
      refine N.mono ?_;clear N e0 e1 e2 e3 e4 g0 g1 g2 g3 g4;rintro e w3 ⟨rfl,z⟩;obtain ⟨e0,e1,e2,e3,e4⟩:=Zm ((z.block _ (by omega)).trans HQ.out.1)
      obtain ⟨g0,g1,g2,g3,g4⟩:=Zm ((z.block _ (by omega)).trans HQ.out.2)
      have N:=D.out w3 z;have Y:Hid (Below w2.heap.size w2 w3):=zl J.out z;clear z D HQ J;go_wp2_with fail
      refine N.mono ?_;clear N e0 e1 e2 e3 e4 g0 g1 g2 g3 g4;rintro e w4 ⟨rfl,Q⟩;have ad:Hid (Below w2.heap.size w2 w4):=zl Y.out Q;clear Q Y;go_wp2
      exact ⟨⟨j+1,by omega,by go_num,ad.out⟩,by simp [intOf];omega⟩
    ·obtain rfl:j=m2:=by omega
     have au:¬ (j:Int)<j:=by omega
     go_wp2
     go_ret
     exact ⟨rfl,V.out⟩
end Go.Proofs.YtpejpbbdgblbeaaGreatDoor
