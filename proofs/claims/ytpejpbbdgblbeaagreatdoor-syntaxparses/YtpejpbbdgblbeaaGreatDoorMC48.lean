import Derived.Test.YtpejpbbdgblbeaaGreatDoorMC45
import Derived.Test.YtpejpbbdgblbeaaGreatDoorMC33
import Derived.Test.YtpejpbbdgblbeaaGreatDoorMC34
namespace Go.Proofs.YtpejpbbdgblbeaaGreatDoor
open Go.RowKit Go.Shelf
set_option maxHeartbeats 16000000
set_option maxRecDepth 100000
mutual
def smS:Sz→Sz→Prop
 | .mk k s es body els _,.mk k' s' es' body' els' _=>k=k'∧s=s'∧smL es es'∧uH body body'∧uH els els'
def uH:List Sz→List Sz→Prop
 | [],[]=>True
 | x::xs,y::ys=>smS x y∧uH xs ys
 | [],_::_=>False
 | _::_,[]=>False
end
theorem qQ:∀{l l':List Sz},uH l l'→l.length=l'.length∧∀(i:Nat) (x y:Sz),l[i]?=some x→l'[i]?=some y→smS x y
 | [],[],_=>⟨rfl,fun i x y hx=>by simp at hx⟩
 | x::xs,y::ys,h=>by
  rw [uH] at h;obtain ⟨h1,h2⟩:=qQ h.2;refine ⟨by simp [h1],fun i a b ha hb=>?_⟩
  cases i with
  | zero =>
   simp only [List.getElem?_cons_zero,Option.some.injEq] at ha hb;subst ha hb;exact h.1
  | succ i=>exact h2 i a b (by simpa using ha) (by simpa using hb)
 | [],_::_,h=>by rw [uH] at h;exact h.elim
 | _::_,[],h=>by rw [uH] at h;exact h.elim
mutual
theorem zge:∀x:Sz,smS x x
 | .mk k s es body els line=>by rw [smS];exact ⟨rfl,rfl,qo es,Vm body,Vm els⟩
theorem Vm:∀l:List Sz,uH l l
 | []=>by rw [uH];trivial
 | x::xs=>by rw [uH];exact ⟨zge x,Vm xs⟩
end
theorem ZB.kids {w:World} {l:List Ez} {base:Option Addr} {m cap:Nat} (h:ZB (EzC w.heap.size w) 5 w.heap.size w l base m cap):YG w l base:=fun i x hx=>by
 obtain ⟨b,o,a1,a2,a3,a4,a5,a6,a7,e,-,hlt,hxy,m0,m1,m2,m3,m4,-⟩:=h.ez i x hx;exact ⟨b,o,a1,a2,a3,a4,a5,a6,a7,e,hlt,hxy,m0,m1,m2,m3,m4⟩
theorem zde {l l':List Ez} {base base':Option Addr} {m m' cap cap':Nat} {w:World} (h:ZB (EzC w.heap.size w) 5 w.heap.size w l base m cap) (h':ZB (EzC w.heap.size w) 5 w.heap.size w l' base' m' cap') (hs:smL l l') :
  Calls Tryz.prog 46 #[.slice base m cap,.slice base' m' cap'] w fun e w'=>e=.returned (.bool true)∧Below w.heap.size w w':=by
 obtain ⟨hlen,hel⟩:=zaA hs;have e1:=h.1;have e2:=h'.1;obtain rfl:m=m':=by omega
 exact uv l l' base base' m cap cap' w e1 e2 (by have:=h.2.1;have:=h.2.2.1;unfold maxLen at this;omega) h.kids h'.kids fun i x y hx hy W v u h1 h2=>QU (dpE x) x y v u W (Nat.le_refl _) (hel i x y hx hy) h1 h2
theorem ZB.at {α:Type} {P P':α→List Value→Prop} {sz:Nat} {w W:World} {l:List α} {base:Option Addr} {m cap:Nat} (h:ZB P sz w.heap.size w l base m cap) (hb:Below w.heap.size w W) (hP:∀x c,P x c→P' x c):ZB P' sz W.heap.size W l base m cap :=
 (h.kept hb hP).wide hb.size fun _ _ h=>h
theorem ZB.sz2 {B f:Nat} {w:World} {l:List Sz} {base:Option Addr} {m cap:Nat} (h:ZB (ZT B w (f+1)) 6 B w l base m cap) {i:Nat} {k:Int} {s:List UInt8} {es:List Ez} {body els:List Sz} {line:Int} (hx:l[i]?=some (.mk k s es body els line)) :
  ∃b o be me ce bb mb cb bl ml cl,base=some ⟨b,o,none⟩∧b<B∧ZB (EzC B w) 5 B w es be me ce∧ZB (ZT B w f) 6 B w body bb mb cb∧ZB (ZT B w f) 6 B w els bl ml cl ∧
   w.cell? ⟨b,o+i*6,none⟩=some (.int .i64 k)∧w.cell? ⟨b,o+i*6+1,none⟩=some (.string (za s))∧w.cell? ⟨b,o+i*6+2,none⟩=some (.slice be me ce)∧w.cell? ⟨b,o+i*6+3,none⟩=some (.slice bb mb cb)∧w.cell? ⟨b,o+i*6+4,none⟩=some (.slice bl ml cl)∧w.cell? ⟨b,o+i*6+5,none⟩=some (.int .i64 line):=by
 obtain ⟨b,o,c,e,hB,hlt,hc,hp,hcell⟩:=h.2.2.2 i _ hx;obtain ⟨be,me,ce,bb,mb,cb,bl,ml,cl,rfl,-,r1,r2,r3⟩:=hp;exact ⟨b,o,be,me,ce,bb,mb,cb,bl,ml,cl,e,hB,r1,r2,r3,hcell 0 _ rfl,hcell 1 _ rfl,hcell 2 _ rfl,hcell 3 _ rfl,hcell 4 _ rfl,hcell 5 _ rfl⟩
theorem zeP {k k':Int} {s s':List UInt8} {es es':List Ez} {b b' e e':List Sz} {n n':Int} (h:smS (.mk k s es b e n) (.mk k' s' es' b' e' n')):k=k'∧s=s'∧smL es es'∧uH b b'∧uH e e':=by rw [smS] at h;exact h
def zgf (base base':Option Addr) (i:Nat) (W:World):Prop:=∃(b o:Nat) (k:Int) (s:List UInt8) (be:Option Addr) (me ce:Nat) (bb:Option Addr) (mb cb:Nat) (bl:Option Addr) (ml cl:Nat) (b' o':Nat) (be':Option Addr) (me' ce':Nat) (bb':Option Addr) (mb' cb':Nat) (bl':Option Addr) (ml' cl':Nat),base=some ⟨b,o,none⟩∧base'=some ⟨b',o',none⟩∧b<W.heap.size∧b'<W.heap.size ∧
 W.cell? ⟨b,o+i*6,none⟩=some (.int .i64 k)∧W.cell? ⟨b,o+i*6+1,none⟩=some (.string (za s))∧W.cell? ⟨b,o+i*6+2,none⟩=some (.slice be me ce)∧W.cell? ⟨b,o+i*6+3,none⟩=some (.slice bb mb cb)∧W.cell? ⟨b,o+i*6+4,none⟩=some (.slice bl ml cl) ∧
 W.cell? ⟨b',o'+i*6,none⟩=some (.int .i64 k)∧W.cell? ⟨b',o'+i*6+1,none⟩=some (.string (za s))∧W.cell? ⟨b',o'+i*6+2,none⟩=some (.slice be' me' ce')∧W.cell? ⟨b',o'+i*6+3,none⟩=some (.slice bb' mb' cb')∧W.cell? ⟨b',o'+i*6+4,none⟩=some (.slice bl' ml' cl') ∧
 Hid (∀wx,Below W.heap.size W wx→Calls Tryz.prog 46 #[.slice be me ce,.slice be' me' ce'] wx fun e w''=>e=.returned (.bool true)∧Below W.heap.size W w'') ∧
 Hid (∀wx,Below W.heap.size W wx→Calls Tryz.prog 29 #[.slice bb mb cb,.slice bb' mb' cb'] wx fun e w''=>e=.returned (.bool true)∧Below W.heap.size W w'') ∧
 Hid (∀wx,Below W.heap.size W wx→Calls Tryz.prog 29 #[.slice bl ml cl,.slice bl' ml' cl'] wx fun e w''=>e=.returned (.bool true)∧Below W.heap.size W w'')
theorem uI (base base':Option Addr) (m cap cap':Nat) (w:World) (hmx:m≤9223372036854775807) (hat:∀i,i<m→∀W,Below w.heap.size w W→zgf base base' i W) :
  Calls Tryz.prog 29 #[.slice base m cap,.slice base' m cap'] w fun e w'=>e=.returned (.bool true)∧Below w.heap.size w w':=by
 have HAT:Hid (∀i,i<m→∀W,Below w.heap.size w W→zgf base base' i W):=hat
 have HB0:Hid (Below w.heap.size w w):=Below.refl _ _;clear hat
 go_enter Tryz.func29,Tryz.ntmps29
 go_wp2
 go_loopw [5] (fun vi wr=>∃i:Nat,i≤m∧vi=.int .i64 (i:Int)∧Below w.heap.size w wr) (fun vi _=>m-(intOf vi).toNat)
 case atStart=>exact ⟨0,Nat.zero_le _,rfl,HB0.out⟩
 case round =>
  obtain ⟨i,hi,rfl,hbr⟩:=hrel;have HB:Hid (Below w.heap.size w wr):=hbr;clear hbr
  by_cases hlt:i<m
  ·have hi2:(i:Int)<m:=by omega
   obtain ⟨b,o,k,s,be,me,ce,bb,mb,cb,bl,ml,cl,b',o',be',me',ce',bb',mb',cb',bl',ml',cl',rfl,rfl,hb,hb',m0,m1,m2,m3,m4,n0,n1,n2,n3,n4,HC1,HC2,HC3⟩:=HAT.out i hlt wr HB.out;have hsw:w.heap.size≤wr.heap.size:=HB.out.size;have u0:=Zk (n:=wr.heap.size) m0 hb;have u1:=Zk (n:=wr.heap.size) m1 hb;have u2:=Zk (n:=wr.heap.size) m2 hb;have u3:=Zk (n:=wr.heap.size) m3 hb;have u4:=Zk (n:=wr.heap.size) m4 hb;have v0:=Zk (n:=wr.heap.size) n0 hb';have v1:=Zk (n:=wr.heap.size) n1 hb';have v2:=Zk (n:=wr.heap.size) n2 hb';have v3:=Zk (n:=wr.heap.size) n3 hb';have v4:=Zk (n:=wr.heap.size) n4 hb';clear m0 m1 m2 m3 m4 n0 n1 n2 n3 n4;go_wp2_with fail
   simp only [List.append_eq,List.cons_append,List.nil_append];refine xG (n:=wr.heap.size) (w0:=wr) (Below.refl _ _) (by kernel_rfl) (by kernel_rfl) ?_
   iterate 35 (go_big_quiet_step (fail))
   go_big_quiet_step (exact xz HC1.out _)
   iterate 13 (go_big_quiet_step (fail))
   go_big_quiet_step (exact xz HC2.out _)
   iterate 13 (go_big_quiet_step (fail))
   go_big_quiet_step (exact xz HC3.out _)
   iterate 2 (go_big_quiet_step (fail))
   refine wpQuiet_nil ?_;rintro _ ⟨c,rfl⟩;have HBc:Hid (Below w.heap.size w c.1):=HB.out.trans (c.2.mono hsw);clear u0 u1 u2 u3 u4 v0 v1 v2 v3 v4;go_wp2
   exact ⟨⟨i+1,by omega,by go_num,HBc.out⟩,by simp [intOf];omega⟩
  ·obtain rfl:i=m:=by omega
   have hi2:¬ (i:Int)<i:=by omega
   go_wp2
   go_ret
   exact ⟨rfl,HB.out⟩
theorem Qu:∀(f:Nat) (l l':List Sz) (base base':Option Addr) (m m' cap cap':Nat) (w:World),ZB (ZT w.heap.size w f) 6 w.heap.size w l base m cap→ZB (ZT w.heap.size w f) 6 w.heap.size w l' base' m' cap'→uH l l' →
  Calls Tryz.prog 29 #[.slice base m cap,.slice base' m' cap'] w fun e w'=>e=.returned (.bool true)∧Below w.heap.size w w':=by
 intro f
 induction f with
 | zero =>
  intro l l' base base' m m' cap cap' w h h' hs;obtain ⟨hlen,hel⟩:=qQ hs;have e1:=h.1;have e2:=h'.1;obtain rfl:m=m':=by omega
  refine uI base base' m cap cap' w (by have:=h.2.1;have:=h.2.2.1;unfold maxLen at this;omega) fun i hi W hW=>?_
  obtain ⟨b,o,c,e,hB,hlt,hc,hp,hcell⟩:=h.2.2.2 i (l[i]'(by omega)) (List.getElem?_eq_getElem (by omega))
  exact hp.elim
 | succ f ih =>
  intro l l' base base' m m' cap cap' w h h' hs;obtain ⟨hlen,hel⟩:=qQ hs;have e1:=h.1;have e2:=h'.1;obtain rfl:m=m':=by omega
  refine uI base base' m cap cap' w (by have:=h.2.1;have:=h.2.2.1;unfold maxLen at this;omega) fun i hi W hW=>?_
  have hx:l[i]?=some (l[i]'(by omega)):=List.getElem?_eq_getElem (by omega)
  have hy:l'[i]?=some (l'[i]'(by omega)):=List.getElem?_eq_getElem (by omega)
  have hxy:=hel i _ _ hx hy;have hR1:=h.at hW (fun x c h=>(ZT.wide hW.size (f+1) x c (ZT.kept hW (f+1) x c h):ZT W.heap.size W (f+1) x c))
  have hR2:=h'.at hW (fun x c h=>(ZT.wide hW.size (f+1) x c (ZT.kept hW (f+1) x c h):ZT W.heap.size W (f+1) x c))
  generalize l[i]'(by omega)=x at hx hxy
  generalize l'[i]'(by omega)=y at hy hxy
  obtain ⟨xk,xs,xes,xb,xl,xn⟩:=x;obtain ⟨yk,ys,yes,yb,yl,yn⟩:=y;obtain ⟨rfl,rfl,hse,hsb,hsl⟩:=zeP hxy;obtain ⟨b,o,be,me,ce,bb,mb,cb,bl,ml,cl,rfl,hb,r1,r2,r3,m0,m1,m2,m3,m4,-⟩:=hR1.sz2 hx;obtain ⟨b',o',be',me',ce',bb',mb',cb',bl',ml',cl',rfl,hb',t1,t2,t3,n0,n1,n2,n3,n4,-⟩:=hR2.sz2 hy;refine ⟨b,o,xk,xs,be,me,ce,bb,mb,cb,bl,ml,cl,b',o',be',me',ce',bb',mb',cb',bl',ml',cl',rfl,rfl,hb,hb',m0,m1,m2,m3,m4,n0,n1,n2,n3,n4,?_,?_,?_⟩
  ·exact fun wx hwx=>(zde (r1.at hwx fun x c h=>ZJ.wide (ZJ.kept h hwx) hwx.size) (t1.at hwx fun x c h=>ZJ.wide (ZJ.kept h hwx) hwx.size) hse).mono fun e w'' h=>⟨h.1,hwx.trans (h.2.mono hwx.size)⟩
  ·exact fun wx hwx=>(ih xb yb bb bb' mb mb' cb cb' wx (r2.at hwx fun x c h=>ZT.wide hwx.size f x c (ZT.kept hwx f x c h)) (t2.at hwx fun x c h=>ZT.wide hwx.size f x c (ZT.kept hwx f x c h)) hsb).mono fun e w'' h=>⟨h.1,hwx.trans (h.2.mono hwx.size)⟩
  ·exact fun wx hwx=>(ih xl yl bl bl' ml ml' cl cl' wx (r3.at hwx fun x c h=>ZT.wide hwx.size f x c (ZT.kept hwx f x c h)) (t3.at hwx fun x c h=>ZT.wide hwx.size f x c (ZT.kept hwx f x c h)) hsl).mono fun e w'' h=>⟨h.1,hwx.trans (h.2.mono hwx.size)⟩
theorem Vb (l:List (List UInt8 × List UInt8)) (base base':Option Addr) (m m' cap cap':Nat) (w:World) (h:ZB PmZ 2 w.heap.size w l base m cap) (h':ZB PmZ 2 w.heap.size w l base' m' cap') :
  Calls Tryz.prog 28 #[.slice base m cap,.slice base' m' cap'] w fun e w'=>e=.returned (.bool true)∧Below w.heap.size w w':=by
 have e1:=h.1;have e2:=h'.1;obtain rfl:m=m':=by omega
 have hmx:m≤9223372036854775807:=by have:=h.2.1;have:=h.2.2.1;unfold maxLen at this;omega
 have HK:Hid (∀i,i<m→∃b o b' o' s u,base=some ⟨b,o,none⟩∧base'=some ⟨b',o',none⟩∧b<w.heap.size∧b'<w.heap.size∧w.cell? ⟨b,o+i*2,none⟩=some (.string (za s))∧w.cell? ⟨b,o+i*2+1,none⟩=some (.string (za u))∧w.cell? ⟨b',o'+i*2,none⟩=some (.string (za s))∧w.cell? ⟨b',o'+i*2+1,none⟩=some (.string (za u))):=fun i hi=>by
  obtain ⟨x,hx⟩:∃x,l[i]?=some x:=⟨l[i]'(by omega),List.getElem?_eq_getElem (by omega)⟩
  obtain ⟨b,o,hb,hlt,-,-,c0,c1⟩:=h.pm i x hx;obtain ⟨b',o',hb',hlt',-,-,d0,d1⟩:=h'.pm i x hx;exact ⟨b,o,b',o',_,_,hb,hb',hlt,hlt',c0,c1,d0,d1⟩
 have HB0:Hid (Below w.heap.size w w):=Below.refl _ _;clear h h' e1 e2
 go_enter Tryz.func28,Tryz.ntmps28
 go_wp2
 go_loopw [5] (fun vi wr=>∃i:Nat,i≤m∧vi=.int .i64 (i:Int)∧Below w.heap.size w wr) (fun vi _=>m-(intOf vi).toNat)
 case atStart=>exact ⟨0,Nat.zero_le _,rfl,HB0.out⟩
 case round =>
  obtain ⟨i,hi,rfl,hbr⟩:=hrel;have HB:Hid (Below w.heap.size w wr):=hbr;clear hbr
  by_cases hlt:i<m
  ·have hi2:(i:Int)<m:=by omega
   obtain ⟨b,o,b',o',s,u,rfl,rfl,hb,hb',q1,q2,q3,q4⟩:=HK.out i hlt;have d1:=(HB.out.cell (p:=⟨b,o+i*2,none⟩) hb).trans q1;have d2:=(HB.out.cell (p:=⟨b,o+i*2+1,none⟩) hb).trans q2;have d3:=(HB.out.cell (p:=⟨b',o'+i*2,none⟩) hb').trans q3;have d4:=(HB.out.cell (p:=⟨b',o'+i*2+1,none⟩) hb').trans q4;clear q1 q2 q3 q4 HK
   go_upto_region 6 with fail
   go_quiet (fail)
   go_wp2
   exact ⟨⟨i+1,by omega,by go_num,⟨HB.out.os,HB.out.tape,HB.out.output,HB.out.size,HB.out.block⟩⟩,by simp [intOf];omega⟩
  ·obtain rfl:i=m:=by omega
   have hi2:¬ (i:Int)<i:=by omega
   go_wp2
   go_ret
   exact ⟨rfl,HB.out⟩
structure SmP (x y:Pz):Prop where
 rl:x.recs.length=y.recs.length
 fl:x.funs.length=y.funs.length
 r:∀(i:Nat) (a b:Rz),x.recs[i]?=some a→y.recs[i]?=some b→a.name=b.name∧a.fields=b.fields
 f:∀(i:Nat) (a b:Fz),x.funs[i]?=some a→y.funs[i]?=some b→a.name=b.name∧a.result=b.result∧a.params=b.params∧uH a.body b.body
def zho (base base':Option Addr) (i:Nat) (W:World):Prop:=∃(b o:Nat) (s:List UInt8) (bf:Option Addr) (mf cf:Nat) (b' o':Nat) (bf':Option Addr) (mf' cf':Nat),base=some ⟨b,o,none⟩∧base'=some ⟨b',o',none⟩∧b<W.heap.size∧b'<W.heap.size ∧
 W.cell? ⟨b,o+i*3,none⟩=some (.string (za s))∧W.cell? ⟨b,o+i*3+1,none⟩=some (.slice bf mf cf) ∧
 W.cell? ⟨b',o'+i*3,none⟩=some (.string (za s))∧W.cell? ⟨b',o'+i*3+1,none⟩=some (.slice bf' mf' cf') ∧
 Hid (∀wx,Below W.heap.size W wx→Calls Tryz.prog 28 #[.slice bf mf cf,.slice bf' mf' cf'] wx fun e w''=>e=.returned (.bool true)∧Below W.heap.size W w'')
theorem Q9 {w W:World} {X Y:Obj} (h:W=((w.alloc X).alloc Y).drew):Below w.heap.size w W∧W.heap[w.heap.size]?=some X∧W.heap[w.heap.size+1]?=some Y∧W.heap.size=w.heap.size+2:=by
 have h1:Below w.heap.size w (w.alloc X):=(Below.refl _ w).alloc (Nat.le_refl _) _;have h2:Below w.heap.size w ((w.alloc X).alloc Y):=h1.alloc h1.size _;have hs:(w.alloc X).heap.size=w.heap.size+1:=by simp
 have e:W.heap=((w.alloc X).alloc Y).heap:=by rw [h];rfl
 refine ⟨by rw [h];exact h2.drew,?_,?_,by rw [e];simp⟩
 ·rw [e]
  have h3:Below (w.alloc X).heap.size (w.alloc X) ((w.alloc X).alloc Y):=(Below.refl _ _).alloc (Nat.le_refl _) _;exact (h3.block _ (by omega)).trans (World.alloc_heap_new w X)
 ·rw [e,←hs]
  exact World.alloc_heap_new _ _
def zhp (base base':Option Addr) (i:Nat) (W:World):Prop:=∃(b o:Nat) (s:List UInt8) (bf:Option Addr) (mf cf:Nat) (u:List UInt8) (bg:Option Addr) (mg cg:Nat) (n:Int) (b' o':Nat) (bf':Option Addr) (mf' cf':Nat) (bg':Option Addr) (mg' cg':Nat) (n':Int),base=some ⟨b,o,none⟩∧base'=some ⟨b',o',none⟩∧b<W.heap.size∧b'<W.heap.size ∧
 W.cell? ⟨b,o+i*5,none⟩=some (.string (za s))∧W.cell? ⟨b,o+i*5+1,none⟩=some (.slice bf mf cf)∧W.cell? ⟨b,o+i*5+2,none⟩=some (.string (za u))∧W.cell? ⟨b,o+i*5+3,none⟩=some (.slice bg mg cg)∧W.cell? ⟨b,o+i*5+4,none⟩=some (.int .i64 n) ∧
 W.cell? ⟨b',o'+i*5,none⟩=some (.string (za s))∧W.cell? ⟨b',o'+i*5+1,none⟩=some (.slice bf' mf' cf')∧W.cell? ⟨b',o'+i*5+2,none⟩=some (.string (za u))∧W.cell? ⟨b',o'+i*5+3,none⟩=some (.slice bg' mg' cg')∧W.cell? ⟨b',o'+i*5+4,none⟩=some (.int .i64 n') ∧
 Hid (∀wx,Below W.heap.size W wx→Calls Tryz.prog 28 #[.slice bf mf cf,.slice bf' mf' cf'] wx fun e w''=>e=.returned (.bool true)∧Below wx.heap.size wx w'') ∧
 Hid (∀wx,Below W.heap.size W wx→Calls Tryz.prog 29 #[.slice bg mg cg,.slice bg' mg' cg'] wx fun e w''=>e=.returned (.bool true)∧Below wx.heap.size wx w'')
theorem qR (b b2 b' b2':Option Addr) (m cap m2 cap2 cap' cap2':Nat) (w:World) (hmx:m≤9223372036854775807) (hmx2:m2≤9223372036854775807) (hr:∀i,i<m→∀W,Below w.heap.size w W→zho b b' i W) (hf:∀i,i<m2→∀W,Below w.heap.size w W→zhp b2 b2' i W) :
  Calls Tryz.prog 10 #[.agg #[.slice b m cap,.slice b2 m2 cap2],.agg #[.slice b' m cap',.slice b2' m2 cap2']] w fun e w'=>e=.returned (.bool true)∧Below w.heap.size w w':=by
 have HRA:Hid (∀i,i<m→∀W,Below w.heap.size w W→zho b b' i W):=hr;have HFA:Hid (∀i,i<m2→∀W,Below w.heap.size w W→zhp b2 b2' i W):=hf;obtain ⟨w1,hw1⟩:∃w1,w1=w.alloc (pzO b m cap b2 m2 cap2):=⟨_,rfl⟩;have hsz1:w1.heap.size=w.heap.size+1:=by rw [hw1];simp
 have hb1:Below w.heap.size w w1:=by rw [hw1];exact (Below.refl _ w).alloc (Nat.le_refl _) _
 have p1:w1.heap[w.heap.size]?=some (pzO b m cap b2 m2 cap2):=by rw [hw1];exact World.alloc_heap_new w _
 obtain ⟨w2,hw2⟩:∃w2,w2=w1.alloc (pzO b' m cap' b2' m2 cap2'):=⟨_,rfl⟩;have hsz2:w2.heap.size=w.heap.size+2:=by rw [hw2];simp [hsz1]
 have hb2':Below w1.heap.size w1 w2:=by rw [hw2];exact (Below.refl _ w1).alloc (Nat.le_refl _) _
 have hb2:Below w.heap.size w w2:=zi hb1 hb2';have p2:w2.heap[w.heap.size]?=some (pzO b m cap b2 m2 cap2):=(hb2'.block _ (by omega)).trans p1
 have p2':w2.heap[w.heap.size+1]?=some (pzO b' m cap' b2' m2 cap2'):=by rw [hw2,←hsz1];exact World.alloc_heap_new w1 _
 have HB2:Hid (Below w.heap.size w w2):=hb2;have HP:Hid (w2.heap[w.heap.size]?=some (pzO b m cap b2 m2 cap2)∧w2.heap[w.heap.size+1]?=some (pzO b' m cap' b2' m2 cap2')):=⟨p2,p2'⟩;obtain ⟨c0,c1⟩:=YB p2;obtain ⟨d0,d1⟩:=YB p2';have HBZ:Hid (Below w2.heap.size w2 w2):=Below.refl _ _;have hw1':=hw1.symm;have hw2':=hw2.symm;clear hr hf hw1 hw2 hb1 hb2 hb2' p1 p2 p2'
 go_enter Tryz.func10,Tryz.ntmps10
 go_wp2_with fail
 go_loopw [5] (fun vi wr=>∃i:Nat,i≤m∧vi=.int .i64 (i:Int)∧Below w2.heap.size w2 wr) (fun vi _=>m-(intOf vi).toNat)
 case atStart=>exact ⟨0,Nat.zero_le _,rfl,HBZ.out⟩
 case round =>
  obtain ⟨i,hi,rfl,hbr⟩:=hrel;clear c0 c1 d0 d1;obtain ⟨c0,c1⟩:=YB ((hbr.block _ (by omega)).trans HP.out.1)
  obtain ⟨d0,d1⟩:=YB ((hbr.block _ (by omega)).trans HP.out.2)
  have HB:Hid (Below w2.heap.size w2 wr):=hbr;have hsr:w.heap.size+2≤wr.heap.size:=by have:=hbr.size;omega
  have HBw:Hid (Below w.heap.size w wr):=zi HB2.out hbr;clear hbr
  by_cases hlt:i<m
  ·have hi2:(i:Int)<m:=by omega
   obtain ⟨bb,o,s,bf,mf,cf,bb',o',bf',mf',cf',rfl,rfl,hb,hb',m0,m1,n0,n1,HC⟩:=HRA.out i hlt wr HBw.out;have hsw:w2.heap.size≤wr.heap.size:=HB.out.size;have u0:=Zk (n:=wr.heap.size) m0 hb;have u1:=Zk (n:=wr.heap.size) m1 hb;have v0:=Zk (n:=wr.heap.size) n0 hb';have v1:=Zk (n:=wr.heap.size) n1 hb';have x0:=Zk (n:=wr.heap.size) c0 (show w.heap.size<wr.heap.size by omega)
   have y0:=Zk (n:=wr.heap.size) d0 (show w.heap.size+1<wr.heap.size by omega)
   clear m0 m1 n0 n1;go_wp2_with fail
   refine xG (n:=wr.heap.size) (w0:=wr) (Below.refl _ _) (by kernel_rfl) (by kernel_rfl) ?_
   iterate 26 (go_big_quiet_step (fail))
   go_big_quiet_step (exact xz HC.out _)
   iterate 2 (go_big_quiet_step (fail))
   refine wpQuiet_nil ?_;rintro _ ⟨c,rfl⟩;have HBc:Hid (Below w2.heap.size w2 c.1):=HB.out.trans (c.2.mono hsw);clear u0 u1 v0 v1 x0 y0 c0 c1 d0 d1;go_wp2
   exact ⟨⟨i+1,by omega,by go_num,HBc.out⟩,by simp [intOf];omega⟩
  ·obtain rfl:i=m:=by omega
   have hi2:¬ (i:Int)<i:=by omega
   clear HRA;go_wp2_with fail
   go_loopw [6] (fun vi wr=>∃j:Nat,j≤m2∧vi=.int .i64 (j:Int)∧Below w2.heap.size w2 wr) (fun vi _=>m2-(intOf vi).toNat)
   case atStart=>exact ⟨0,Nat.zero_le _,rfl,HB.out⟩
   case round =>
    obtain ⟨j,hj,rfl,hbr⟩:=hrel;clear c0 c1 d0 d1 HB HBw hsr;obtain ⟨c0,c1⟩:=YB ((hbr.block _ (by omega)).trans HP.out.1)
    obtain ⟨d0,d1⟩:=YB ((hbr.block _ (by omega)).trans HP.out.2)
    have HB:Hid (Below w2.heap.size w2 wr):=hbr;have hsr:w.heap.size+2≤wr.heap.size:=by have:=hbr.size;omega
    have HBw:Hid (Below w.heap.size w wr):=zi HB2.out hbr;clear hbr
    by_cases hlt2:j<m2
    ·have hi3:(j:Int)<m2:=by omega
     obtain ⟨bb,o,s,bf,mf,cf,u,bg,mg,cg,n,bb',o',bf',mf',cf',bg',mg',cg',n',rfl,rfl,hb,hb',m0,m1,m2',m3,m4,n0,n1,n2,n3,n4,HC1,HC2⟩:=HFA.out j hlt2 wr HBw.out;have hsw:w2.heap.size≤wr.heap.size:=HB.out.size;have A0:=fun ob=>ze c1 ob
     have B0:=fun ob ob'=>ze (ze c1 ob) ob'
     have A1:=fun ob=>ze d1 ob
     have B1:=fun ob ob'=>ze (ze d1 ob) ob'
     have A2:=fun ob=>ze m0 ob
     have B2:=fun ob ob'=>ze (ze m0 ob) ob'
     have A3:=fun ob=>ze m1 ob
     have B3:=fun ob ob'=>ze (ze m1 ob) ob'
     have A4:=fun ob=>ze m2' ob
     have B4:=fun ob ob'=>ze (ze m2' ob) ob'
     have A5:=fun ob=>ze m3 ob
     have B5:=fun ob ob'=>ze (ze m3 ob) ob'
     have A6:=fun ob=>ze m4 ob
     have B6:=fun ob ob'=>ze (ze m4 ob) ob'
     have A7:=fun ob=>ze n0 ob
     have B7:=fun ob ob'=>ze (ze n0 ob) ob'
     have A8:=fun ob=>ze n1 ob
     have B8:=fun ob ob'=>ze (ze n1 ob) ob'
     have A9:=fun ob=>ze n2 ob
     have B9:=fun ob ob'=>ze (ze n2 ob) ob'
     have A10:=fun ob=>ze n3 ob
     have B10:=fun ob ob'=>ze (ze n3 ob) ob'
     have A11:=fun ob=>ze n4 ob
     have B11:=fun ob ob'=>ze (ze n4 ob) ob'
     clear HFA
     go_upto_region 11 with fail
     go_region
     all_goals clear c0 c1 d0 d1 m0 m1 m2' m3 m4 n0 n1 n2 n3 n4 A0 A1 A2 A3 A4 A5 A6 A7 A8 A9 A10 A11 B0 B1 B2 B3 B4 B5 B6 B7 B8 B9 B10 B11
     ·obtain ⟨W,hW⟩:∃W,W=((wr.alloc (fzO s bf mf cf u bg mg cg n)).alloc (fzO s bf' mf' cf' u bg' mg' cg' n')).drew:=⟨_,rfl⟩
      rw [←hW];obtain ⟨hbW,q0,q1,hsW⟩:=Q9 hW;obtain ⟨e0,e1,e2,e3,e4⟩:=ZG q0;obtain ⟨g0,g1,g2,g3,g4⟩:=ZG q1;have ck:=HC1.out W hbW;have HC2':Hid (∀wx,Below W.heap.size W wx→Calls Tryz.prog 29 #[.slice bg mg cg,.slice bg' mg' cg'] wx fun e w''=>e=.returned (.bool true)∧Below wx.heap.size wx w''):=fun wx h=>HC2.out wx (zi hbW h)
      have HQ:Hid (W.heap[wr.heap.size]?=some (fzO s bf mf cf u bg mg cg n)∧W.heap[wr.heap.size+1]?=some (fzO s bf' mf' cf' u bg' mg' cg' n')):=⟨q0,q1⟩;have HBW:Hid (Below w2.heap.size w2 W):=zi HB.out hbW;clear hW hbW q0 q1 HC1 HC2;go_wp2_with fail
      refine ck.mono ?_;clear ck e0 e1 e2 e3 e4 g0 g1 g2 g3 g4;rintro e w3 ⟨rfl,hb3⟩;obtain ⟨e0,e1,e2,e3,e4⟩:=ZG ((hb3.block _ (by omega)).trans HQ.out.1)
      obtain ⟨g0,g1,g2,g3,g4⟩:=ZG ((hb3.block _ (by omega)).trans HQ.out.2)
      have ck:=HC2'.out w3 hb3;have HB3:Hid (Below w2.heap.size w2 w3):=zi HBW.out hb3;clear hb3 HC2' HQ HBW;go_wp2_with fail
      refine ck.mono ?_;clear ck e0 e1 e2 e3 e4 g0 g1 g2 g3 g4;rintro e w4 ⟨rfl,hb4⟩;have HB4:Hid (Below w2.heap.size w2 w4):=zi HB3.out hb4;clear hb4 HB3;go_wp2
      exact ⟨⟨j+1,by omega,by go_num,HB4.out⟩,by simp [intOf];omega⟩
     ·obtain ⟨W,hW⟩:∃W,W=((wr.alloc (fzO s bf' mf' cf' u bg' mg' cg' n')).alloc (fzO s bf mf cf u bg mg cg n)).drew:=⟨_,rfl⟩
      rw [←hW];obtain ⟨hbW,q0,q1,hsW⟩:=Q9 hW;obtain ⟨e0,e1,e2,e3,e4⟩:=ZG q0;obtain ⟨g0,g1,g2,g3,g4⟩:=ZG q1;have ck:=HC1.out W hbW;have HC2':Hid (∀wx,Below W.heap.size W wx→Calls Tryz.prog 29 #[.slice bg mg cg,.slice bg' mg' cg'] wx fun e w''=>e=.returned (.bool true)∧Below wx.heap.size wx w''):=fun wx h=>HC2.out wx (zi hbW h)
      have HQ:Hid (W.heap[wr.heap.size]?=some (fzO s bf' mf' cf' u bg' mg' cg' n')∧W.heap[wr.heap.size+1]?=some (fzO s bf mf cf u bg mg cg n)):=⟨q0,q1⟩;have HBW:Hid (Below w2.heap.size w2 W):=zi HB.out hbW;clear hW hbW q0 q1 HC1 HC2;go_wp2_with fail
      refine ck.mono ?_;clear ck e0 e1 e2 e3 e4 g0 g1 g2 g3 g4;rintro e w3 ⟨rfl,hb3⟩;obtain ⟨e0,e1,e2,e3,e4⟩:=ZG ((hb3.block _ (by omega)).trans HQ.out.1)
      obtain ⟨g0,g1,g2,g3,g4⟩:=ZG ((hb3.block _ (by omega)).trans HQ.out.2)
      have ck:=HC2'.out w3 hb3;have HB3:Hid (Below w2.heap.size w2 w3):=zi HBW.out hb3;clear hb3 HC2' HQ HBW;go_wp2_with fail
      refine ck.mono ?_;clear ck e0 e1 e2 e3 e4 g0 g1 g2 g3 g4;rintro e w4 ⟨rfl,hb4⟩;have HB4:Hid (Below w2.heap.size w2 w4):=zi HB3.out hb4;clear hb4 HB3;go_wp2
      exact ⟨⟨j+1,by omega,by go_num,HB4.out⟩,by simp [intOf];omega⟩
    ·obtain rfl:j=m2:=by omega
     have hi3:¬ (j:Int)<j:=by omega
     go_wp2
     go_ret
     exact ⟨rfl,HBw.out⟩
end Go.Proofs.YtpejpbbdgblbeaaGreatDoor
