import Derived.Test.YtpejpbbdgblbeaaGreatDoorMC34
import Derived.Test.YtpejpbbdgblbeaaGreatDoorMC45
namespace Go.Proofs.YtpejpbbdgblbeaaGreatDoor
open Go.RowKit Go.Shelf
set_option maxHeartbeats 16000000
set_option maxRecDepth 100000
abbrev pzO (b:Option Addr) (m cap:Nat) (b2:Option Addr) (m2 cap2:Nat):Obj:=.cells #[.slice b m cap,.slice b2 m2 cap2] 25
theorem YS {w:World} {N:Nat} {b:Option Addr} {m cap:Nat} {b2:Option Addr} {m2 cap2:Nat} (p:w.heap[N]?=some (pzO b m cap b2 m2 cap2)):w.cell? ⟨N,0,none⟩=some (.slice b m cap)∧w.cell? ⟨N,1,none⟩=some (.slice b2 m2 cap2):=by
 refine ⟨?_,?_⟩ <;> (simp only [World.cell?,p];rfl)
theorem Zr.rz {B:Nat} {w:World} {l:List Rz} {base:Option Addr} {m cap:Nat} (h:Zr (Xk B w) 3 B w l base m cap):∀i x,l[i]?=some x→∃b o s G H D line,base=some ⟨b,o,none⟩∧b<B∧Xk B w x [.string (zb s),.slice G H D,.int .i64 line] ∧
   w.cell? ⟨b,o+i*3,none⟩=some (.string (zb s))∧w.cell? ⟨b,o+i*3+1,none⟩=some (.slice G H D)∧w.cell? ⟨b,o+i*3+2,none⟩=some (.int .i64 line):=by
 intro i x O;obtain ⟨b,o,c,I,J,N,L,A,y⟩:=h.2.2.2 i x O;have z:=A;obtain ⟨G,H,D,rfl,_⟩:=z;exact ⟨b,o,_,G,H,D,_,I,J,A,y 0 _ rfl,y 1 _ rfl,y 2 _ rfl⟩
theorem Zr.fz {B f:Nat} {w:World} {l:List Fz} {base:Option Addr} {m cap:Nat} (h:Zr (Xl B w f) 5 B w l base m cap):∀i x,l[i]?=some x→∃b o s D H J u I L G line,base=some ⟨b,o,none⟩∧b<B∧Xl B w f x [.string (zb s),.slice D H J,.string (zb u),.slice I L G,.int .i64 line] ∧
   w.cell? ⟨b,o+i*5,none⟩=some (.string (zb s))∧w.cell? ⟨b,o+i*5+1,none⟩=some (.slice D H J)∧w.cell? ⟨b,o+i*5+2,none⟩=some (.string (zb u))∧w.cell? ⟨b,o+i*5+3,none⟩=some (.slice I L G)∧w.cell? ⟨b,o+i*5+4,none⟩=some (.int .i64 line):=by
 intro i x T;obtain ⟨b,o,c,N,O,R,Q,A,y⟩:=h.2.2.2 i x T;have z:=A;obtain ⟨D,H,J,I,L,G,rfl,_⟩:=z;exact ⟨b,o,_,D,H,J,_,I,L,G,_,N,O,A,y 0 _ rfl,y 1 _ rfl,y 2 _ rfl,y 3 _ rfl,y 4 _ rfl⟩
theorem zcj (w0:World) (hT:ZE w0) (x:Rz) (c:List Value) (hx:Xk w0.heap.size w0 x c) (r:Nat) (q:Option Nat) (t:List UInt8) (w:World) (h:zy w0 r q t w) :
  Calls Tryz.prog 70 #[.pointer (some ⟨r,0,none⟩),.agg c.toArray] w (zo w0 r q t w (recO x.name x.fields)):=by
 obtain ⟨b,m,y,rfl,z,o⟩:=hx;exact za1 w0 hT x.name x.fields b m y r x.line q t w h z o.1 o.2.1 o.2.2.1 o.pm
theorem QZ (w0:World) (hT:ZE w0) (hl:ZC w0) (f:Nat) (x:Pz) (b:Option Addr) (m cap:Nat) (b2:Option Addr) (m2 cap2:Nat) (h1:Zr (Xk w0.heap.size w0) 3 w0.heap.size w0 x.recs b m cap) (h2:Zr (Xl w0.heap.size w0 f) 5 w0.heap.size w0 x.funs b2 m2 cap2) (r:Nat) (q:Option Nat) (t:List UInt8) (w:World) (h:zy w0 r q t w) :
  Calls Tryz.prog 36 #[.pointer (some ⟨r,0,none⟩),.agg #[.slice b m cap,.slice b2 m2 cap2]] w (zo w0 r q t w (vd x)):=by
 obtain ⟨rs,Q⟩:=x;have HN:Hid (m=rs.length):=h1.1;have ag:Hid (m2=Q.length):=h2.1;have ap:m≤9223372036854775807:=by have h3:=h1.1;have h4:=h1.2.1;have h5:=h1.2.2.1;unfold maxLen at h5;simp only at h3 h4;omega
 have an:m2≤9223372036854775807:=by have h3:=h2.1;have h4:=h2.2.1;have h5:=h2.2.2.1;unfold maxLen at h5;simp only at h3 h4;omega
 obtain ⟨R,hR⟩:∃R,R=vd ⟨rs,Q⟩:=⟨_,rfl⟩;rw [←hR];have HR:Hid (R=zc (yL (rs.map fun r=>recO r.name r.fields) m) (yL (Q.map funO) m2)):=show _=_ by rw [hR,HN.out,ag.out];rfl
 have aj:Hid (Zr (Xk w0.heap.size w0) 3 w0.heap.size w0 rs b m cap):=h1;have ad:Hid (Zr (Xl w0.heap.size w0 f) 5 w0.heap.size w0 Q b2 m2 cap2):=h2;have af:Hid (∀(x:Rz) (c:List Value),Xk w0.heap.size w0 x c→∀(q:Option Nat) (t:List UInt8) (w:World),zy w0 r q t w→Calls Tryz.prog 70 #[.pointer (some ⟨r,0,none⟩),.agg c.toArray] w (zo w0 r q t w (recO x.name x.fields))):=fun x c U q t w h=>zcj w0 hT x c U r q t w h
 have ae:Hid (∀(x:Fz) (c:List Value),Xl w0.heap.size w0 f x c→∀(q:Option Nat) (t:List UInt8) (w:World),zy w0 r q t w→Calls Tryz.prog 71 #[.pointer (some ⟨r,0,none⟩),.agg c.toArray] w (zo w0 r q t w (funO x))):=fun x c U q t w h=>qB w0 hT hl f x c U r q t w h
 obtain ⟨w1,O⟩:∃w1,w1=w.alloc (pzO b m cap b2 m2 cap2):=⟨_,rfl⟩;have ah:Below w.heap.size w w1:=by rw [O];exact (Below.refl _ w).alloc (Nat.le_refl _) _
 have p1:w1.heap[w.heap.size]?=some (pzO b m cap b2 m2 cap2):=by rw [O];exact World.alloc_heap_new w _
 have aq:w1.heap.size=w.heap.size+1:=by rw [O];simp
 have aa:Hid (zr r q w w1 q w1):=zr.start h ah;have Z:Hid (zy w0 r q t w1):=h.below ah;have ao:Hid (w1.heap[w.heap.size]?=some (pzO b m cap b2 m2 cap2)):=p1;have ar:=O.symm;obtain ⟨c0,c1⟩:=YS p1;clear h1 h2 hR hT hl h ah p1 O
 go_enter Tryz.func36,Tryz.ntmps36
 go_wp2_with fail
 go_loopw [11] (fun i wr=>∃(k:Nat) (N:Option Nat) (s:List UInt8),k≤m∧i=.int .i64 k∧zr r q w w1 N wr∧yL (rs.map fun r=>recO r.name r.fields) k=some s∧zy w0 r N (t++s) wr) (fun i _=>m-(intOf i).toNat)
 case atStart=>exact ⟨0,q,[],Nat.zero_le _,rfl,aa.out,rfl,by rw [List.append_nil];exact Z.out⟩
 case round =>
  obtain ⟨i,N,s0,hk,rfl,hL,z,y⟩:=hrel;clear aa Z c0 c1
  by_cases hlt:i<m
  ·obtain ⟨x,U⟩:∃x,rs[i]?=some x:=⟨rs[i]'(by rw [←HN.out];exact hlt),List.getElem?_eq_getElem (by rw [←HN.out];exact hlt)⟩
   obtain ⟨bb,o,s,bf,mf,cf,line,rfl,H,T,m0,m1,W⟩:=aj.out.rz i x U;have n0:=(y.env.cell (p:=⟨bb,o+i*3,none⟩) H).trans m0;have n1:=(y.env.cell (p:=⟨bb,o+i*3+1,none⟩) H).trans m1;have n2:=(y.env.cell (p:=⟨bb,o+i*3+2,none⟩) H).trans W;clear m0 m1 W;have am:(i:Int)<(m:Int):=by omega
   obtain ⟨w2,G⟩:∃w2,w2=wr.alloc (rzO s bf mf cf line):=⟨_,rfl⟩;have p2:w2.heap[wr.heap.size]?=some (rzO s bf mf cf line):=by rw [G];exact World.alloc_heap_new wr _
   have I:Below wr.heap.size wr w2:=by rw [G];exact (Below.refl _ wr).alloc (Nat.le_refl _) _
   have J:Hid (zr r q w w1 N w2):=hL.step (zT.below I);have A:((rs.map fun r=>recO r.name r.fields)[i]?).getD none=recO x.name x.fields:=by rw [List.getElem?_map,U];rfl
   have ab:Hid (recO x.name x.fields=none→R=none):=fun h9=>by
    rw [HR.out,ue _ hlt (by rw [A,h9])];rfl
   have L:Hid (∀u,recO x.name x.fields=some u→yL (rs.map fun r=>recO r.name r.fields) (i+1)=some (s0++u)):=fun u h9=>by
    rw [yL,z,A,h9];rfl
   have c:=af.out x _ T N (t++s0) w2 (y.below I);obtain ⟨c0,c1,c2⟩:=XE p2;have ak:=G.symm;clear A T hL y z aj ad af ae G p2 I U;generalize recO x.name x.fields=X at *;go_wp2_with fail
   refine c.mono ?_;clear c;rintro e w3 ⟨q3,D,hp⟩;cases X with
   | none=>subst hp;obtain rfl:=ab.out rfl;exact ⟨rfl,q3,(J.out.step D).unto,rfl⟩
   | some u =>
    obtain ⟨rfl,Y⟩:=hp;have V:Hid (∃(k':Nat) (q':Option Nat) (s':List UInt8),k'=i+1∧zr r q w w1 q' w3∧yL (rs.map fun r=>recO r.name r.fields) k'=some s'∧zy w0 r q' (t++s') w3):=⟨i+1,q3,_,rfl,J.out.step D,L.out u rfl,by rw [←List.append_assoc];exact Y⟩
    clear D Y L ab J c0 c1 c2;go_wp2
    obtain ⟨k',q',s',rfl,h1,h2,h3⟩:=V.out;exact ⟨⟨i+1,q',s',by omega,by go_num,h1,h2,h3⟩,by simp [intOf];omega⟩
  ·obtain rfl:i=m:=by omega
   have am:¬(i:Int)<(i:Int):=by omega
   obtain ⟨c0,c1⟩:=YS ((hL.block _ (Nat.le_refl _) (by omega)).trans ao.out)
   have aa:Hid (zr r q w w1 N wr):=hL;have Z:Hid (zy w0 r N (t++s0) wr):=y;have ai:Hid (R=zc (some s0) (yL (Q.map funO) m2)):=HR.out.trans (by rw [z])
   clear hL y z aj af HR;go_wp2_with fail
   go_loopw [22] (fun j wr=>∃(k:Nat) (N:Option Nat) (s:List UInt8),k≤m2∧j=.int .i64 k∧zr r q w w1 N wr∧yL (Q.map funO) k=some s∧zy w0 r N (t++s0++s) wr) (fun j _=>m2-(intOf j).toNat)
   case atStart=>exact ⟨0,N,[],Nat.zero_le _,rfl,aa.out,rfl,by rw [List.append_nil];exact Z.out⟩
   case round =>
    obtain ⟨j,q3,s1,au,rfl,hL,z,y⟩:=hrel;clear aa Z c0 c1
    by_cases hlt2:j<m2
    ·obtain ⟨x,U⟩:∃x,Q[j]?=some x:=⟨Q[j]'(by rw [←ag.out];exact hlt2),List.getElem?_eq_getElem (by rw [←ag.out];exact hlt2)⟩
     obtain ⟨bb,o,s,bf,mf,cf,u,bg,mg,cg,line,rfl,H,T,m0,m1,W,m3,m4⟩:=ad.out.fz j x U;have n0:=(y.env.cell (p:=⟨bb,o+j*5,none⟩) H).trans m0;have n1:=(y.env.cell (p:=⟨bb,o+j*5+1,none⟩) H).trans m1;have n2:=(y.env.cell (p:=⟨bb,o+j*5+2,none⟩) H).trans W;have n3:=(y.env.cell (p:=⟨bb,o+j*5+3,none⟩) H).trans m3;have n4:=(y.env.cell (p:=⟨bb,o+j*5+4,none⟩) H).trans m4;clear m0 m1 W m3 m4;have al:(j:Int)<(m2:Int):=by omega
     obtain ⟨w2,G⟩:∃w2,w2=wr.alloc (fzO s bf mf cf u bg mg cg line):=⟨_,rfl⟩;have p2:w2.heap[wr.heap.size]?=some (fzO s bf mf cf u bg mg cg line):=by rw [G];exact World.alloc_heap_new wr _
     have I:Below wr.heap.size wr w2:=by rw [G];exact (Below.refl _ wr).alloc (Nat.le_refl _) _
     have J:Hid (zr r q w w1 q3 w2):=hL.step (zT.below I);have A:((Q.map funO)[j]?).getD none=funO x:=by rw [List.getElem?_map,U];rfl
     have ab:Hid (funO x=none→R=none):=fun h9=>by
      rw [ai.out,ue _ hlt2 (by rw [A,h9])];rfl
     have L:Hid (∀u,funO x=some u→yL (Q.map funO) (j+1)=some (s1++u)):=fun u h9=>by
      rw [yL,z,A,h9];rfl
     have c:=ae.out x _ T q3 (t++s0++s1) w2 (y.below I);obtain ⟨c0,c1,c2,c3,c4⟩:=Zt p2;have ak:=G.symm;clear A T hL y z ad ae G p2 I U;generalize funO x=X at *;go_wp2_with fail
     refine c.mono ?_;clear c;rintro e w3 ⟨q4,D,hp⟩;cases X with
     | none=>subst hp;obtain rfl:=ab.out rfl;exact ⟨rfl,q4,(J.out.step D).unto,rfl⟩
     | some u9 =>
      obtain ⟨rfl,Y⟩:=hp;have V:Hid (∃(k':Nat) (q':Option Nat) (s':List UInt8),k'=j+1∧zr r q w w1 q' w3∧yL (Q.map funO) k'=some s'∧zy w0 r q' (t++s0++s') w3):=⟨j+1,q4,_,rfl,J.out.step D,L.out u9 rfl,by rw [←List.append_assoc];exact Y⟩
      clear D Y L ab J c0 c1 c2 c3 c4;go_wp2
      obtain ⟨k',q',s',rfl,h1,h2,h3⟩:=V.out;exact ⟨⟨j+1,q',s',by omega,by go_num,h1,h2,h3⟩,by simp [intOf];omega⟩
    ·obtain rfl:j=m2:=by omega
     have al:¬(j:Int)<(j:Int):=by omega
     have HP:Hid (zo w0 r q t w R (.returned (.tuple #[])) wr):=show zo _ _ _ _ _ _ _ _ by
      rw [ai.out,z];exact ⟨q3,hL.unto,rfl,by rw [←List.append_assoc];exact y⟩
     clear hL y z ad ae ai;go_wp2
     exact bodyPost_ret (v:=.tuple #[]) (by simp [results,Tryz.results36,go_sem]) rfl HP.out
theorem zfm (w0:World) (b:Option Addr) (m cap:Nat) (b2:Option Addr) (m2 cap2:Nat) (bx r:Nat) (q:Option Nat) (t:List UInt8) (R:Option (List UInt8)) (w:World) (p:w.heap[bx]?=some (pzO b m cap b2 m2 cap2))
  (cx:Calls Tryz.prog 36 #[.pointer (some ⟨r,0,none⟩),.agg #[.slice b m cap,.slice b2 m2 cap2]] w (zo w0 r q t w R)) :
  Calls Tryz.prog 35 #[.pointer (some ⟨r,0,none⟩),.pointer (some ⟨bx,0,none⟩)] w (zo w0 r q t w R):=by
 obtain ⟨D,c1⟩:=YS p;clear p
 go_enter Tryz.func35,Tryz.ntmps35
 go_wp2_with fail
 refine cx.mono ?_;clear cx;rintro e G ⟨o,h,y⟩;cases R with
 | none=>subst y;exact ⟨rfl,o,h,rfl⟩
 | some u =>
  obtain ⟨rfl,z⟩:=y;have A:Hid (zo w0 r q t w (some u) (.returned (.tuple #[])) G):=⟨o,h,rfl,z⟩;clear h z D c1;go_wp2
  exact bodyPost_ret (v:=.tuple #[]) (by simp [results,Tryz.results35,go_sem]) rfl A.out
theorem uk (f:Nat) (x:Pz) (v:Value) (w:World) (hx:xJ w.heap.size w f x v) (hT:ZE w) (hl:ZC w) (he:xp w) :
  Calls Tryz.prog 15 #[v] w fun e w'=>e=.returned (.tuple #[.string (zb (prR (vd x)).1),.int .i64 ((prR (vd x)).2:Int)])∧Below w.heap.size w w':=by
 have ab:∀(fn:Fn) (first o:Array Value) (w:World),(Instr.makeFunc fn first o).run Tryz.prog w=.ok (.func fn first o) w:=fun _ _ _ _=>rfl
 have L:=hx;obtain ⟨b,m,o,G,D,h,rfl,_,_⟩:=hx;obtain ⟨w1,y⟩:∃w1,w1=w.alloc (pzO b m o G D h):=⟨_,rfl⟩;have z:Below w.heap.size w w1:=by rw [y];exact (Below.refl _ w).alloc (Nat.le_refl _) _
 have p1:w1.heap[w.heap.size]?=some (pzO b m o G D h):=by rw [y];exact World.alloc_heap_new w _
 have ad:w1.heap.size=w.heap.size+1:=by rw [y];simp
 have O:xJ w1.heap.size w1 f x (.agg #[.slice b m o,.slice G D h]):=(L.kept z).wide (by omega)
 obtain ⟨b',m',I,U,N,A,Z,h1,Y⟩:=O
 have H:[Value.slice b m o,.slice G D h]=[.slice b' m' I,.slice U N A]:=by
  have:=congrArg (fun v=>match v with | .agg a=>a.toList | _=>[]) Z
  simpa using this
 simp only [List.cons.injEq,Value.slice.injEq,and_true] at H;obtain ⟨⟨rfl,rfl,rfl⟩,rfl,rfl,rfl⟩:=H;have T:=zaZ 35 w.heap.size (vd x) w1 (by unfold xp;rw [y];exact zl he _) (fun _ _=>rfl) fun W hWr=>zfm w1 b m o G D h w.heap.size _ none [] _ W ((hWr.env.block _ (by omega)).trans p1) (QZ w1 (hT.below z (Nat.le_refl _)) (hl.env z) f x b m o G D h h1 Y _ none [] W hWr)
 have V:Hid (Below w.heap.size w w1):=z;have aa:=y.symm;generalize prR (vd x)=R at *;clear L h1 Y Z p1 z hT hl he y;obtain ⟨u,er⟩:=R;simp only at T ⊢
 go_enter Tryz.func15,Tryz.ntmps15
 go_wp2_with fail
 refine T.mono ?_;clear T;rintro e w2 ⟨rfl,J⟩;have Q:Hid (Below w.heap.size w w2):=zp V.out J;clear J;go_wp2
 exact bodyPost_ret (v:=.tuple #[.string (zb u),.int .i64 (er:Int)]) (by simp [results,Tryz.results15,go_sem]) rfl ⟨rfl,Q.out⟩
mutual
def smS:Sz→Sz→Prop
 | .mk k s es body els _,.mk k' s' es' body' els' _=>k=k'∧s=s'∧YN es es'∧Y1 body body'∧Y1 els els'
def Y1:List Sz→List Sz→Prop
 | [],[]=>True
 | x::xs,y::ys=>smS x y∧Y1 xs ys
 | [],_::_=>False
 | _::_,[]=>False
end
theorem UT:∀{l l':List Sz},Y1 l l'→l.length=l'.length∧∀(i:Nat) (x y:Sz),l[i]?=some x→l'[i]?=some y→smS x y
 | [],[],_=>⟨rfl,fun i x y hx=>by simp at hx⟩
 | x::xs,y::ys,h=>by
  rw [Y1] at h;obtain ⟨z,o⟩:=UT h.2;refine ⟨by simp [z],fun i a b ha hb=>?_⟩
  cases i with
  | zero =>
   simp only [List.getElem?_cons_zero,Option.some.injEq] at ha hb;subst ha hb;exact h.1
  | succ i=>exact o i a b (by simpa using ha) (by simpa using hb)
 | [],_::_,h=>by rw [Y1] at h;exact h.elim
 | _::_,[],h=>by rw [Y1] at h;exact h.elim
mutual
theorem zfn:∀x:Sz,smS x x
 | .mk k s es body els line=>by rw [smS];exact ⟨rfl,rfl,UD es,um body,um els⟩
theorem um:∀l:List Sz,Y1 l l
 | []=>by rw [Y1];trivial
 | x::xs=>by rw [Y1];exact ⟨zfn x,um xs⟩
end
theorem Zr.kids {w:World} {l:List Ez} {base:Option Addr} {m cap:Nat} (h:Zr (QS w.heap.size w) 5 w.heap.size w l base m cap):Y0 w l base:=fun i x hx=>by
 obtain ⟨b,o,N,D,J,I,Q,T,R,e,-,y,z,G,H,O,A,L,-⟩:=h.ez i x hx;exact ⟨b,o,N,D,J,I,Q,T,R,e,y,z,G,H,O,A,L⟩
theorem zck {l l':List Ez} {base base':Option Addr} {m m' cap cap':Nat} {w:World} (h:Zr (QS w.heap.size w) 5 w.heap.size w l base m cap) (h':Zr (QS w.heap.size w) 5 w.heap.size w l' base' m' cap') (hs:YN l l') :
  Calls Tryz.prog 46 #[.slice base m cap,.slice base' m' cap'] w fun e w'=>e=.returned (.bool true)∧Below w.heap.size w w':=by
 obtain ⟨z,o⟩:=QR hs;have A:=h.1;have D:=h'.1;obtain rfl:m=m':=by omega
 exact VI l l' base base' m cap cap' w A D (by have:=h.2.1;have:=h.2.2.1;unfold maxLen at this;omega) h.kids h'.kids fun i x y hx hy W v u h1 h2=>Qc (dpE x) x y v u W (Nat.le_refl _) (o i x y hx hy) h1 h2
theorem Zr.at {α:Type} {P P':α→List Value→Prop} {sz:Nat} {w W:World} {l:List α} {base:Option Addr} {m cap:Nat} (h:Zr P sz w.heap.size w l base m cap) (hb:Below w.heap.size w W) (hP:∀x c,P x c→P' x c):Zr P' sz W.heap.size W l base m cap :=
 (h.kept hb hP).wide hb.size fun _ _ h=>h
theorem Zr.sz2 {B f:Nat} {w:World} {l:List Sz} {base:Option Addr} {m cap:Nat} (h:Zr (ZW B w (f+1)) 6 B w l base m cap) {i:Nat} {k:Int} {s:List UInt8} {es:List Ez} {body els:List Sz} {line:Int} (hx:l[i]?=some (.mk k s es body els line)) :
  ∃b o H A D G z L bl I J,base=some ⟨b,o,none⟩∧b<B∧Zr (QS B w) 5 B w es H A D∧Zr (ZW B w f) 6 B w body G z L∧Zr (ZW B w f) 6 B w els bl I J ∧
   w.cell? ⟨b,o+i*6,none⟩=some (.int .i64 k)∧w.cell? ⟨b,o+i*6+1,none⟩=some (.string (zb s))∧w.cell? ⟨b,o+i*6+2,none⟩=some (.slice H A D)∧w.cell? ⟨b,o+i*6+3,none⟩=some (.slice G z L)∧w.cell? ⟨b,o+i*6+4,none⟩=some (.slice bl I J)∧w.cell? ⟨b,o+i*6+5,none⟩=some (.int .i64 line):=by
 obtain ⟨b,o,c,e,U,T,V,Q,y⟩:=h.2.2.2 i _ hx;obtain ⟨H,A,D,G,z,L,bl,I,J,rfl,-,O,R,N⟩:=Q;exact ⟨b,o,H,A,D,G,z,L,bl,I,J,e,U,O,R,N,y 0 _ rfl,y 1 _ rfl,y 2 _ rfl,y 3 _ rfl,y 4 _ rfl,y 5 _ rfl⟩
theorem zdY {k k':Int} {s s':List UInt8} {es es':List Ez} {b b' e e':List Sz} {n n':Int} (h:smS (.mk k s es b e n) (.mk k' s' es' b' e' n')):k=k'∧s=s'∧YN es es'∧Y1 b b'∧Y1 e e':=by rw [smS] at h;exact h
def zfo (base base':Option Addr) (i:Nat) (W:World):Prop:=∃(b o:Nat) (k:Int) (s:List UInt8) (be:Option Addr) (me ce:Nat) (bb:Option Addr) (mb cb:Nat) (bl:Option Addr) (ml cl:Nat) (b' o':Nat) (be':Option Addr) (me' ce':Nat) (bb':Option Addr) (mb' cb':Nat) (bl':Option Addr) (ml' cl':Nat),base=some ⟨b,o,none⟩∧base'=some ⟨b',o',none⟩∧b<W.heap.size∧b'<W.heap.size ∧
 W.cell? ⟨b,o+i*6,none⟩=some (.int .i64 k)∧W.cell? ⟨b,o+i*6+1,none⟩=some (.string (zb s))∧W.cell? ⟨b,o+i*6+2,none⟩=some (.slice be me ce)∧W.cell? ⟨b,o+i*6+3,none⟩=some (.slice bb mb cb)∧W.cell? ⟨b,o+i*6+4,none⟩=some (.slice bl ml cl) ∧
 W.cell? ⟨b',o'+i*6,none⟩=some (.int .i64 k)∧W.cell? ⟨b',o'+i*6+1,none⟩=some (.string (zb s))∧W.cell? ⟨b',o'+i*6+2,none⟩=some (.slice be' me' ce')∧W.cell? ⟨b',o'+i*6+3,none⟩=some (.slice bb' mb' cb')∧W.cell? ⟨b',o'+i*6+4,none⟩=some (.slice bl' ml' cl') ∧
 Hid (∀wx,Below W.heap.size W wx→Calls Tryz.prog 46 #[.slice be me ce,.slice be' me' ce'] wx fun e w''=>e=.returned (.bool true)∧Below W.heap.size W w'') ∧
 Hid (∀wx,Below W.heap.size W wx→Calls Tryz.prog 29 #[.slice bb mb cb,.slice bb' mb' cb'] wx fun e w''=>e=.returned (.bool true)∧Below W.heap.size W w'') ∧
 Hid (∀wx,Below W.heap.size W wx→Calls Tryz.prog 29 #[.slice bl ml cl,.slice bl' ml' cl'] wx fun e w''=>e=.returned (.bool true)∧Below W.heap.size W w'')
theorem VR (base base':Option Addr) (m cap cap':Nat) (w:World) (hmx:m≤9223372036854775807) (hat:∀i,i<m→∀W,Below w.heap.size w W→zfo base base' i W) :
  Calls Tryz.prog 29 #[.slice base m cap,.slice base' m cap'] w fun e w'=>e=.returned (.bool true)∧Below w.heap.size w w':=by
 have O:Hid (∀i,i<m→∀W,Below w.heap.size w W→zfo base base' i W):=hat
 have G:Hid (Below w.heap.size w w):=Below.refl _ _;clear hat
 go_enter Tryz.func29,Tryz.ntmps29
 go_wp2
 go_loopw [5] (fun vi wr=>∃i:Nat,i≤m∧vi=.int .i64 (i:Int)∧Below w.heap.size w wr) (fun vi _=>m-(intOf vi).toNat)
 case atStart=>exact ⟨0,Nat.zero_le _,rfl,G.out⟩
 case round =>
  obtain ⟨i,hi,rfl,y⟩:=hrel;have A:Hid (Below w.heap.size w wr):=y;clear y
  by_cases hlt:i<m
  ·have I:(i:Int)<m:=by omega
   obtain ⟨b,o,k,s,be,me,ce,bb,mb,cb,bl,ml,cl,b',o',ah,ae,ad,ab,aa,ag,af,aj,ai,rfl,rfl,z,h,T,m1,V,Q,m4,R,n1,Y,U,Z,H,N,D⟩:=O.out i hlt wr A.out;have L:w.heap.size≤wr.heap.size:=A.out.size;have u0:=Zn (n:=wr.heap.size) T z;have u1:=Zn (n:=wr.heap.size) m1 z;have u2:=Zn (n:=wr.heap.size) V z;have u3:=Zn (n:=wr.heap.size) Q z;have u4:=Zn (n:=wr.heap.size) m4 z;have v0:=Zn (n:=wr.heap.size) R h;have v1:=Zn (n:=wr.heap.size) n1 h;have v2:=Zn (n:=wr.heap.size) Y h;have v3:=Zn (n:=wr.heap.size) U h;have v4:=Zn (n:=wr.heap.size) Z h;clear T m1 V Q m4 R n1 Y U Z;go_wp2_with fail
   simp only [List.append_eq,List.cons_append,List.nil_append];refine xU (n:=wr.heap.size) (w0:=wr) (Below.refl _ _) (by kernel_rfl) (by kernel_rfl) ?_
   iterate 35 (go_big_quiet_step (fail))
   go_big_quiet_step (exact Xc H.out _)
   iterate 13 (go_big_quiet_step (fail))
   go_big_quiet_step (exact Xc N.out _)
   iterate 13 (go_big_quiet_step (fail))
   go_big_quiet_step (exact Xc D.out _)
   iterate 2 (go_big_quiet_step (fail))
   refine wpQuiet_nil ?_;rintro _ ⟨c,rfl⟩;have J:Hid (Below w.heap.size w c.1):=A.out.trans (c.2.mono L);clear u0 u1 u2 u3 u4 v0 v1 v2 v3 v4;go_wp2
   exact ⟨⟨i+1,by omega,by go_num,J.out⟩,by simp [intOf];omega⟩
  ·obtain rfl:i=m:=by omega
   have I:¬ (i:Int)<i:=by omega
   go_wp2
   go_ret
   exact ⟨rfl,A.out⟩
theorem qD:∀(f:Nat) (l H:List Sz) (A z:Option Addr) (m m' G D:Nat) (w:World),Zr (ZW w.heap.size w f) 6 w.heap.size w l A m G→Zr (ZW w.heap.size w f) 6 w.heap.size w H z m' D→Y1 l H →
  Calls Tryz.prog 29 #[.slice A m G,.slice z m' D] w fun e w'=>e=.returned (.bool true)∧Below w.heap.size w w':=by
 intro f
 induction f with
 | zero =>
  intro l H A z m m' G D w h V Y;obtain ⟨N,L⟩:=UT Y;have e1:=h.1;have e2:=V.1;obtain rfl:m=m':=by omega
  refine VR A z m G D w (by have:=h.2.1;have:=h.2.2.1;unfold maxLen at this;omega) fun i hi W hW=>?_
  obtain ⟨b,o,c,e,hB,am,hc,hp,ah⟩:=h.2.2.2 i (l[i]'(by omega)) (List.getElem?_eq_getElem (by omega))
  exact hp.elim
 | succ f ih =>
  intro l H A z m m' G D w h V Y;obtain ⟨N,L⟩:=UT Y;have e1:=h.1;have e2:=V.1;obtain rfl:m=m':=by omega
  refine VR A z m G D w (by have:=h.2.1;have:=h.2.2.1;unfold maxLen at this;omega) fun i hi W hW=>?_
  have Z:l[i]?=some (l[i]'(by omega)):=List.getElem?_eq_getElem (by omega)
  have hy:H[i]?=some (H[i]'(by omega)):=List.getElem?_eq_getElem (by omega)
  have I:=L i _ _ Z hy;have ai:=h.at hW (fun x c h=>(ZW.wide hW.size (f+1) x c (ZW.kept hW (f+1) x c h):ZW W.heap.size W (f+1) x c))
  have af:=V.at hW (fun x c h=>(ZW.wide hW.size (f+1) x c (ZW.kept hW (f+1) x c h):ZW W.heap.size W (f+1) x c))
  generalize l[i]'(by omega)=x at Z I
  generalize H[i]'(by omega)=y at hy I
  obtain ⟨xk,xs,al,xb,xl,xn⟩:=x;obtain ⟨yk,ys,yes,yb,yl,yn⟩:=y;obtain ⟨rfl,rfl,ad,ab,aa⟩:=zdY I;obtain ⟨b,o,be,me,ce,bb,mb,cb,bl,ml,cl,rfl,hb,r1,r2,r3,m0,m1,m2,m3,m4,-⟩:=ai.sz2 Z;obtain ⟨b',o',aj,ag,ae,R,Q,T,J,U,O,rfl,ak,t1,t2,t3,n0,n1,n2,n3,n4,-⟩:=af.sz2 hy;refine ⟨b,o,xk,xs,be,me,ce,bb,mb,cb,bl,ml,cl,b',o',aj,ag,ae,R,Q,T,J,U,O,rfl,rfl,hb,ak,m0,m1,m2,m3,m4,n0,n1,n2,n3,n4,?_,?_,?_⟩
  ·exact fun wx hwx=>(zck (r1.at hwx fun x c h=>Zy.wide (Zy.kept h hwx) hwx.size) (t1.at hwx fun x c h=>Zy.wide (Zy.kept h hwx) hwx.size) ad).mono fun e w'' h=>⟨h.1,hwx.trans (h.2.mono hwx.size)⟩
  ·exact fun wx hwx=>(ih xb yb bb R mb Q cb T wx (r2.at hwx fun x c h=>ZW.wide hwx.size f x c (ZW.kept hwx f x c h)) (t2.at hwx fun x c h=>ZW.wide hwx.size f x c (ZW.kept hwx f x c h)) ab).mono fun e w'' h=>⟨h.1,hwx.trans (h.2.mono hwx.size)⟩
  ·exact fun wx hwx=>(ih xl yl bl J ml U cl O wx (r3.at hwx fun x c h=>ZW.wide hwx.size f x c (ZW.kept hwx f x c h)) (t3.at hwx fun x c h=>ZW.wide hwx.size f x c (ZW.kept hwx f x c h)) aa).mono fun e w'' h=>⟨h.1,hwx.trans (h.2.mono hwx.size)⟩
theorem vw (l:List (List UInt8 × List UInt8)) (base base':Option Addr) (m m' cap cap':Nat) (w:World) (h:Zr PmZ 2 w.heap.size w l base m cap) (h':Zr PmZ 2 w.heap.size w l base' m' cap') :
  Calls Tryz.prog 28 #[.slice base m cap,.slice base' m' cap'] w fun e w'=>e=.returned (.bool true)∧Below w.heap.size w w':=by
 have e1:=h.1;have e2:=h'.1;obtain rfl:m=m':=by omega
 have Y:m≤9223372036854775807:=by have:=h.2.1;have:=h.2.2.1;unfold maxLen at this;omega
 have W:Hid (∀i,i<m→∃b o z D s u,base=some ⟨b,o,none⟩∧base'=some ⟨z,D,none⟩∧b<w.heap.size∧z<w.heap.size∧w.cell? ⟨b,o+i*2,none⟩=some (.string (zb s))∧w.cell? ⟨b,o+i*2+1,none⟩=some (.string (zb u))∧w.cell? ⟨z,D+i*2,none⟩=some (.string (zb s))∧w.cell? ⟨z,D+i*2+1,none⟩=some (.string (zb u))):=fun i hi=>by
  obtain ⟨x,T⟩:∃x,l[i]?=some x:=⟨l[i]'(by omega),List.getElem?_eq_getElem (by omega)⟩
  obtain ⟨b,o,J,G,-,-,Z,c1⟩:=h.pm i x T;obtain ⟨z,D,A,H,-,-,d0,U⟩:=h'.pm i x T;exact ⟨b,o,z,D,_,_,J,A,G,H,Z,c1,d0,U⟩
 have L:Hid (Below w.heap.size w w):=Below.refl _ _;clear h h' e1 e2
 go_enter Tryz.func28,Tryz.ntmps28
 go_wp2
 go_loopw [5] (fun vi wr=>∃i:Nat,i≤m∧vi=.int .i64 (i:Int)∧Below w.heap.size w wr) (fun vi _=>m-(intOf vi).toNat)
 case atStart=>exact ⟨0,Nat.zero_le _,rfl,L.out⟩
 case round =>
  obtain ⟨i,hi,rfl,I⟩:=hrel;have y:Hid (Below w.heap.size w wr):=I;clear I
  by_cases G:i<m
  ·have N:(i:Int)<m:=by omega
   obtain ⟨b,o,z,D,s,u,rfl,rfl,J,A,O,Q,V,R⟩:=W.out i G;have U:=(y.out.cell (p:=⟨b,o+i*2,none⟩) J).trans O;have d2:=(y.out.cell (p:=⟨b,o+i*2+1,none⟩) J).trans Q;have d3:=(y.out.cell (p:=⟨z,D+i*2,none⟩) A).trans V;have d4:=(y.out.cell (p:=⟨z,D+i*2+1,none⟩) A).trans R;clear O Q V R W
   go_upto_region 6 with fail
   go_quiet (fail)
   go_wp2
   exact ⟨⟨i+1,by omega,by go_num,⟨y.out.os,y.out.tape,y.out.output,y.out.size,y.out.block⟩⟩,by simp [intOf];omega⟩
  ·obtain rfl:i=m:=by omega
   have N:¬ (i:Int)<i:=by omega
   go_wp2
   go_ret
   exact ⟨rfl,y.out⟩
structure SmP (x y:Pz):Prop where
 rl:x.recs.length=y.recs.length
 fl:x.funs.length=y.funs.length
 r:∀(i:Nat) (a b:Rz),x.recs[i]?=some a→y.recs[i]?=some b→a.name=b.name∧a.fields=b.fields
 f:∀(i:Nat) (a b:Fz),x.funs[i]?=some a→y.funs[i]?=some b→a.name=b.name∧a.result=b.result∧a.params=b.params∧Y1 a.body b.body
def zhu (base base':Option Addr) (i:Nat) (W:World):Prop:=∃(b o:Nat) (s:List UInt8) (bf:Option Addr) (mf cf:Nat) (b' o':Nat) (bf':Option Addr) (mf' cf':Nat),base=some ⟨b,o,none⟩∧base'=some ⟨b',o',none⟩∧b<W.heap.size∧b'<W.heap.size ∧
 W.cell? ⟨b,o+i*3,none⟩=some (.string (zb s))∧W.cell? ⟨b,o+i*3+1,none⟩=some (.slice bf mf cf) ∧
 W.cell? ⟨b',o'+i*3,none⟩=some (.string (zb s))∧W.cell? ⟨b',o'+i*3+1,none⟩=some (.slice bf' mf' cf') ∧
 Hid (∀wx,Below W.heap.size W wx→Calls Tryz.prog 28 #[.slice bf mf cf,.slice bf' mf' cf'] wx fun e w''=>e=.returned (.bool true)∧Below W.heap.size W w'')
theorem Qj {w W:World} {X Y:Obj} (h:W=((w.alloc X).alloc Y).drew):Below w.heap.size w W∧W.heap[w.heap.size]?=some X∧W.heap[w.heap.size+1]?=some Y∧W.heap.size=w.heap.size+2:=by
 have o:Below w.heap.size w (w.alloc X):=(Below.refl _ w).alloc (Nat.le_refl _) _;have z:Below w.heap.size w ((w.alloc X).alloc Y):=o.alloc o.size _;have A:(w.alloc X).heap.size=w.heap.size+1:=by simp
 have e:W.heap=((w.alloc X).alloc Y).heap:=by rw [h];rfl
 refine ⟨by rw [h];exact z.drew,?_,?_,by rw [e];simp⟩
 ·rw [e]
  have y:Below (w.alloc X).heap.size (w.alloc X) ((w.alloc X).alloc Y):=(Below.refl _ _).alloc (Nat.le_refl _) _;exact (y.block _ (by omega)).trans (World.alloc_heap_new w X)
 ·rw [e,←A]
  exact World.alloc_heap_new _ _
def zhv (base base':Option Addr) (i:Nat) (W:World):Prop:=∃(b o:Nat) (s:List UInt8) (bf:Option Addr) (mf cf:Nat) (u:List UInt8) (bg:Option Addr) (mg cg:Nat) (n:Int) (b' o':Nat) (bf':Option Addr) (mf' cf':Nat) (bg':Option Addr) (mg' cg':Nat) (n':Int),base=some ⟨b,o,none⟩∧base'=some ⟨b',o',none⟩∧b<W.heap.size∧b'<W.heap.size ∧
 W.cell? ⟨b,o+i*5,none⟩=some (.string (zb s))∧W.cell? ⟨b,o+i*5+1,none⟩=some (.slice bf mf cf)∧W.cell? ⟨b,o+i*5+2,none⟩=some (.string (zb u))∧W.cell? ⟨b,o+i*5+3,none⟩=some (.slice bg mg cg)∧W.cell? ⟨b,o+i*5+4,none⟩=some (.int .i64 n) ∧
 W.cell? ⟨b',o'+i*5,none⟩=some (.string (zb s))∧W.cell? ⟨b',o'+i*5+1,none⟩=some (.slice bf' mf' cf')∧W.cell? ⟨b',o'+i*5+2,none⟩=some (.string (zb u))∧W.cell? ⟨b',o'+i*5+3,none⟩=some (.slice bg' mg' cg')∧W.cell? ⟨b',o'+i*5+4,none⟩=some (.int .i64 n') ∧
 Hid (∀wx,Below W.heap.size W wx→Calls Tryz.prog 28 #[.slice bf mf cf,.slice bf' mf' cf'] wx fun e w''=>e=.returned (.bool true)∧Below wx.heap.size wx w'') ∧
 Hid (∀wx,Below W.heap.size W wx→Calls Tryz.prog 29 #[.slice bg mg cg,.slice bg' mg' cg'] wx fun e w''=>e=.returned (.bool true)∧Below wx.heap.size wx w'')
theorem UU (b b2 b' b2':Option Addr) (m cap m2 cap2 cap' cap2':Nat) (w:World) (hmx:m≤9223372036854775807) (hmx2:m2≤9223372036854775807) (hr:∀i,i<m→∀W,Below w.heap.size w W→zhu b b' i W) (hf:∀i,i<m2→∀W,Below w.heap.size w W→zhv b2 b2' i W) :
  Calls Tryz.prog 10 #[.agg #[.slice b m cap,.slice b2 m2 cap2],.agg #[.slice b' m cap',.slice b2' m2 cap2']] w fun e w'=>e=.returned (.bool true)∧Below w.heap.size w w':=by
 have an:Hid (∀i,i<m→∀W,Below w.heap.size w W→zhu b b' i W):=hr;have al:Hid (∀i,i<m2→∀W,Below w.heap.size w W→zhv b2 b2' i W):=hf;obtain ⟨w1,J⟩:∃w1,w1=w.alloc (pzO b m cap b2 m2 cap2):=⟨_,rfl⟩;have ad:w1.heap.size=w.heap.size+1:=by rw [J];simp
 have am:Below w.heap.size w w1:=by rw [J];exact (Below.refl _ w).alloc (Nat.le_refl _) _
 have p1:w1.heap[w.heap.size]?=some (pzO b m cap b2 m2 cap2):=by rw [J];exact World.alloc_heap_new w _
 obtain ⟨w2,N⟩:∃w2,w2=w1.alloc (pzO b' m cap' b2' m2 cap2'):=⟨_,rfl⟩;have aC:w2.heap.size=w.heap.size+2:=by rw [N];simp [ad]
 have U:Below w1.heap.size w1 w2:=by rw [N];exact (Below.refl _ w1).alloc (Nat.le_refl _) _
 have ai:Below w.heap.size w w2:=zp am U;have p2:w2.heap[w.heap.size]?=some (pzO b m cap b2 m2 cap2):=(U.block _ (by omega)).trans p1
 have af:w2.heap[w.heap.size+1]?=some (pzO b' m cap' b2' m2 cap2'):=by rw [N,←ad];exact World.alloc_heap_new w1 _
 have ao:Hid (Below w.heap.size w w2):=ai;have HP:Hid (w2.heap[w.heap.size]?=some (pzO b m cap b2 m2 cap2)∧w2.heap[w.heap.size+1]?=some (pzO b' m cap' b2' m2 cap2')):=⟨p2,af⟩;obtain ⟨c0,c1⟩:=YS p2;obtain ⟨d0,d1⟩:=YS af;have ax:Hid (Below w2.heap.size w2 w2):=Below.refl _ _;have aD:=J.symm;have aB:=N.symm;clear hr hf J N am ai U p1 p2 af
 go_enter Tryz.func10,Tryz.ntmps10
 go_wp2_with fail
 go_loopw [5] (fun vi wr=>∃i:Nat,i≤m∧vi=.int .i64 (i:Int)∧Below w2.heap.size w2 wr) (fun vi _=>m-(intOf vi).toNat)
 case atStart=>exact ⟨0,Nat.zero_le _,rfl,ax.out⟩
 case round =>
  obtain ⟨i,hi,rfl,y⟩:=hrel;clear c0 c1 d0 d1;obtain ⟨c0,c1⟩:=YS ((y.block _ (by omega)).trans HP.out.1)
  obtain ⟨d0,d1⟩:=YS ((y.block _ (by omega)).trans HP.out.2)
  have HB:Hid (Below w2.heap.size w2 wr):=y;have aj:w.heap.size+2≤wr.heap.size:=by have:=y.size;omega
  have Z:Hid (Below w.heap.size w wr):=zp ao.out y;clear y
  by_cases hlt:i<m
  ·have ar:(i:Int)<m:=by omega
   obtain ⟨bb,o,s,bf,mf,cf,aw,o',O,L,V,rfl,rfl,hb,ah,m0,m1,n0,n1,HC⟩:=an.out i hlt wr Z.out;have ak:w2.heap.size≤wr.heap.size:=HB.out.size;have u0:=Zn (n:=wr.heap.size) m0 hb;have u1:=Zn (n:=wr.heap.size) m1 hb;have v0:=Zn (n:=wr.heap.size) n0 ah;have v1:=Zn (n:=wr.heap.size) n1 ah;have x0:=Zn (n:=wr.heap.size) c0 (show w.heap.size<wr.heap.size by omega)
   have y0:=Zn (n:=wr.heap.size) d0 (show w.heap.size+1<wr.heap.size by omega)
   clear m0 m1 n0 n1;go_wp2_with fail
   refine xU (n:=wr.heap.size) (w0:=wr) (Below.refl _ _) (by kernel_rfl) (by kernel_rfl) ?_
   iterate 26 (go_big_quiet_step (fail))
   go_big_quiet_step (exact Xc HC.out _)
   iterate 2 (go_big_quiet_step (fail))
   refine wpQuiet_nil ?_;rintro _ ⟨c,rfl⟩;have az:Hid (Below w2.heap.size w2 c.1):=HB.out.trans (c.2.mono ak);clear u0 u1 v0 v1 x0 y0 c0 c1 d0 d1;go_wp2
   exact ⟨⟨i+1,by omega,by go_num,az.out⟩,by simp [intOf];omega⟩
  ·obtain rfl:i=m:=by omega
   have ar:¬ (i:Int)<i:=by omega
   clear an;go_wp2_with fail
   go_loopw [6] (fun vi wr=>∃j:Nat,j≤m2∧vi=.int .i64 (j:Int)∧Below w2.heap.size w2 wr) (fun vi _=>m2-(intOf vi).toNat)
   case atStart=>exact ⟨0,Nat.zero_le _,rfl,HB.out⟩
   case round =>
    obtain ⟨j,hj,rfl,y⟩:=hrel;clear c0 c1 d0 d1 HB Z aj;obtain ⟨c0,c1⟩:=YS ((y.block _ (by omega)).trans HP.out.1)
    obtain ⟨d0,d1⟩:=YS ((y.block _ (by omega)).trans HP.out.2)
    have HB:Hid (Below w2.heap.size w2 wr):=y;have aj:w.heap.size+2≤wr.heap.size:=by have:=y.size;omega
    have Z:Hid (Below w.heap.size w wr):=zp ao.out y;clear y
    by_cases hlt2:j<m2
    ·have aq:(j:Int)<m2:=by omega
     obtain ⟨bb,o,s,bf,mf,cf,u,bg,mg,cg,n,aw,o',O,L,V,G,H,I,n',rfl,rfl,hb,ah,m0,m1,ag,m3,m4,n0,n1,n2,n3,n4,aa,ab⟩:=al.out j hlt2 wr Z.out;have ak:w2.heap.size≤wr.heap.size:=HB.out.size;have A0:=fun ob=>zl c1 ob
     have B0:=fun ob ob'=>zl (zl c1 ob) ob'
     have A1:=fun ob=>zl d1 ob
     have B1:=fun ob ob'=>zl (zl d1 ob) ob'
     have A2:=fun ob=>zl m0 ob
     have B2:=fun ob ob'=>zl (zl m0 ob) ob'
     have A3:=fun ob=>zl m1 ob
     have B3:=fun ob ob'=>zl (zl m1 ob) ob'
     have A4:=fun ob=>zl ag ob
     have B4:=fun ob ob'=>zl (zl ag ob) ob'
     have A5:=fun ob=>zl m3 ob
     have B5:=fun ob ob'=>zl (zl m3 ob) ob'
     have A6:=fun ob=>zl m4 ob
     have B6:=fun ob ob'=>zl (zl m4 ob) ob'
     have A7:=fun ob=>zl n0 ob
     have B7:=fun ob ob'=>zl (zl n0 ob) ob'
     have A8:=fun ob=>zl n1 ob
     have B8:=fun ob ob'=>zl (zl n1 ob) ob'
     have A9:=fun ob=>zl n2 ob
     have B9:=fun ob ob'=>zl (zl n2 ob) ob'
     have ay:=fun ob=>zl n3 ob
     have aA:=fun ob ob'=>zl (zl n3 ob) ob'
     have au:=fun ob=>zl n4 ob
     have av:=fun ob ob'=>zl (zl n4 ob) ob'
     clear al
     go_upto_region 11 with fail
     go_region
     all_goals clear c0 c1 d0 d1 m0 m1 ag m3 m4 n0 n1 n2 n3 n4 A0 A1 A2 A3 A4 A5 A6 A7 A8 A9 ay au B0 B1 B2 B3 B4 B5 B6 B7 B8 B9 aA av
     ·obtain ⟨W,hW⟩:∃W,W=((wr.alloc (fzO s bf mf cf u bg mg cg n)).alloc (fzO s O L V u G H I n')).drew:=⟨_,rfl⟩
      rw [←hW];obtain ⟨A,q0,q1,ap⟩:=Qj hW;obtain ⟨e0,e1,e2,e3,e4⟩:=Zt q0;obtain ⟨g0,g1,g2,g3,g4⟩:=Zt q1;have Y:=aa.out W A;have D:Hid (∀wx,Below W.heap.size W wx→Calls Tryz.prog 29 #[.slice bg mg cg,.slice G H I] wx fun e w''=>e=.returned (.bool true)∧Below wx.heap.size wx w''):=fun wx h=>ab.out wx (zp A h)
      have HQ:Hid (W.heap[wr.heap.size]?=some (fzO s bf mf cf u bg mg cg n)∧W.heap[wr.heap.size+1]?=some (fzO s O L V u G H I n')):=⟨q0,q1⟩;have Q:Hid (Below w2.heap.size w2 W):=zp HB.out A;clear hW A q0 q1 aa ab;go_wp2_with fail
      refine Y.mono ?_;clear Y e0 e1 e2 e3 e4 g0 g1 g2 g3 g4;rintro e w3 ⟨rfl,z⟩;obtain ⟨e0,e1,e2,e3,e4⟩:=Zt ((z.block _ (by omega)).trans HQ.out.1)
      obtain ⟨g0,g1,g2,g3,g4⟩:=Zt ((z.block _ (by omega)).trans HQ.out.2)
      have Y:=D.out w3 z;have T:Hid (Below w2.heap.size w2 w3):=zp Q.out z;clear z D HQ Q;go_wp2_with fail
      refine Y.mono ?_;clear Y e0 e1 e2 e3 e4 g0 g1 g2 g3 g4;rintro e w4 ⟨rfl,R⟩;have ae:Hid (Below w2.heap.size w2 w4):=zp T.out R;clear R T;go_wp2
      exact ⟨⟨j+1,by omega,by go_num,ae.out⟩,by simp [intOf];omega⟩
     ·obtain ⟨W,hW⟩:∃W,W=((wr.alloc (fzO s O L V u G H I n')).alloc (fzO s bf mf cf u bg mg cg n)).drew:=⟨_,rfl⟩
      rw [←hW];obtain ⟨A,q0,q1,ap⟩:=Qj hW;obtain ⟨e0,e1,e2,e3,e4⟩:=Zt q0;obtain ⟨g0,g1,g2,g3,g4⟩:=Zt q1;have Y:=aa.out W A;have D:Hid (∀wx,Below W.heap.size W wx→Calls Tryz.prog 29 #[.slice bg mg cg,.slice G H I] wx fun e w''=>e=.returned (.bool true)∧Below wx.heap.size wx w''):=fun wx h=>ab.out wx (zp A h)
      have HQ:Hid (W.heap[wr.heap.size]?=some (fzO s O L V u G H I n')∧W.heap[wr.heap.size+1]?=some (fzO s bf mf cf u bg mg cg n)):=⟨q0,q1⟩;have Q:Hid (Below w2.heap.size w2 W):=zp HB.out A;clear hW A q0 q1 aa ab;go_wp2_with fail
      refine Y.mono ?_;clear Y e0 e1 e2 e3 e4 g0 g1 g2 g3 g4;rintro e w3 ⟨rfl,z⟩;obtain ⟨e0,e1,e2,e3,e4⟩:=Zt ((z.block _ (by omega)).trans HQ.out.1)
      obtain ⟨g0,g1,g2,g3,g4⟩:=Zt ((z.block _ (by omega)).trans HQ.out.2)
      have Y:=D.out w3 z;have T:Hid (Below w2.heap.size w2 w3):=zp Q.out z;clear z D HQ Q;go_wp2_with fail
      refine Y.mono ?_;clear Y e0 e1 e2 e3 e4 g0 g1 g2 g3 g4;rintro e w4 ⟨rfl,R⟩;have ae:Hid (Below w2.heap.size w2 w4):=zp T.out R;clear R T;go_wp2
      exact ⟨⟨j+1,by omega,by go_num,ae.out⟩,by simp [intOf];omega⟩
    ·obtain rfl:j=m2:=by omega
     have aq:¬ (j:Int)<j:=by omega
     go_wp2
     go_ret
     exact ⟨rfl,Z.out⟩
end Go.Proofs.YtpejpbbdgblbeaaGreatDoor
