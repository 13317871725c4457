import Derived.Test.YtpejpbbdgblbeaaGreatDoorMC34
import Derived.Test.YtpejpbbdgblbeaaGreatDoorMC45
namespace Go.Proofs.YtpejpbbdgblbeaaGreatDoor
open Go.RowKit Go.Shelf
set_option maxHeartbeats 16000000
set_option maxRecDepth 100000
abbrev pzO (b:Option Addr) (m cap:Nat) (b2:Option Addr) (m2 cap2:Nat):Obj:=.cells #[.slice b m cap,.slice b2 m2 cap2] 25
theorem YS {w:World} {N:Nat} {b:Option Addr} {m cap:Nat} {b2:Option Addr} {m2 cap2:Nat} (p:w.heap[N]?=some (pzO b m cap b2 m2 cap2)):w.cell? ⟨N,0,none⟩=some (.slice b m cap)∧w.cell? ⟨N,1,none⟩=some (.slice b2 m2 cap2):=by
 refine ⟨?_,?_⟩ <;> (simp only [World.cell?,p];rfl)
theorem Zr.rz {B:Nat} {w:World} {l:List Rz} {base:Option Addr} {m cap:Nat} (h:Zr (Xk B w) 3 B w l base m cap):∀i x,l[i]?=some x→∃b o s H D G line,base=some ⟨b,o,none⟩∧b<B∧Xk B w x [.string (zb s),.slice H D G,.int .i64 line] ∧
   w.cell? ⟨b,o+i*3,none⟩=some (.string (zb s))∧w.cell? ⟨b,o+i*3+1,none⟩=some (.slice H D G)∧w.cell? ⟨b,o+i*3+2,none⟩=some (.int .i64 line):=by
 intro i x N;obtain ⟨b,o,c,J,I,O,L,z,y⟩:=h.2.2.2 i x N;have A:=z;obtain ⟨H,D,G,rfl,_⟩:=A;exact ⟨b,o,_,H,D,G,_,J,I,z,y 0 _ rfl,y 1 _ rfl,y 2 _ rfl⟩
theorem Zr.fz {B f:Nat} {w:World} {l:List Fz} {base:Option Addr} {m cap:Nat} (h:Zr (Xl B w f) 5 B w l base m cap):∀i x,l[i]?=some x→∃b o s L D G u H I J line,base=some ⟨b,o,none⟩∧b<B∧Xl B w f x [.string (zb s),.slice L D G,.string (zb u),.slice H I J,.int .i64 line] ∧
   w.cell? ⟨b,o+i*5,none⟩=some (.string (zb s))∧w.cell? ⟨b,o+i*5+1,none⟩=some (.slice L D G)∧w.cell? ⟨b,o+i*5+2,none⟩=some (.string (zb u))∧w.cell? ⟨b,o+i*5+3,none⟩=some (.slice H I J)∧w.cell? ⟨b,o+i*5+4,none⟩=some (.int .i64 line):=by
 intro i x R;obtain ⟨b,o,c,O,N,T,Q,A,y⟩:=h.2.2.2 i x R;have z:=A;obtain ⟨L,D,G,H,I,J,rfl,_⟩:=z;exact ⟨b,o,_,L,D,G,_,H,I,J,_,O,N,A,y 0 _ rfl,y 1 _ rfl,y 2 _ rfl,y 3 _ rfl,y 4 _ rfl⟩
theorem zcj (w0:World) (hT:ZE w0) (x:Rz) (c:List Value) (hx:Xk w0.heap.size w0 x c) (r:Nat) (q:Option Nat) (t:List UInt8) (w:World) (h:zy w0 r q t w) :
  Calls Tryz.prog 70 #[.pointer (some ⟨r,0,none⟩),.agg c.toArray] w (zo w0 r q t w (recO x.name x.fields)):=by
 obtain ⟨b,m,y,rfl,z,o⟩:=hx;exact zaZ w0 hT x.name x.fields b m y r x.line q t w h z o.1 o.2.1 o.2.2.1 o.pm
theorem QZ (w0:World) (hT:ZE w0) (hl:ZC w0) (f:Nat) (x:Pz) (b:Option Addr) (m cap:Nat) (b2:Option Addr) (m2 cap2:Nat) (h1:Zr (Xk w0.heap.size w0) 3 w0.heap.size w0 x.recs b m cap) (h2:Zr (Xl w0.heap.size w0 f) 5 w0.heap.size w0 x.funs b2 m2 cap2) (r:Nat) (q:Option Nat) (t:List UInt8) (w:World) (h:zy w0 r q t w) :
  Calls Tryz.prog 36 #[.pointer (some ⟨r,0,none⟩),.agg #[.slice b m cap,.slice b2 m2 cap2]] w (zo w0 r q t w (vd x)):=by
 obtain ⟨rs,Q⟩:=x;have HN:Hid (m=rs.length):=h1.1;have ag:Hid (m2=Q.length):=h2.1;have ap:m≤9223372036854775807:=by have h3:=h1.1;have h4:=h1.2.1;have h5:=h1.2.2.1;unfold maxLen at h5;simp only at h3 h4;omega
 have an:m2≤9223372036854775807:=by have h3:=h2.1;have h4:=h2.2.1;have h5:=h2.2.2.1;unfold maxLen at h5;simp only at h3 h4;omega
 obtain ⟨R,hR⟩:∃R,R=vd ⟨rs,Q⟩:=⟨_,rfl⟩;rw [←hR];have HR:Hid (R=zc (yL (rs.map fun r=>recO r.name r.fields) m) (yL (Q.map funO) m2)):=show _=_ by rw [hR,HN.out,ag.out];rfl
 have ah:Hid (Zr (Xk w0.heap.size w0) 3 w0.heap.size w0 rs b m cap):=h1;have ad:Hid (Zr (Xl w0.heap.size w0 f) 5 w0.heap.size w0 Q b2 m2 cap2):=h2;have af:Hid (∀(x:Rz) (c:List Value),Xk w0.heap.size w0 x c→∀(q:Option Nat) (t:List UInt8) (w:World),zy w0 r q t w→Calls Tryz.prog 70 #[.pointer (some ⟨r,0,none⟩),.agg c.toArray] w (zo w0 r q t w (recO x.name x.fields))):=fun x c U q t w h=>zcj w0 hT x c U r q t w h
 have ae:Hid (∀(x:Fz) (c:List Value),Xl w0.heap.size w0 f x c→∀(q:Option Nat) (t:List UInt8) (w:World),zy w0 r q t w→Calls Tryz.prog 71 #[.pointer (some ⟨r,0,none⟩),.agg c.toArray] w (zo w0 r q t w (funO x))):=fun x c U q t w h=>qB w0 hT hl f x c U r q t w h
 obtain ⟨w1,ab⟩:∃w1,w1=w.alloc (pzO b m cap b2 m2 cap2):=⟨_,rfl⟩;have aj:Below w.heap.size w w1:=by rw [ab];exact (Below.refl _ w).alloc (Nat.le_refl _) _
 have p1:w1.heap[w.heap.size]?=some (pzO b m cap b2 m2 cap2):=by rw [ab];exact World.alloc_heap_new w _
 have aq:w1.heap.size=w.heap.size+1:=by rw [ab];simp
 have L:Hid (zr r q w w1 q w1):=zr.start h aj;have Y:Hid (zy w0 r q t w1):=h.below aj;have ao:Hid (w1.heap[w.heap.size]?=some (pzO b m cap b2 m2 cap2)):=p1;have ar:=ab.symm;obtain ⟨c0,c1⟩:=YS p1;clear h1 h2 hR hT hl h aj p1 ab
 go_enter Tryz.func36,Tryz.ntmps36
 go_wp2_with fail
 go_loopw [11] (fun i wr=>∃(k:Nat) (V:Option Nat) (s:List UInt8),k≤m∧i=.int .i64 k∧zr r q w w1 V wr∧yL (rs.map fun r=>recO r.name r.fields) k=some s∧zy w0 r V (t++s) wr) (fun i _=>m-(intOf i).toNat)
 case atStart=>exact ⟨0,q,[],Nat.zero_le _,rfl,L.out,rfl,by rw [List.append_nil];exact Y.out⟩
 case round =>
  obtain ⟨i,V,s0,hk,rfl,hL,z,y⟩:=hrel;clear L Y c0 c1
  by_cases hlt:i<m
  ·obtain ⟨x,U⟩:∃x,rs[i]?=some x:=⟨rs[i]'(by rw [←HN.out];exact hlt),List.getElem?_eq_getElem (by rw [←HN.out];exact hlt)⟩
   obtain ⟨bb,o,s,bf,mf,cf,line,rfl,H,O,m0,m1,W⟩:=ah.out.rz i x U;have n0:=(y.env.cell (p:=⟨bb,o+i*3,none⟩) H).trans m0;have n1:=(y.env.cell (p:=⟨bb,o+i*3+1,none⟩) H).trans m1;have n2:=(y.env.cell (p:=⟨bb,o+i*3+2,none⟩) H).trans W;clear m0 m1 W;have al:(i:Int)<(m:Int):=by omega
   obtain ⟨w2,G⟩:∃w2,w2=wr.alloc (rzO s bf mf cf line):=⟨_,rfl⟩;have p2:w2.heap[wr.heap.size]?=some (rzO s bf mf cf line):=by rw [G];exact World.alloc_heap_new wr _
   have I:Below wr.heap.size wr w2:=by rw [G];exact (Below.refl _ wr).alloc (Nat.le_refl _) _
   have J:Hid (zr r q w w1 V w2):=hL.step (zT.below I);have D:((rs.map fun r=>recO r.name r.fields)[i]?).getD none=recO x.name x.fields:=by rw [List.getElem?_map,U];rfl
   have Z:Hid (recO x.name x.fields=none→R=none):=fun h9=>by
    rw [HR.out,ud _ hlt (by rw [D,h9])];rfl
   have N:Hid (∀u,recO x.name x.fields=some u→yL (rs.map fun r=>recO r.name r.fields) (i+1)=some (s0++u)):=fun u h9=>by
    rw [yL,z,D,h9];rfl
   have c:=af.out x _ O V (t++s0) w2 (y.below I);obtain ⟨c0,c1,c2⟩:=XE p2;have ak:=G.symm;clear D O hL y z ah ad af ae G p2 I U;generalize recO x.name x.fields=X at *;go_wp2_with fail
   refine c.mono ?_;clear c;rintro e w3 ⟨q3,A,hp⟩;cases X with
   | none=>subst hp;obtain rfl:=Z.out rfl;exact ⟨rfl,q3,(J.out.step A).unto,rfl⟩
   | some u =>
    obtain ⟨rfl,T⟩:=hp;have aa:Hid (∃(k':Nat) (q':Option Nat) (s':List UInt8),k'=i+1∧zr r q w w1 q' w3∧yL (rs.map fun r=>recO r.name r.fields) k'=some s'∧zy w0 r q' (t++s') w3):=⟨i+1,q3,_,rfl,J.out.step A,N.out u rfl,by rw [←List.append_assoc];exact T⟩
    clear A T N Z J c0 c1 c2;go_wp2
    obtain ⟨k',q',s',rfl,h1,h2,h3⟩:=aa.out;exact ⟨⟨i+1,q',s',by omega,by go_num,h1,h2,h3⟩,by simp [intOf];omega⟩
  ·obtain rfl:i=m:=by omega
   have al:¬(i:Int)<(i:Int):=by omega
   obtain ⟨c0,c1⟩:=YS ((hL.block _ (Nat.le_refl _) (by omega)).trans ao.out)
   have L:Hid (zr r q w w1 V wr):=hL;have Y:Hid (zy w0 r V (t++s0) wr):=y;have ai:Hid (R=zc (some s0) (yL (Q.map funO) m2)):=HR.out.trans (by rw [z])
   clear hL y z ah af HR;go_wp2_with fail
   go_loopw [22] (fun j wr=>∃(k:Nat) (V:Option Nat) (s:List UInt8),k≤m2∧j=.int .i64 k∧zr r q w w1 V wr∧yL (Q.map funO) k=some s∧zy w0 r V (t++s0++s) wr) (fun j _=>m2-(intOf j).toNat)
   case atStart=>exact ⟨0,V,[],Nat.zero_le _,rfl,L.out,rfl,by rw [List.append_nil];exact Y.out⟩
   case round =>
    obtain ⟨j,q3,s1,au,rfl,hL,z,y⟩:=hrel;clear L Y c0 c1
    by_cases hlt2:j<m2
    ·obtain ⟨x,U⟩:∃x,Q[j]?=some x:=⟨Q[j]'(by rw [←ag.out];exact hlt2),List.getElem?_eq_getElem (by rw [←ag.out];exact hlt2)⟩
     obtain ⟨bb,o,s,bf,mf,cf,u,bg,mg,cg,line,rfl,H,O,m0,m1,W,m3,m4⟩:=ad.out.fz j x U;have n0:=(y.env.cell (p:=⟨bb,o+j*5,none⟩) H).trans m0;have n1:=(y.env.cell (p:=⟨bb,o+j*5+1,none⟩) H).trans m1;have n2:=(y.env.cell (p:=⟨bb,o+j*5+2,none⟩) H).trans W;have n3:=(y.env.cell (p:=⟨bb,o+j*5+3,none⟩) H).trans m3;have n4:=(y.env.cell (p:=⟨bb,o+j*5+4,none⟩) H).trans m4;clear m0 m1 W m3 m4;have am:(j:Int)<(m2:Int):=by omega
     obtain ⟨w2,G⟩:∃w2,w2=wr.alloc (fzO s bf mf cf u bg mg cg line):=⟨_,rfl⟩;have p2:w2.heap[wr.heap.size]?=some (fzO s bf mf cf u bg mg cg line):=by rw [G];exact World.alloc_heap_new wr _
     have I:Below wr.heap.size wr w2:=by rw [G];exact (Below.refl _ wr).alloc (Nat.le_refl _) _
     have J:Hid (zr r q w w1 q3 w2):=hL.step (zT.below I);have D:((Q.map funO)[j]?).getD none=funO x:=by rw [List.getElem?_map,U];rfl
     have Z:Hid (funO x=none→R=none):=fun h9=>by
      rw [ai.out,ud _ hlt2 (by rw [D,h9])];rfl
     have N:Hid (∀u,funO x=some u→yL (Q.map funO) (j+1)=some (s1++u)):=fun u h9=>by
      rw [yL,z,D,h9];rfl
     have c:=ae.out x _ O q3 (t++s0++s1) w2 (y.below I);obtain ⟨c0,c1,c2,c3,c4⟩:=Zt p2;have ak:=G.symm;clear D O hL y z ad ae G p2 I U;generalize funO x=X at *;go_wp2_with fail
     refine c.mono ?_;clear c;rintro e w3 ⟨q4,A,hp⟩;cases X with
     | none=>subst hp;obtain rfl:=Z.out rfl;exact ⟨rfl,q4,(J.out.step A).unto,rfl⟩
     | some u9 =>
      obtain ⟨rfl,T⟩:=hp;have aa:Hid (∃(k':Nat) (q':Option Nat) (s':List UInt8),k'=j+1∧zr r q w w1 q' w3∧yL (Q.map funO) k'=some s'∧zy w0 r q' (t++s0++s') w3):=⟨j+1,q4,_,rfl,J.out.step A,N.out u9 rfl,by rw [←List.append_assoc];exact T⟩
      clear A T N Z J c0 c1 c2 c3 c4;go_wp2
      obtain ⟨k',q',s',rfl,h1,h2,h3⟩:=aa.out;exact ⟨⟨j+1,q',s',by omega,by go_num,h1,h2,h3⟩,by simp [intOf];omega⟩
    ·obtain rfl:j=m2:=by omega
     have am:¬(j:Int)<(j:Int):=by omega
     have HP:Hid (zo w0 r q t w R (.returned (.tuple #[])) wr):=show zo _ _ _ _ _ _ _ _ by
      rw [ai.out,z];exact ⟨q3,hL.unto,rfl,by rw [←List.append_assoc];exact y⟩
     clear hL y z ad ae ai;go_wp2
     exact bodyPost_ret (v:=.tuple #[]) (by simp [results,Tryz.results36,go_sem]) rfl HP.out
theorem zfm (w0:World) (b:Option Addr) (m cap:Nat) (b2:Option Addr) (m2 cap2:Nat) (bx r:Nat) (q:Option Nat) (t:List UInt8) (R:Option (List UInt8)) (w:World) (p:w.heap[bx]?=some (pzO b m cap b2 m2 cap2))
  (cx:Calls Tryz.prog 36 #[.pointer (some ⟨r,0,none⟩),.agg #[.slice b m cap,.slice b2 m2 cap2]] w (zo w0 r q t w R)) :
  Calls Tryz.prog 35 #[.pointer (some ⟨r,0,none⟩),.pointer (some ⟨bx,0,none⟩)] w (zo w0 r q t w R):=by
 obtain ⟨D,c1⟩:=YS p;clear p
 go_enter Tryz.func35,Tryz.ntmps35
 go_wp2_with fail
 refine cx.mono ?_;clear cx;rintro e A ⟨z,h,y⟩;cases R with
 | none=>subst y;exact ⟨rfl,z,h,rfl⟩
 | some u =>
  obtain ⟨rfl,o⟩:=y;have G:Hid (zo w0 r q t w (some u) (.returned (.tuple #[])) A):=⟨z,h,rfl,o⟩;clear h o D c1;go_wp2
  exact bodyPost_ret (v:=.tuple #[]) (by simp [results,Tryz.results35,go_sem]) rfl G.out
theorem uj (f:Nat) (x:Pz) (v:Value) (w:World) (hx:xJ w.heap.size w f x v) (hT:ZE w) (hl:ZC w) (he:xp w) :
  Calls Tryz.prog 15 #[v] w fun e w'=>e=.returned (.tuple #[.string (zb (prR (vd x)).1),.int .i64 ((prR (vd x)).2:Int)])∧Below w.heap.size w w':=by
 have aa:∀(fn:Fn) (first o:Array Value) (w:World),(Instr.makeFunc fn first o).run Tryz.prog w=.ok (.func fn first o) w:=fun _ _ _ _=>rfl
 have H:=hx;obtain ⟨b,m,o,D,G,h,rfl,_,_⟩:=hx;obtain ⟨w1,y⟩:∃w1,w1=w.alloc (pzO b m o D G h):=⟨_,rfl⟩;have z:Below w.heap.size w w1:=by rw [y];exact (Below.refl _ w).alloc (Nat.le_refl _) _
 have p1:w1.heap[w.heap.size]?=some (pzO b m o D G h):=by rw [y];exact World.alloc_heap_new w _
 have ab:w1.heap.size=w.heap.size+1:=by rw [y];simp
 have U:xJ w1.heap.size w1 f x (.agg #[.slice b m o,.slice D G h]):=(H.kept z).wide (by omega)
 obtain ⟨b',m',L,V,T,A,Y,h1,h2⟩:=U
 have I:[Value.slice b m o,.slice D G h]=[.slice b' m' L,.slice V T A]:=by
  have:=congrArg (fun v=>match v with | .agg a=>a.toList | _=>[]) Y
  simpa using this
 simp only [List.cons.injEq,Value.slice.injEq,and_true] at I;obtain ⟨⟨rfl,rfl,rfl⟩,rfl,rfl,rfl⟩:=I;have O:=zaX 35 w.heap.size (vd x) w1 (by unfold xp;rw [y];exact zl he _) (fun _ _=>rfl) fun W hWr=>zfm w1 b m o D G h w.heap.size _ none [] _ W ((hWr.env.block _ (by omega)).trans p1) (QZ w1 (hT.below z (Nat.le_refl _)) (hl.env z) f x b m o D G h h1 h2 _ none [] W hWr)
 have Q:Hid (Below w.heap.size w w1):=z;have Z:=y.symm;generalize prR (vd x)=R at *;clear H h1 h2 Y p1 z hT hl he y;obtain ⟨u,er⟩:=R;simp only at O ⊢
 go_enter Tryz.func15,Tryz.ntmps15
 go_wp2_with fail
 refine O.mono ?_;clear O;rintro e w2 ⟨rfl,J⟩;have N:Hid (Below w.heap.size w w2):=zp Q.out J;clear J;go_wp2
 exact bodyPost_ret (v:=.tuple #[.string (zb u),.int .i64 (er:Int)]) (by simp [results,Tryz.results15,go_sem]) rfl ⟨rfl,N.out⟩
mutual
def smS:Sz→Sz→Prop
 | .mk k s es body els _,.mk k' s' es' body' els' _=>k=k'∧s=s'∧YN es es'∧Y1 body body'∧Y1 els els'
def Y1:List Sz→List Sz→Prop
 | [],[]=>True
 | x::xs,y::ys=>smS x y∧Y1 xs ys
 | [],_::_=>False
 | _::_,[]=>False
end
theorem US:∀{l l':List Sz},Y1 l l'→l.length=l'.length∧∀(i:Nat) (x y:Sz),l[i]?=some x→l'[i]?=some y→smS x y
 | [],[],_=>⟨rfl,fun i x y hx=>by simp at hx⟩
 | x::xs,y::ys,h=>by
  rw [Y1] at h;obtain ⟨z,o⟩:=US h.2;refine ⟨by simp [z],fun i a b ha hb=>?_⟩
  cases i with
  | zero =>
   simp only [List.getElem?_cons_zero,Option.some.injEq] at ha hb;subst ha hb;exact h.1
  | succ i=>exact o i a b (by simpa using ha) (by simpa using hb)
 | [],_::_,h=>by rw [Y1] at h;exact h.elim
 | _::_,[],h=>by rw [Y1] at h;exact h.elim
mutual
theorem zfn:∀x:Sz,smS x x
 | .mk k s es body els line=>by rw [smS];exact ⟨rfl,rfl,UC es,uk body,uk els⟩
theorem uk:∀l:List Sz,Y1 l l
 | []=>by rw [Y1];trivial
 | x::xs=>by rw [Y1];exact ⟨zfn x,uk xs⟩
end
theorem Zr.kids {w:World} {l:List Ez} {base:Option Addr} {m cap:Nat} (h:Zr (QR w.heap.size w) 5 w.heap.size w l base m cap):Y0 w l base:=fun i x hx=>by
 obtain ⟨b,o,A,L,R,N,I,H,D,e,-,z,y,G,J,T,O,Q,-⟩:=h.ez i x hx;exact ⟨b,o,A,L,R,N,I,H,D,e,z,y,G,J,T,O,Q⟩
theorem zck {l l':List Ez} {base base':Option Addr} {m m' cap cap':Nat} {w:World} (h:Zr (QR w.heap.size w) 5 w.heap.size w l base m cap) (h':Zr (QR w.heap.size w) 5 w.heap.size w l' base' m' cap') (hs:YN l l') :
  Calls Tryz.prog 46 #[.slice base m cap,.slice base' m' cap'] w fun e w'=>e=.returned (.bool true)∧Below w.heap.size w w':=by
 obtain ⟨z,o⟩:=QQ hs;have D:=h.1;have A:=h'.1;obtain rfl:m=m':=by omega
 exact VH l l' base base' m cap cap' w D A (by have:=h.2.1;have:=h.2.2.1;unfold maxLen at this;omega) h.kids h'.kids fun i x y hx hy W v u h1 h2=>Qc (dpE x) x y v u W (Nat.le_refl _) (o i x y hx hy) h1 h2
theorem Zr.at {α:Type} {P P':α→List Value→Prop} {sz:Nat} {w W:World} {l:List α} {base:Option Addr} {m cap:Nat} (h:Zr P sz w.heap.size w l base m cap) (hb:Below w.heap.size w W) (hP:∀x c,P x c→P' x c):Zr P' sz W.heap.size W l base m cap :=
 (h.kept hb hP).wide hb.size fun _ _ h=>h
theorem Zr.sz2 {B f:Nat} {w:World} {l:List Sz} {base:Option Addr} {m cap:Nat} (h:Zr (ZW B w (f+1)) 6 B w l base m cap) {i:Nat} {k:Int} {s:List UInt8} {es:List Ez} {body els:List Sz} {line:Int} (hx:l[i]?=some (.mk k s es body els line)) :
  ∃b o H D L A J z bl I G,base=some ⟨b,o,none⟩∧b<B∧Zr (QR B w) 5 B w es H D L∧Zr (ZW B w f) 6 B w body A J z∧Zr (ZW B w f) 6 B w els bl I G ∧
   w.cell? ⟨b,o+i*6,none⟩=some (.int .i64 k)∧w.cell? ⟨b,o+i*6+1,none⟩=some (.string (zb s))∧w.cell? ⟨b,o+i*6+2,none⟩=some (.slice H D L)∧w.cell? ⟨b,o+i*6+3,none⟩=some (.slice A J z)∧w.cell? ⟨b,o+i*6+4,none⟩=some (.slice bl I G)∧w.cell? ⟨b,o+i*6+5,none⟩=some (.int .i64 line):=by
 obtain ⟨b,o,c,e,N,U,V,T,y⟩:=h.2.2.2 i _ hx;obtain ⟨H,D,L,A,J,z,bl,I,G,rfl,-,R,Q,O⟩:=T;exact ⟨b,o,H,D,L,A,J,z,bl,I,G,e,N,R,Q,O,y 0 _ rfl,y 1 _ rfl,y 2 _ rfl,y 3 _ rfl,y 4 _ rfl,y 5 _ rfl⟩
theorem zdY {k k':Int} {s s':List UInt8} {es es':List Ez} {b b' e e':List Sz} {n n':Int} (h:smS (.mk k s es b e n) (.mk k' s' es' b' e' n')):k=k'∧s=s'∧YN es es'∧Y1 b b'∧Y1 e e':=by rw [smS] at h;exact h
def zfo (base base':Option Addr) (i:Nat) (W:World):Prop:=∃(b o:Nat) (k:Int) (s:List UInt8) (be:Option Addr) (me ce:Nat) (bb:Option Addr) (mb cb:Nat) (bl:Option Addr) (ml cl:Nat) (b' o':Nat) (be':Option Addr) (me' ce':Nat) (bb':Option Addr) (mb' cb':Nat) (bl':Option Addr) (ml' cl':Nat),base=some ⟨b,o,none⟩∧base'=some ⟨b',o',none⟩∧b<W.heap.size∧b'<W.heap.size ∧
 W.cell? ⟨b,o+i*6,none⟩=some (.int .i64 k)∧W.cell? ⟨b,o+i*6+1,none⟩=some (.string (zb s))∧W.cell? ⟨b,o+i*6+2,none⟩=some (.slice be me ce)∧W.cell? ⟨b,o+i*6+3,none⟩=some (.slice bb mb cb)∧W.cell? ⟨b,o+i*6+4,none⟩=some (.slice bl ml cl) ∧
 W.cell? ⟨b',o'+i*6,none⟩=some (.int .i64 k)∧W.cell? ⟨b',o'+i*6+1,none⟩=some (.string (zb s))∧W.cell? ⟨b',o'+i*6+2,none⟩=some (.slice be' me' ce')∧W.cell? ⟨b',o'+i*6+3,none⟩=some (.slice bb' mb' cb')∧W.cell? ⟨b',o'+i*6+4,none⟩=some (.slice bl' ml' cl') ∧
 Hid (∀wx,Below W.heap.size W wx→Calls Tryz.prog 46 #[.slice be me ce,.slice be' me' ce'] wx fun e w''=>e=.returned (.bool true)∧Below W.heap.size W w'') ∧
 Hid (∀wx,Below W.heap.size W wx→Calls Tryz.prog 29 #[.slice bb mb cb,.slice bb' mb' cb'] wx fun e w''=>e=.returned (.bool true)∧Below W.heap.size W w'') ∧
 Hid (∀wx,Below W.heap.size W wx→Calls Tryz.prog 29 #[.slice bl ml cl,.slice bl' ml' cl'] wx fun e w''=>e=.returned (.bool true)∧Below W.heap.size W w'')
theorem VQ (base base':Option Addr) (m cap cap':Nat) (w:World) (hmx:m≤9223372036854775807) (hat:∀i,i<m→∀W,Below w.heap.size w W→zfo base base' i W) :
  Calls Tryz.prog 29 #[.slice base m cap,.slice base' m cap'] w fun e w'=>e=.returned (.bool true)∧Below w.heap.size w w':=by
 have D:Hid (∀i,i<m→∀W,Below w.heap.size w W→zfo base base' i W):=hat
 have H:Hid (Below w.heap.size w w):=Below.refl _ _;clear hat
 go_enter Tryz.func29,Tryz.ntmps29
 go_wp2
 go_loopw [5] (fun vi wr=>∃i:Nat,i≤m∧vi=.int .i64 (i:Int)∧Below w.heap.size w wr) (fun vi _=>m-(intOf vi).toNat)
 case atStart=>exact ⟨0,Nat.zero_le _,rfl,H.out⟩
 case round =>
  obtain ⟨i,hi,rfl,z⟩:=hrel;have A:Hid (Below w.heap.size w wr):=z;clear z
  by_cases hlt:i<m
  ·have O:(i:Int)<m:=by omega
   obtain ⟨b,o,k,s,be,me,ce,bb,mb,cb,bl,ml,cl,b',o',ag,ae,af,aj,ai,aa,ab,ah,ad,rfl,rfl,y,h,R,T,m2,V,Y,Z,U,n2,Q,n4,J,L,G⟩:=D.out i hlt wr A.out;have N:w.heap.size≤wr.heap.size:=A.out.size;have u0:=Zn (n:=wr.heap.size) R y;have u1:=Zn (n:=wr.heap.size) T y;have u2:=Zn (n:=wr.heap.size) m2 y;have u3:=Zn (n:=wr.heap.size) V y;have u4:=Zn (n:=wr.heap.size) Y y;have v0:=Zn (n:=wr.heap.size) Z h;have v1:=Zn (n:=wr.heap.size) U h;have v2:=Zn (n:=wr.heap.size) n2 h;have v3:=Zn (n:=wr.heap.size) Q h;have v4:=Zn (n:=wr.heap.size) n4 h;clear R T m2 V Y Z U n2 Q n4;go_wp2_with fail
   simp only [List.append_eq,List.cons_append,List.nil_append];refine xU (n:=wr.heap.size) (w0:=wr) (Below.refl _ _) (by kernel_rfl) (by kernel_rfl) ?_
   iterate 35 (go_big_quiet_step (fail))
   go_big_quiet_step (exact Xc J.out _)
   iterate 13 (go_big_quiet_step (fail))
   go_big_quiet_step (exact Xc L.out _)
   iterate 13 (go_big_quiet_step (fail))
   go_big_quiet_step (exact Xc G.out _)
   iterate 2 (go_big_quiet_step (fail))
   refine wpQuiet_nil ?_;rintro _ ⟨c,rfl⟩;have I:Hid (Below w.heap.size w c.1):=A.out.trans (c.2.mono N);clear u0 u1 u2 u3 u4 v0 v1 v2 v3 v4;go_wp2
   exact ⟨⟨i+1,by omega,by go_num,I.out⟩,by simp [intOf];omega⟩
  ·obtain rfl:i=m:=by omega
   have O:¬ (i:Int)<i:=by omega
   go_wp2
   go_ret
   exact ⟨rfl,A.out⟩
theorem qD:∀(f:Nat) (l I:List Sz) (A z:Option Addr) (m m' G D:Nat) (w:World),Zr (ZW w.heap.size w f) 6 w.heap.size w l A m G→Zr (ZW w.heap.size w f) 6 w.heap.size w I z m' D→Y1 l I →
  Calls Tryz.prog 29 #[.slice A m G,.slice z m' D] w fun e w'=>e=.returned (.bool true)∧Below w.heap.size w w':=by
 intro f
 induction f with
 | zero =>
  intro l I A z m m' G D w h V hs;obtain ⟨O,J⟩:=US hs;have e1:=h.1;have e2:=V.1;obtain rfl:m=m':=by omega
  refine VQ A z m G D w (by have:=h.2.1;have:=h.2.2.1;unfold maxLen at this;omega) fun i hi W hW=>?_
  obtain ⟨b,o,c,e,hB,ak,hc,hp,Y⟩:=h.2.2.2 i (l[i]'(by omega)) (List.getElem?_eq_getElem (by omega))
  exact hp.elim
 | succ f ih =>
  intro l I A z m m' G D w h V hs;obtain ⟨O,J⟩:=US hs;have e1:=h.1;have e2:=V.1;obtain rfl:m=m':=by omega
  refine VQ A z m G D w (by have:=h.2.1;have:=h.2.2.1;unfold maxLen at this;omega) fun i hi W hW=>?_
  have hx:l[i]?=some (l[i]'(by omega)):=List.getElem?_eq_getElem (by omega)
  have Z:I[i]?=some (I[i]'(by omega)):=List.getElem?_eq_getElem (by omega)
  have H:=J i _ _ hx Z;have ah:=h.at hW (fun x c h=>(ZW.wide hW.size (f+1) x c (ZW.kept hW (f+1) x c h):ZW W.heap.size W (f+1) x c))
  have ab:=V.at hW (fun x c h=>(ZW.wide hW.size (f+1) x c (ZW.kept hW (f+1) x c h):ZW W.heap.size W (f+1) x c))
  generalize l[i]'(by omega)=x at hx H
  generalize I[i]'(by omega)=y at Z H
  obtain ⟨xk,xs,al,xb,xl,xn⟩:=x;obtain ⟨yk,ys,yes,yb,yl,yn⟩:=y;obtain ⟨rfl,rfl,ae,ag,aj⟩:=zdY H;obtain ⟨b,o,be,me,ce,bb,mb,cb,bl,ml,cl,rfl,hb,r1,r2,r3,m0,m1,m2,m3,m4,-⟩:=ah.sz2 hx;obtain ⟨b',o',ad,aa,af,U,T,L,N,R,Q,rfl,ai,t1,t2,t3,n0,n1,n2,n3,n4,-⟩:=ab.sz2 Z;refine ⟨b,o,xk,xs,be,me,ce,bb,mb,cb,bl,ml,cl,b',o',ad,aa,af,U,T,L,N,R,Q,rfl,rfl,hb,ai,m0,m1,m2,m3,m4,n0,n1,n2,n3,n4,?_,?_,?_⟩
  ·exact fun wx hwx=>(zck (r1.at hwx fun x c h=>Zy.wide (Zy.kept h hwx) hwx.size) (t1.at hwx fun x c h=>Zy.wide (Zy.kept h hwx) hwx.size) ae).mono fun e w'' h=>⟨h.1,hwx.trans (h.2.mono hwx.size)⟩
  ·exact fun wx hwx=>(ih xb yb bb U mb T cb L wx (r2.at hwx fun x c h=>ZW.wide hwx.size f x c (ZW.kept hwx f x c h)) (t2.at hwx fun x c h=>ZW.wide hwx.size f x c (ZW.kept hwx f x c h)) ag).mono fun e w'' h=>⟨h.1,hwx.trans (h.2.mono hwx.size)⟩
  ·exact fun wx hwx=>(ih xl yl bl N ml R cl Q wx (r3.at hwx fun x c h=>ZW.wide hwx.size f x c (ZW.kept hwx f x c h)) (t3.at hwx fun x c h=>ZW.wide hwx.size f x c (ZW.kept hwx f x c h)) aj).mono fun e w'' h=>⟨h.1,hwx.trans (h.2.mono hwx.size)⟩
theorem vw (l:List (List UInt8 × List UInt8)) (base base':Option Addr) (m m' cap cap':Nat) (w:World) (h:Zr PmZ 2 w.heap.size w l base m cap) (h':Zr PmZ 2 w.heap.size w l base' m' cap') :
  Calls Tryz.prog 28 #[.slice base m cap,.slice base' m' cap'] w fun e w'=>e=.returned (.bool true)∧Below w.heap.size w w':=by
 have Y:=h.1;have e2:=h'.1;obtain rfl:m=m':=by omega
 have aa:m≤9223372036854775807:=by have:=h.2.1;have:=h.2.2.1;unfold maxLen at this;omega
 have W:Hid (∀i,i<m→∃b o A D s u,base=some ⟨b,o,none⟩∧base'=some ⟨A,D,none⟩∧b<w.heap.size∧A<w.heap.size∧w.cell? ⟨b,o+i*2,none⟩=some (.string (zb s))∧w.cell? ⟨b,o+i*2+1,none⟩=some (.string (zb u))∧w.cell? ⟨A,D+i*2,none⟩=some (.string (zb s))∧w.cell? ⟨A,D+i*2+1,none⟩=some (.string (zb u))):=fun i Z=>by
  obtain ⟨x,U⟩:∃x,l[i]?=some x:=⟨l[i]'(by omega),List.getElem?_eq_getElem (by omega)⟩
  obtain ⟨b,o,J,G,-,-,c0,c1⟩:=h.pm i x U;obtain ⟨A,D,z,H,-,-,d0,R⟩:=h'.pm i x U;exact ⟨b,o,A,D,_,_,J,z,G,H,c0,c1,d0,R⟩
 have L:Hid (Below w.heap.size w w):=Below.refl _ _;clear h h' Y e2
 go_enter Tryz.func28,Tryz.ntmps28
 go_wp2
 go_loopw [5] (fun vi wr=>∃i:Nat,i≤m∧vi=.int .i64 (i:Int)∧Below w.heap.size w wr) (fun vi _=>m-(intOf vi).toNat)
 case atStart=>exact ⟨0,Nat.zero_le _,rfl,L.out⟩
 case round =>
  obtain ⟨i,Z,rfl,I⟩:=hrel;have y:Hid (Below w.heap.size w wr):=I;clear I
  by_cases G:i<m
  ·have N:(i:Int)<m:=by omega
   obtain ⟨b,o,A,D,s,u,rfl,rfl,J,z,T,V,Q,O⟩:=W.out i G;have R:=(y.out.cell (p:=⟨b,o+i*2,none⟩) J).trans T;have d2:=(y.out.cell (p:=⟨b,o+i*2+1,none⟩) J).trans V;have d3:=(y.out.cell (p:=⟨A,D+i*2,none⟩) z).trans Q;have d4:=(y.out.cell (p:=⟨A,D+i*2+1,none⟩) z).trans O;clear T V Q O W
   go_upto_region 6 with fail
   go_quiet (fail)
   go_wp2
   exact ⟨⟨i+1,by omega,by go_num,⟨y.out.os,y.out.tape,y.out.output,y.out.size,y.out.block⟩⟩,by simp [intOf];omega⟩
  ·obtain rfl:i=m:=by omega
   have N:¬ (i:Int)<i:=by omega
   go_wp2
   go_ret
   exact ⟨rfl,y.out⟩
structure SmP (x y:Pz):Prop where
 rl:x.recs.length=y.recs.length
 fl:x.funs.length=y.funs.length
 r:∀(i:Nat) (a b:Rz),x.recs[i]?=some a→y.recs[i]?=some b→a.name=b.name∧a.fields=b.fields
 f:∀(i:Nat) (a b:Fz),x.funs[i]?=some a→y.funs[i]?=some b→a.name=b.name∧a.result=b.result∧a.params=b.params∧Y1 a.body b.body
def zhu (base base':Option Addr) (i:Nat) (W:World):Prop:=∃(b o:Nat) (s:List UInt8) (bf:Option Addr) (mf cf:Nat) (b' o':Nat) (bf':Option Addr) (mf' cf':Nat),base=some ⟨b,o,none⟩∧base'=some ⟨b',o',none⟩∧b<W.heap.size∧b'<W.heap.size ∧
 W.cell? ⟨b,o+i*3,none⟩=some (.string (zb s))∧W.cell? ⟨b,o+i*3+1,none⟩=some (.slice bf mf cf) ∧
 W.cell? ⟨b',o'+i*3,none⟩=some (.string (zb s))∧W.cell? ⟨b',o'+i*3+1,none⟩=some (.slice bf' mf' cf') ∧
 Hid (∀wx,Below W.heap.size W wx→Calls Tryz.prog 28 #[.slice bf mf cf,.slice bf' mf' cf'] wx fun e w''=>e=.returned (.bool true)∧Below W.heap.size W w'')
theorem Qj {w W:World} {X Y:Obj} (h:W=((w.alloc X).alloc Y).drew):Below w.heap.size w W∧W.heap[w.heap.size]?=some X∧W.heap[w.heap.size+1]?=some Y∧W.heap.size=w.heap.size+2:=by
 have o:Below w.heap.size w (w.alloc X):=(Below.refl _ w).alloc (Nat.le_refl _) _;have y:Below w.heap.size w ((w.alloc X).alloc Y):=o.alloc o.size _;have A:(w.alloc X).heap.size=w.heap.size+1:=by simp
 have e:W.heap=((w.alloc X).alloc Y).heap:=by rw [h];rfl
 refine ⟨by rw [h];exact y.drew,?_,?_,by rw [e];simp⟩
 ·rw [e]
  have z:Below (w.alloc X).heap.size (w.alloc X) ((w.alloc X).alloc Y):=(Below.refl _ _).alloc (Nat.le_refl _) _;exact (z.block _ (by omega)).trans (World.alloc_heap_new w X)
 ·rw [e,←A]
  exact World.alloc_heap_new _ _
def zhv (base base':Option Addr) (i:Nat) (W:World):Prop:=∃(b o:Nat) (s:List UInt8) (bf:Option Addr) (mf cf:Nat) (u:List UInt8) (bg:Option Addr) (mg cg:Nat) (n:Int) (b' o':Nat) (bf':Option Addr) (mf' cf':Nat) (bg':Option Addr) (mg' cg':Nat) (n':Int),base=some ⟨b,o,none⟩∧base'=some ⟨b',o',none⟩∧b<W.heap.size∧b'<W.heap.size ∧
 W.cell? ⟨b,o+i*5,none⟩=some (.string (zb s))∧W.cell? ⟨b,o+i*5+1,none⟩=some (.slice bf mf cf)∧W.cell? ⟨b,o+i*5+2,none⟩=some (.string (zb u))∧W.cell? ⟨b,o+i*5+3,none⟩=some (.slice bg mg cg)∧W.cell? ⟨b,o+i*5+4,none⟩=some (.int .i64 n) ∧
 W.cell? ⟨b',o'+i*5,none⟩=some (.string (zb s))∧W.cell? ⟨b',o'+i*5+1,none⟩=some (.slice bf' mf' cf')∧W.cell? ⟨b',o'+i*5+2,none⟩=some (.string (zb u))∧W.cell? ⟨b',o'+i*5+3,none⟩=some (.slice bg' mg' cg')∧W.cell? ⟨b',o'+i*5+4,none⟩=some (.int .i64 n') ∧
 Hid (∀wx,Below W.heap.size W wx→Calls Tryz.prog 28 #[.slice bf mf cf,.slice bf' mf' cf'] wx fun e w''=>e=.returned (.bool true)∧Below wx.heap.size wx w'') ∧
 Hid (∀wx,Below W.heap.size W wx→Calls Tryz.prog 29 #[.slice bg mg cg,.slice bg' mg' cg'] wx fun e w''=>e=.returned (.bool true)∧Below wx.heap.size wx w'')
theorem UT (b b2 b' b2':Option Addr) (m cap m2 cap2 cap' cap2':Nat) (w:World) (hmx:m≤9223372036854775807) (hmx2:m2≤9223372036854775807) (hr:∀i,i<m→∀W,Below w.heap.size w W→zhu b b' i W) (hf:∀i,i<m2→∀W,Below w.heap.size w W→zhv b2 b2' i W) :
  Calls Tryz.prog 10 #[.agg #[.slice b m cap,.slice b2 m2 cap2],.agg #[.slice b' m cap',.slice b2' m2 cap2']] w fun e w'=>e=.returned (.bool true)∧Below w.heap.size w w':=by
 have am:Hid (∀i,i<m→∀W,Below w.heap.size w W→zhu b b' i W):=hr;have al:Hid (∀i,i<m2→∀W,Below w.heap.size w W→zhv b2 b2' i W):=hf;obtain ⟨w1,R⟩:∃w1,w1=w.alloc (pzO b m cap b2 m2 cap2):=⟨_,rfl⟩;have ad:w1.heap.size=w.heap.size+1:=by rw [R];simp
 have an:Below w.heap.size w w1:=by rw [R];exact (Below.refl _ w).alloc (Nat.le_refl _) _
 have p1:w1.heap[w.heap.size]?=some (pzO b m cap b2 m2 cap2):=by rw [R];exact World.alloc_heap_new w _
 obtain ⟨w2,J⟩:∃w2,w2=w1.alloc (pzO b' m cap' b2' m2 cap2'):=⟨_,rfl⟩;have aC:w2.heap.size=w.heap.size+2:=by rw [J];simp [ad]
 have O:Below w1.heap.size w1 w2:=by rw [J];exact (Below.refl _ w1).alloc (Nat.le_refl _) _
 have aj:Below w.heap.size w w2:=zp an O;have p2:w2.heap[w.heap.size]?=some (pzO b m cap b2 m2 cap2):=(O.block _ (by omega)).trans p1
 have ag:w2.heap[w.heap.size+1]?=some (pzO b' m cap' b2' m2 cap2'):=by rw [J,←ad];exact World.alloc_heap_new w1 _
 have ai:Hid (Below w.heap.size w w2):=aj;have HP:Hid (w2.heap[w.heap.size]?=some (pzO b m cap b2 m2 cap2)∧w2.heap[w.heap.size+1]?=some (pzO b' m cap' b2' m2 cap2')):=⟨p2,ag⟩;obtain ⟨c0,c1⟩:=YS p2;obtain ⟨d0,d1⟩:=YS ag;have ax:Hid (Below w2.heap.size w2 w2):=Below.refl _ _;have aD:=R.symm;have aB:=J.symm;clear hr hf R J an aj O p1 p2 ag
 go_enter Tryz.func10,Tryz.ntmps10
 go_wp2_with fail
 go_loopw [5] (fun vi wr=>∃i:Nat,i≤m∧vi=.int .i64 (i:Int)∧Below w2.heap.size w2 wr) (fun vi _=>m-(intOf vi).toNat)
 case atStart=>exact ⟨0,Nat.zero_le _,rfl,ax.out⟩
 case round =>
  obtain ⟨i,hi,rfl,y⟩:=hrel;clear c0 c1 d0 d1;obtain ⟨c0,c1⟩:=YS ((y.block _ (by omega)).trans HP.out.1)
  obtain ⟨d0,d1⟩:=YS ((y.block _ (by omega)).trans HP.out.2)
  have HB:Hid (Below w2.heap.size w2 wr):=y;have ak:w.heap.size+2≤wr.heap.size:=by have:=y.size;omega
  have U:Hid (Below w.heap.size w wr):=zp ai.out y;clear y
  by_cases hlt:i<m
  ·have av:(i:Int)<m:=by omega
   obtain ⟨bb,o,s,bf,mf,cf,aA,o',Q,T,N,rfl,rfl,hb,ah,m0,m1,n0,n1,HC⟩:=am.out i hlt wr U.out;have ao:w2.heap.size≤wr.heap.size:=HB.out.size;have u0:=Zn (n:=wr.heap.size) m0 hb;have u1:=Zn (n:=wr.heap.size) m1 hb;have v0:=Zn (n:=wr.heap.size) n0 ah;have v1:=Zn (n:=wr.heap.size) n1 ah;have x0:=Zn (n:=wr.heap.size) c0 (show w.heap.size<wr.heap.size by omega)
   have y0:=Zn (n:=wr.heap.size) d0 (show w.heap.size+1<wr.heap.size by omega)
   clear m0 m1 n0 n1;go_wp2_with fail
   refine xU (n:=wr.heap.size) (w0:=wr) (Below.refl _ _) (by kernel_rfl) (by kernel_rfl) ?_
   iterate 26 (go_big_quiet_step (fail))
   go_big_quiet_step (exact Xc HC.out _)
   iterate 2 (go_big_quiet_step (fail))
   refine wpQuiet_nil ?_;rintro _ ⟨c,rfl⟩;have ar:Hid (Below w2.heap.size w2 c.1):=HB.out.trans (c.2.mono ao);clear u0 u1 v0 v1 x0 y0 c0 c1 d0 d1;go_wp2
   exact ⟨⟨i+1,by omega,by go_num,ar.out⟩,by simp [intOf];omega⟩
  ·obtain rfl:i=m:=by omega
   have av:¬ (i:Int)<i:=by omega
   clear am;go_wp2_with fail
   go_loopw [6] (fun vi wr=>∃j:Nat,j≤m2∧vi=.int .i64 (j:Int)∧Below w2.heap.size w2 wr) (fun vi _=>m2-(intOf vi).toNat)
   case atStart=>exact ⟨0,Nat.zero_le _,rfl,HB.out⟩
   case round =>
    obtain ⟨j,hj,rfl,y⟩:=hrel;clear c0 c1 d0 d1 HB U ak;obtain ⟨c0,c1⟩:=YS ((y.block _ (by omega)).trans HP.out.1)
    obtain ⟨d0,d1⟩:=YS ((y.block _ (by omega)).trans HP.out.2)
    have HB:Hid (Below w2.heap.size w2 wr):=y;have ak:w.heap.size+2≤wr.heap.size:=by have:=y.size;omega
    have U:Hid (Below w.heap.size w wr):=zp ai.out y;clear y
    by_cases hlt2:j<m2
    ·have au:(j:Int)<m2:=by omega
     obtain ⟨bb,o,s,bf,mf,cf,u,bg,mg,cg,n,aA,o',Q,T,N,H,G,I,n',rfl,rfl,hb,ah,m0,m1,af,m3,m4,n0,n1,n2,n3,n4,ab,aa⟩:=al.out j hlt2 wr U.out;have ao:w2.heap.size≤wr.heap.size:=HB.out.size;have A0:=fun ob=>zl c1 ob
     have B0:=fun ob ob'=>zl (zl c1 ob) ob'
     have A1:=fun ob=>zl d1 ob
     have B1:=fun ob ob'=>zl (zl d1 ob) ob'
     have A2:=fun ob=>zl m0 ob
     have B2:=fun ob ob'=>zl (zl m0 ob) ob'
     have A3:=fun ob=>zl m1 ob
     have B3:=fun ob ob'=>zl (zl m1 ob) ob'
     have A4:=fun ob=>zl af ob
     have B4:=fun ob ob'=>zl (zl af ob) ob'
     have A5:=fun ob=>zl m3 ob
     have B5:=fun ob ob'=>zl (zl m3 ob) ob'
     have A6:=fun ob=>zl m4 ob
     have B6:=fun ob ob'=>zl (zl m4 ob) ob'
     have A7:=fun ob=>zl n0 ob
     have B7:=fun ob ob'=>zl (zl n0 ob) ob'
     have A8:=fun ob=>zl n1 ob
     have B8:=fun ob ob'=>zl (zl n1 ob) ob'
     have A9:=fun ob=>zl n2 ob
     have B9:=fun ob ob'=>zl (zl n2 ob) ob'
     have az:=fun ob=>zl n3 ob
     have ap:=fun ob ob'=>zl (zl n3 ob) ob'
     have ay:=fun ob=>zl n4 ob
     have aq:=fun ob ob'=>zl (zl n4 ob) ob'
     clear al
     go_upto_region 11 with fail
     go_region
     all_goals clear c0 c1 d0 d1 m0 m1 af m3 m4 n0 n1 n2 n3 n4 A0 A1 A2 A3 A4 A5 A6 A7 A8 A9 az ay B0 B1 B2 B3 B4 B5 B6 B7 B8 B9 ap aq
     ·obtain ⟨W,hW⟩:∃W,W=((wr.alloc (fzO s bf mf cf u bg mg cg n)).alloc (fzO s Q T N u H G I n')).drew:=⟨_,rfl⟩
      rw [←hW];obtain ⟨A,q0,q1,aw⟩:=Qj hW;obtain ⟨e0,e1,e2,e3,e4⟩:=Zt q0;obtain ⟨g0,g1,g2,g3,g4⟩:=Zt q1;have V:=ab.out W A;have D:Hid (∀wx,Below W.heap.size W wx→Calls Tryz.prog 29 #[.slice bg mg cg,.slice H G I] wx fun e w''=>e=.returned (.bool true)∧Below wx.heap.size wx w''):=fun wx h=>aa.out wx (zp A h)
      have HQ:Hid (W.heap[wr.heap.size]?=some (fzO s bf mf cf u bg mg cg n)∧W.heap[wr.heap.size+1]?=some (fzO s Q T N u H G I n')):=⟨q0,q1⟩;have Z:Hid (Below w2.heap.size w2 W):=zp HB.out A;clear hW A q0 q1 ab aa;go_wp2_with fail
      refine V.mono ?_;clear V e0 e1 e2 e3 e4 g0 g1 g2 g3 g4;rintro e w3 ⟨rfl,z⟩;obtain ⟨e0,e1,e2,e3,e4⟩:=Zt ((z.block _ (by omega)).trans HQ.out.1)
      obtain ⟨g0,g1,g2,g3,g4⟩:=Zt ((z.block _ (by omega)).trans HQ.out.2)
      have V:=D.out w3 z;have Y:Hid (Below w2.heap.size w2 w3):=zp Z.out z;clear z D HQ Z;go_wp2_with fail
      refine V.mono ?_;clear V e0 e1 e2 e3 e4 g0 g1 g2 g3 g4;rintro e w4 ⟨rfl,L⟩;have ae:Hid (Below w2.heap.size w2 w4):=zp Y.out L;clear L Y;go_wp2
      exact ⟨⟨j+1,by omega,by go_num,ae.out⟩,by simp [intOf];omega⟩
     ·obtain ⟨W,hW⟩:∃W,W=((wr.alloc (fzO s Q T N u H G I n')).alloc (fzO s bf mf cf u bg mg cg n)).drew:=⟨_,rfl⟩
      rw [←hW];obtain ⟨A,q0,q1,aw⟩:=Qj hW;obtain ⟨e0,e1,e2,e3,e4⟩:=Zt q0;obtain ⟨g0,g1,g2,g3,g4⟩:=Zt q1;have V:=ab.out W A;have D:Hid (∀wx,Below W.heap.size W wx→Calls Tryz.prog 29 #[.slice bg mg cg,.slice H G I] wx fun e w''=>e=.returned (.bool true)∧Below wx.heap.size wx w''):=fun wx h=>aa.out wx (zp A h)
      have HQ:Hid (W.heap[wr.heap.size]?=some (fzO s Q T N u H G I n')∧W.heap[wr.heap.size+1]?=some (fzO s bf mf cf u bg mg cg n)):=⟨q0,q1⟩;have Z:Hid (Below w2.heap.size w2 W):=zp HB.out A;clear hW A q0 q1 ab aa;go_wp2_with fail
      refine V.mono ?_;clear V e0 e1 e2 e3 e4 g0 g1 g2 g3 g4;rintro e w3 ⟨rfl,z⟩;obtain ⟨e0,e1,e2,e3,e4⟩:=Zt ((z.block _ (by omega)).trans HQ.out.1)
      obtain ⟨g0,g1,g2,g3,g4⟩:=Zt ((z.block _ (by omega)).trans HQ.out.2)
      have V:=D.out w3 z;have Y:Hid (Below w2.heap.size w2 w3):=zp Z.out z;clear z D HQ Z;go_wp2_with fail
      refine V.mono ?_;clear V e0 e1 e2 e3 e4 g0 g1 g2 g3 g4;rintro e w4 ⟨rfl,L⟩;have ae:Hid (Below w2.heap.size w2 w4):=zp Y.out L;clear L Y;go_wp2
      exact ⟨⟨j+1,by omega,by go_num,ae.out⟩,by simp [intOf];omega⟩
    ·obtain rfl:j=m2:=by omega
     have au:¬ (j:Int)<j:=by omega
     go_wp2
     go_ret
     exact ⟨rfl,U.out⟩
end Go.Proofs.YtpejpbbdgblbeaaGreatDoor
