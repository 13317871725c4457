import Derived.Test.YtcphojjpapgblaaGreatDoorMC31
import Derived.Test.YtcphojjpapgblaaGreatDoorMC28
import Derived.Test.YtcphojjpapgblaaGreatDoorMC5
import Derived.LaidHandle
import Derived.Test.YtcphojjpapgblaaGreatDoorMC41
import Derived.Test.YtcphojjpapgblaaGreatDoorMC6
namespace Go.Proofs.YtcphojjpapgblaaGreatDoor
open Go.RowKit Go.Shelf
set_option maxHeartbeats 16000000
set_option maxRecDepth 100000
abbrev VV (b:Option Addr) (m cap:Nat) (b2:Option Addr) (m2 cap2:Nat):Obj:=.cells #[.slice b m cap,.slice b2 m2 cap2] 25
theorem yE {w:World} {N:Nat} {b:Option Addr} {m cap:Nat} {b2:Option Addr} {m2 cap2:Nat} (p:w.heap[N]?=some (VV b m cap b2 m2 cap2)):w.cell? ⟨N,0,none⟩=some (.slice b m cap)∧w.cell? ⟨N,1,none⟩=some (.slice b2 m2 cap2):=by
 refine ⟨?_,?_⟩ <;> (simp only [World.cell?,p];rfl)
theorem Zj.rz {B:Nat} {w:World} {l:List Rz} {base:Option Addr} {m cap:Nat} (h:Zj (xD B w) 3 B w l base m cap):∀i x,l[i]?=some x→∃b o s G H D line,base=some ⟨b,o,none⟩∧b<B∧xD B w x [.string (zb s),.slice G H D,.int .i64 line] ∧
   w.cell? ⟨b,o+i*3,none⟩=some (.string (zb s))∧w.cell? ⟨b,o+i*3+1,none⟩=some (.slice G H D)∧w.cell? ⟨b,o+i*3+2,none⟩=some (.int .i64 line):=by
 intro i x N;obtain ⟨b,o,c,J,I,O,L,A,y⟩:=h.2.2.2 i x N;have z:=A;obtain ⟨G,H,D,rfl,_⟩:=z;exact ⟨b,o,_,G,H,D,_,J,I,A,y 0 _ rfl,y 1 _ rfl,y 2 _ rfl⟩
theorem Zj.fz {B f:Nat} {w:World} {l:List Fz} {base:Option Addr} {m cap:Nat} (h:Zj (xE B w f) 5 B w l base m cap):∀i x,l[i]?=some x→∃b o s H L D u I J G line,base=some ⟨b,o,none⟩∧b<B∧xE B w f x [.string (zb s),.slice H L D,.string (zb u),.slice I J G,.int .i64 line] ∧
   w.cell? ⟨b,o+i*5,none⟩=some (.string (zb s))∧w.cell? ⟨b,o+i*5+1,none⟩=some (.slice H L D)∧w.cell? ⟨b,o+i*5+2,none⟩=some (.string (zb u))∧w.cell? ⟨b,o+i*5+3,none⟩=some (.slice I J G)∧w.cell? ⟨b,o+i*5+4,none⟩=some (.int .i64 line):=by
 intro i x R;obtain ⟨b,o,c,N,O,T,Q,A,y⟩:=h.2.2.2 i x R;have z:=A;obtain ⟨H,L,D,I,J,G,rfl,_⟩:=z;exact ⟨b,o,_,H,L,D,_,I,J,G,_,N,O,A,y 0 _ rfl,y 1 _ rfl,y 2 _ rfl,y 3 _ rfl,y 4 _ rfl⟩
theorem zcP (w0:World) (hT:ZC w0) (x:Rz) (c:List Value) (hx:xD w0.heap.size w0 x c) (r:Nat) (q:Option Nat) (t:List UInt8) (w:World) (h:zy w0 r q t w) :
  Calls Tryz.prog 68 #[.pointer (some ⟨r,0,none⟩),.agg c.toArray] w (zn w0 r q t w (recO x.name x.fields)):=by
 obtain ⟨b,m,y,rfl,z,o⟩:=hx;exact zbd w0 hT x.name x.fields b m y r x.line q t w h z o.1 o.2.1 o.2.2.1 o.pm
theorem zaq (w0:World) (hT:ZC w0) (hl:ZA w0) (f:Nat) (x:Pz) (b:Option Addr) (m cap:Nat) (b2:Option Addr) (m2 cap2:Nat) (h1:Zj (xD w0.heap.size w0) 3 w0.heap.size w0 x.recs b m cap) (h2:Zj (xE w0.heap.size w0 f) 5 w0.heap.size w0 x.funs b2 m2 cap2) (r:Nat) (q:Option Nat) (t:List UInt8) (w:World) (h:zy w0 r q t w) :
  Calls Tryz.prog 34 #[.pointer (some ⟨r,0,none⟩),.agg #[.slice b m cap,.slice b2 m2 cap2]] w (zn w0 r q t w (XN x)):=by
 obtain ⟨rs,O⟩:=x;have HN:Hid (m=rs.length):=h1.1;have ah:Hid (m2=O.length):=h2.1;have aq:m≤9223372036854775807:=by have h3:=h1.1;have h4:=h1.2.1;have h5:=h1.2.2.1;unfold maxLen at h5;simp only at h3 h4;omega
 have am:m2≤9223372036854775807:=by have h3:=h2.1;have h4:=h2.2.1;have h5:=h2.2.2.1;unfold maxLen at h5;simp only at h3 h4;omega
 obtain ⟨R,hR⟩:∃R,R=XN ⟨rs,O⟩:=⟨_,rfl⟩;rw [←hR];have HR:Hid (R=zd (yL (rs.map fun r=>recO r.name r.fields) m) (yL (O.map funO) m2)):=show _=_ by rw [hR,HN.out,ah.out];rfl
 have ag:Hid (Zj (xD w0.heap.size w0) 3 w0.heap.size w0 rs b m cap):=h1;have ad:Hid (Zj (xE w0.heap.size w0 f) 5 w0.heap.size w0 O b2 m2 cap2):=h2;have ae:Hid (∀(x:Rz) (c:List Value),xD w0.heap.size w0 x c→∀(q:Option Nat) (t:List UInt8) (w:World),zy w0 r q t w→Calls Tryz.prog 68 #[.pointer (some ⟨r,0,none⟩),.agg c.toArray] w (zn w0 r q t w (recO x.name x.fields))):=fun x c V q t w h=>zcP w0 hT x c V r q t w h
 have ab:Hid (∀(x:Fz) (c:List Value),xE w0.heap.size w0 f x c→∀(q:Option Nat) (t:List UInt8) (w:World),zy w0 r q t w→Calls Tryz.prog 69 #[.pointer (some ⟨r,0,none⟩),.agg c.toArray] w (zn w0 r q t w (funO x))):=fun x c V q t w h=>qO w0 hT hl f x c V r q t w h
 obtain ⟨w1,N⟩:∃w1,w1=w.alloc (VV b m cap b2 m2 cap2):=⟨_,rfl⟩;have af:Below w.heap.size w w1:=by rw [N];exact (Below.refl _ w).alloc (Nat.le_refl _) _
 have p1:w1.heap[w.heap.size]?=some (VV b m cap b2 m2 cap2):=by rw [N];exact World.alloc_heap_new w _
 have ap:w1.heap.size=w.heap.size+1:=by rw [N];simp
 have T:Hid (zp r q w w1 q w1):=zp.start h af;have aa:Hid (zy w0 r q t w1):=h.below af;have an:Hid (w1.heap[w.heap.size]?=some (VV b m cap b2 m2 cap2)):=p1;have ao:=N.symm;obtain ⟨c0,c1⟩:=yE p1;clear h1 h2 hR hT hl h af p1 N
 go_enter Tryz.func34,Tryz.ntmps34
 go_wp2_with fail
 go_loopw [11] (fun i wr=>∃(k:Nat) (q2:Option Nat) (s:List UInt8),k≤m∧i=.int .i64 k∧zp r q w w1 q2 wr∧yL (rs.map fun r=>recO r.name r.fields) k=some s∧zy w0 r q2 (t++s) wr) (fun i _=>m-(intOf i).toNat)
 case atStart=>exact ⟨0,q,[],Nat.zero_le _,rfl,T.out,rfl,by rw [List.append_nil];exact aa.out⟩
 case round =>
  obtain ⟨i,q2,s0,hk,rfl,hL,z,y⟩:=hrel;clear T aa c0 c1
  by_cases hlt:i<m
  ·obtain ⟨x,V⟩:∃x,rs[i]?=some x:=⟨rs[i]'(by rw [←HN.out];exact hlt),List.getElem?_eq_getElem (by rw [←HN.out];exact hlt)⟩
   obtain ⟨bb,o,s,bf,mf,cf,line,rfl,H,Q,m0,m1,W⟩:=ag.out.rz i x V;have n0:=(y.env.cell (p:=⟨bb,o+i*3,none⟩) H).trans m0;have n1:=(y.env.cell (p:=⟨bb,o+i*3+1,none⟩) H).trans m1;have n2:=(y.env.cell (p:=⟨bb,o+i*3+2,none⟩) H).trans W;clear m0 m1 W;have ak:(i:Int)<(m:Int):=by omega
   obtain ⟨w2,G⟩:∃w2,w2=wr.alloc (rzO s bf mf cf line):=⟨_,rfl⟩;have p2:w2.heap[wr.heap.size]?=some (rzO s bf mf cf line):=by rw [G];exact World.alloc_heap_new wr _
   have I:Below wr.heap.size wr w2:=by rw [G];exact (Below.refl _ wr).alloc (Nat.le_refl _) _
   have J:Hid (zp r q w w1 q2 w2):=hL.step (zT.below I);have D:((rs.map fun r=>recO r.name r.fields)[i]?).getD none=recO x.name x.fields:=by rw [List.getElem?_map,V];rfl
   have L:Hid (recO x.name x.fields=none→R=none):=fun h9=>by
    rw [HR.out,uh _ hlt (by rw [D,h9])];rfl
   have U:Hid (∀u,recO x.name x.fields=some u→yL (rs.map fun r=>recO r.name r.fields) (i+1)=some (s0++u)):=fun u h9=>by
    rw [yL,z,D,h9];rfl
   have c:=ae.out x _ Q q2 (t++s0) w2 (y.below I);obtain ⟨c0,c1,c2⟩:=XC p2;have aj:=G.symm;clear D Q hL y z ag ad ae ab G p2 I V;generalize recO x.name x.fields=X at *;go_wp2_with fail
   refine c.mono ?_;clear c;rintro e w3 ⟨q3,A,hp⟩;cases X with
   | none=>subst hp;obtain rfl:=L.out rfl;exact ⟨rfl,q3,(J.out.step A).unto,rfl⟩
   | some u =>
    obtain ⟨rfl,Y⟩:=hp;have Z:Hid (∃(k':Nat) (q':Option Nat) (s':List UInt8),k'=i+1∧zp r q w w1 q' w3∧yL (rs.map fun r=>recO r.name r.fields) k'=some s'∧zy w0 r q' (t++s') w3):=⟨i+1,q3,_,rfl,J.out.step A,U.out u rfl,by rw [←List.append_assoc];exact Y⟩
    clear A Y U L J c0 c1 c2;go_wp2
    obtain ⟨k',q',s',rfl,h1,h2,h3⟩:=Z.out;exact ⟨⟨i+1,q',s',by omega,by go_num,h1,h2,h3⟩,by simp [intOf];omega⟩
  ·obtain rfl:i=m:=by omega
   have ak:¬(i:Int)<(i:Int):=by omega
   obtain ⟨c0,c1⟩:=yE ((hL.block _ (Nat.le_refl _) (by omega)).trans an.out)
   have T:Hid (zp r q w w1 q2 wr):=hL;have aa:Hid (zy w0 r q2 (t++s0) wr):=y;have ai:Hid (R=zd (some s0) (yL (O.map funO) m2)):=HR.out.trans (by rw [z])
   clear hL y z ag ae HR;go_wp2_with fail
   go_loopw [22] (fun j wr=>∃(k:Nat) (q2:Option Nat) (s:List UInt8),k≤m2∧j=.int .i64 k∧zp r q w w1 q2 wr∧yL (O.map funO) k=some s∧zy w0 r q2 (t++s0++s) wr) (fun j _=>m2-(intOf j).toNat)
   case atStart=>exact ⟨0,q2,[],Nat.zero_le _,rfl,T.out,rfl,by rw [List.append_nil];exact aa.out⟩
   case round =>
    obtain ⟨j,q3,s1,ar,rfl,hL,z,y⟩:=hrel;clear T aa c0 c1
    by_cases hlt2:j<m2
    ·obtain ⟨x,V⟩:∃x,O[j]?=some x:=⟨O[j]'(by rw [←ah.out];exact hlt2),List.getElem?_eq_getElem (by rw [←ah.out];exact hlt2)⟩
     obtain ⟨bb,o,s,bf,mf,cf,u,bg,mg,cg,line,rfl,H,Q,m0,m1,W,m3,m4⟩:=ad.out.fz j x V;have n0:=(y.env.cell (p:=⟨bb,o+j*5,none⟩) H).trans m0;have n1:=(y.env.cell (p:=⟨bb,o+j*5+1,none⟩) H).trans m1;have n2:=(y.env.cell (p:=⟨bb,o+j*5+2,none⟩) H).trans W;have n3:=(y.env.cell (p:=⟨bb,o+j*5+3,none⟩) H).trans m3;have n4:=(y.env.cell (p:=⟨bb,o+j*5+4,none⟩) H).trans m4;clear m0 m1 W m3 m4;have al:(j:Int)<(m2:Int):=by omega
     obtain ⟨w2,G⟩:∃w2,w2=wr.alloc (fzO s bf mf cf u bg mg cg line):=⟨_,rfl⟩;have p2:w2.heap[wr.heap.size]?=some (fzO s bf mf cf u bg mg cg line):=by rw [G];exact World.alloc_heap_new wr _
     have I:Below wr.heap.size wr w2:=by rw [G];exact (Below.refl _ wr).alloc (Nat.le_refl _) _
     have J:Hid (zp r q w w1 q3 w2):=hL.step (zT.below I);have D:((O.map funO)[j]?).getD none=funO x:=by rw [List.getElem?_map,V];rfl
     have L:Hid (funO x=none→R=none):=fun h9=>by
      rw [ai.out,uh _ hlt2 (by rw [D,h9])];rfl
     have U:Hid (∀u,funO x=some u→yL (O.map funO) (j+1)=some (s1++u)):=fun u h9=>by
      rw [yL,z,D,h9];rfl
     have c:=ab.out x _ Q q3 (t++s0++s1) w2 (y.below I);obtain ⟨c0,c1,c2,c3,c4⟩:=Zt p2;have aj:=G.symm;clear D Q hL y z ad ab G p2 I V;generalize funO x=X at *;go_wp2_with fail
     refine c.mono ?_;clear c;rintro e w3 ⟨q4,A,hp⟩;cases X with
     | none=>subst hp;obtain rfl:=L.out rfl;exact ⟨rfl,q4,(J.out.step A).unto,rfl⟩
     | some u9 =>
      obtain ⟨rfl,Y⟩:=hp;have Z:Hid (∃(k':Nat) (q':Option Nat) (s':List UInt8),k'=j+1∧zp r q w w1 q' w3∧yL (O.map funO) k'=some s'∧zy w0 r q' (t++s0++s') w3):=⟨j+1,q4,_,rfl,J.out.step A,U.out u9 rfl,by rw [←List.append_assoc];exact Y⟩
      clear A Y U L J c0 c1 c2 c3 c4;go_wp2
      obtain ⟨k',q',s',rfl,h1,h2,h3⟩:=Z.out;exact ⟨⟨j+1,q',s',by omega,by go_num,h1,h2,h3⟩,by simp [intOf];omega⟩
    ·obtain rfl:j=m2:=by omega
     have al:¬(j:Int)<(j:Int):=by omega
     have HP:Hid (zn w0 r q t w R (.returned (.tuple #[])) wr):=show zn _ _ _ _ _ _ _ _ by
      rw [ai.out,z];exact ⟨q3,hL.unto,rfl,by rw [←List.append_assoc];exact y⟩
     clear hL y z ad ab ai;go_wp2
     exact bodyPost_ret (v:=.tuple #[]) (by simp [results,Tryz.results34,go_sem]) rfl HP.out
theorem zf5 (w0:World) (b:Option Addr) (m cap:Nat) (b2:Option Addr) (m2 cap2:Nat) (bx r:Nat) (q:Option Nat) (t:List UInt8) (R:Option (List UInt8)) (w:World) (p:w.heap[bx]?=some (VV b m cap b2 m2 cap2))
  (cx:Calls Tryz.prog 34 #[.pointer (some ⟨r,0,none⟩),.agg #[.slice b m cap,.slice b2 m2 cap2]] w (zn w0 r q t w R)) :
  Calls Tryz.prog 33 #[.pointer (some ⟨r,0,none⟩),.pointer (some ⟨bx,0,none⟩)] w (zn w0 r q t w R):=by
 obtain ⟨D,c1⟩:=yE p;clear p
 go_enter Tryz.func33,Tryz.ntmps33
 go_wp2_with fail
 refine cx.mono ?_;clear cx;rintro e A ⟨z,h,y⟩;cases R with
 | none=>subst y;exact ⟨rfl,z,h,rfl⟩
 | some u =>
  obtain ⟨rfl,o⟩:=y;have G:Hid (zn w0 r q t w (some u) (.returned (.tuple #[])) A):=⟨z,h,rfl,o⟩;clear h o D c1;go_wp2
  exact bodyPost_ret (v:=.tuple #[]) (by simp [results,Tryz.results33,go_sem]) rfl G.out
theorem QG (f:Nat) (x:Pz) (v:Value) (w:World) (hx:Xn w.heap.size w f x v) (hT:ZC w) (hl:ZA w) (he:xp w) :
  Calls Tryz.prog 13 #[v] w fun e w'=>e=.returned (.tuple #[.string (zb (prR (XN x)).1),.int .i64 ((prR (XN x)).2:Int)])∧Below w.heap.size w w':=by
 have ab:∀(fn:Fn) (first o:Array Value) (w:World),(Instr.makeFunc fn first o).run Tryz.prog w=.ok (.func fn first o) w:=fun _ _ _ _=>rfl
 have H:=hx;obtain ⟨b,m,o,G,D,h,rfl,_,_⟩:=hx;obtain ⟨w1,y⟩:∃w1,w1=w.alloc (VV b m o G D h):=⟨_,rfl⟩;have z:Below w.heap.size w w1:=by rw [y];exact (Below.refl _ w).alloc (Nat.le_refl _) _
 have Z:w1.heap[w.heap.size]?=some (VV b m o G D h):=by rw [y];exact World.alloc_heap_new w _
 have ad:w1.heap.size=w.heap.size+1:=by rw [y];simp
 have N:Xn w1.heap.size w1 f x (.agg #[.slice b m o,.slice G D h]):=(H.kept z).wide (by omega)
 obtain ⟨b',m',J,U,T,A,Y,X,h2⟩:=N
 have I:[Value.slice b m o,.slice G D h]=[.slice b' m' J,.slice U T A]:=by
  have:=congrArg (fun v=>match v with | .agg a=>a.toList | _=>[]) Y
  simpa using this
 simp only [List.cons.injEq,Value.slice.injEq,and_true] at I;obtain ⟨⟨rfl,rfl,rfl⟩,rfl,rfl,rfl⟩:=I;have Q:=zbc 33 w.heap.size (XN x) w1 (by unfold xp;rw [y];exact zl he _) (fun _ _=>rfl) fun W hWr=>zf5 w1 b m o G D h w.heap.size _ none [] _ W ((hWr.env.block _ (by omega)).trans Z) (zaq w1 (hT.below z (Nat.le_refl _)) (hl.env z) f x b m o G D h X h2 _ none [] W hWr)
 have O:Hid (Below w.heap.size w w1):=z;have aa:=y.symm;generalize prR (XN x)=R at *;clear H X h2 Y Z z hT hl he y;obtain ⟨u,er⟩:=R;simp only at Q ⊢
 go_enter Tryz.func13,Tryz.ntmps13
 go_wp2_with fail
 refine Q.mono ?_;clear Q;rintro e w2 ⟨rfl,L⟩;have V:Hid (Below w.heap.size w w2):=zt O.out L;clear L;go_wp2
 exact bodyPost_ret (v:=.tuple #[.string (zb u),.int .i64 (er:Int)]) (by simp [results,Tryz.results13,go_sem]) rfl ⟨rfl,V.out⟩
def Vw (w:World):Prop:=ZC w∧ZA w∧xp w
theorem Vw.below {w w':World} (h:Vw w) (hb:Below w.heap.size w w'):Vw w':=by
 refine ⟨h.1.below hb (Nat.le_refl _),h.2.1.env hb,?_⟩
 have:=h.2.2
 unfold xp at this ⊢
 rw [hb.cell (World.block_lt_of_cell? w _ this)];exact this
theorem qk (l want:List UInt8) (y:Ex) (hl:l.length≤4096) (hx:yF 60 l=(y,0,0)) (hok:VB y=true) (hp:prR (prE 24 (XO y))=(want,0)) (w:World) (hS:Vw w) :
  Calls Tryz.prog 29 #[.string (zb l),.string (zb want)] w fun e w'=>e=.returned (.bool true)∧Below w.heap.size w w':=by
 have X:=zfs l w hS.1.1 hS.2.1 hS.2.2;have HS:Hid (Vw w):=hS;clear hS
 go_enter Tryz.func29,Tryz.ntmps29
 go_wp2_with fail
 refine X.mono ?_;clear X;rintro e o ⟨x,at0,aa,v,rfl,Z,H,L⟩;have W:=zbC 60 hl Z (by rw [hx];simp)
 rw [hx] at W;simp only [Prod.mk.injEq] at W;obtain ⟨rfl,rfl,rfl⟩:=W;obtain ⟨a,b,c,T,U,R,k,rfl⟩:=H.agg;obtain ⟨w2,D⟩:∃w2,w2=o.alloc (.cells #[.int .i64 a,.string b,.int .i64 c,.slice T U R,.int .i64 k] 45):=⟨_,rfl⟩;have A:Below o.heap.size o w2:=by rw [D];exact (Below.refl _ o).alloc (Nat.le_refl _) _
 have I:w2.heap[o.heap.size]?=some (.cells #[.int .i64 a,.string b,.int .i64 c,.slice T U R,.int .i64 k] 45 (0,0)):=by rw [D];exact World.alloc_heap_new o _
 have G:Below w.heap.size w w2:=zt L A;have z:Vw w2:=HS.out.below G;have J:Zl w2.heap.size w2 (XO y) (.agg #[.int .i64 a,.string b,.int .i64 c,.slice T U R,.int .i64 k]):=(H.kept A.size fun j _ hj=>A.block j hj).ez (fun _ _ h=>h) hok
 have Q:=vR (XO y) _ w2 J z.1 z.2.1 z.2.2;rw [hp] at Q;have c0:w2.cell? ⟨o.heap.size,0,none⟩=some (.int .i64 a):=by simp only [World.cell?,I];rfl
 have c1:w2.cell? ⟨o.heap.size,1,none⟩=some (.string b):=by simp only [World.cell?,I];rfl
 have c2:w2.cell? ⟨o.heap.size,2,none⟩=some (.int .i64 c):=by simp only [World.cell?,I];rfl
 have c3:w2.cell? ⟨o.heap.size,3,none⟩=some (.slice T U R):=by simp only [World.cell?,I];rfl
 have c4:w2.cell? ⟨o.heap.size,4,none⟩=some (.int .i64 k):=by simp only [World.cell?,I];rfl
 have N:Hid (Below w.heap.size w w2):=G;have Y:=D.symm;simp only at Q;clear Z H L D A I G z J HS hx hok hp;go_wp2_with fail
 refine Q.mono ?_;clear Q c0 c1 c2 c3 c4;rintro e w3 ⟨rfl,O⟩;have V:Hid (Below w.heap.size w w3):=zt N.out O;clear O N;go_wp2
 exact bodyPost_ret (v:=.bool true) (by simp [results,Tryz.results29,go_sem]) rfl ⟨rfl,V.out⟩
theorem zjj (w:World) (hS:Vw w):Calls Tryz.prog 17 #[.string ⟨#[49,43]⟩] w fun e w'=>∃(a:Int) (b:ByteArray) (c:Int) (y:Option Addr) (z o:Nat) (k:Int),e=.returned (.tuple #[.agg #[.int .i64 a,.string b,.int .i64 c,.slice y z o,.int .i64 k],.int .i64 2,.int .i64 6])∧Below w.heap.size w w' :=
 (zfs zjg w hS.1.1 hS.2.1 hS.2.2).mono fun e w' ⟨x,at0,err,v,he,hI,hx,hb⟩=>by
  have h:=zbC 60 (by decide) hI (by rw [cxE];simp)
  rw [cxE] at h;simp only [Prod.mk.injEq] at h;obtain ⟨rfl,rfl,rfl⟩:=h;obtain ⟨a,b,c,y,z,o,k,rfl⟩:=hx.agg;exact ⟨a,b,c,y,z,o,k,he,hb⟩
theorem zjk (w:World) (hS:Vw w):Calls Tryz.prog 6 #[.string ⟨#[102,110,32,102,40,41,123,49,61,50,59,125]⟩] w fun e w'=>∃(o:Option Addr) (h y:Nat) (D:Option Addr) (G A:Nat),e=.returned (.tuple #[.agg #[.slice o h y,.slice D G A],.int .i64 8,.int .i64 6])∧Below w.heap.size w w' :=
 (zcx txF w hS.1.1 hS.2.1 hS.2.2).mono fun e w' ⟨x,at0,err,v,he,hI,hx,hb⟩=>by
  have z:=zbD 60 (by decide) hI (by rw [cxF];simp)
  rw [cxF] at z;simp only [Prod.mk.injEq] at z;obtain ⟨rfl,rfl,rfl⟩:=z;obtain ⟨o,h,y,D,G,A,rfl⟩:=hx.agg;exact ⟨o,h,y,D,G,A,he,hb⟩
def pgP:Pg:=(VS 60 txP).1
theorem zjl (w:World) (hS:Vw w):Calls Tryz.prog 6 #[.string ⟨#[114,101,99,111,114,100,32,80,123,120,58,105,110,116,125,10,102,110,32,102,40,97,58,91,105,110,116,93,41,58,105,110,116,123,114,101,116,117,114,110,32,97,91,48,93,59,125]⟩] w fun e w'=>∃(o:Option Addr) (h y:Nat) (A:Option Addr) (D z:Nat),e=.returned (.tuple #[.agg #[.slice o h y,.slice A D z],.int .i64 0,.int .i64 0])∧Yz w.heap.size w' pgP (.agg #[.slice o h y,.slice A D z])∧Below w.heap.size w w' :=
 (zcx txP w hS.1.1 hS.2.1 hS.2.2).mono fun e w' ⟨x,at0,err,v,he,hI,hx,hb⟩=>by
  have G:=zbD 60 (by decide) hI (by rw [cxP.1];simp)
  rw [cxP.1] at G;simp only [Prod.mk.injEq] at G;obtain ⟨rfl,rfl,rfl⟩:=G;obtain ⟨o,h,y,A,D,z,rfl⟩:=hx.agg;exact ⟨o,h,y,A,D,z,he,hx,hb⟩
theorem zbL (w:World) (hS:Vw w) :
  Calls Tryz.prog 11 #[] w fun e w'=>e=.returned (.bool true)∧Below w.heap.size w w':=by
 have I:Hid (Vw w):=hS;have c1:=zjj w hS;clear hS
 go_enter Tryz.func11,Tryz.ntmps11
 go_wp2_with fail
 refine c1.mono ?_;clear c1;rintro e w1 ⟨a,b,c,d0,d1,d2,k,rfl,R⟩;obtain ⟨w2,X⟩:∃w2,w2=w1.alloc (.cells #[.int .i64 a,.string b,.int .i64 c,.slice d0 d1 d2,.int .i64 k] 45):=⟨_,rfl⟩;have T:Below w.heap.size w w2:=by rw [X];exact R.alloc R.size _
 have ae:Hid (Below w.heap.size w w2):=T;have c2:=zjk w2 (I.out.below T);have ar:=X.symm;clear X R T;go_wp2_with fail
 refine c2.mono ?_;clear c2;rintro e w3 ⟨s0,s1,s2,e0,e1,e2,rfl,aj⟩;have G:=zt ae.out aj;obtain ⟨w4,W⟩:∃w4,w4=w3.alloc (.cells #[.slice s0 s1 s2,.slice e0 e1 e2] 25):=⟨_,rfl⟩;have Z:Below w.heap.size w w4:=by rw [W];exact G.alloc G.size _
 have ag:Hid (Below w.heap.size w w4):=Z;have c4:=zjl w4 (I.out.below Z);have av:=W.symm;clear W aj G Z ae;go_wp2_with fail
 refine c4.mono ?_;clear c4;rintro e w5 ⟨p0,p1,p2,f0,f1,f2,rfl,an,ak⟩;have N:=zt ag.out ak;obtain ⟨w6,H⟩:∃w6,w6=w5.alloc (.cells #[.slice p0 p1 p2,.slice f0 f1 f2] 25):=⟨_,rfl⟩;have o:Below w5.heap.size w5 w6:=by rw [H];exact (Below.refl _ w5).alloc (Nat.le_refl _) _
 have q6:w6.heap[w5.heap.size]?=some (VV p0 p1 p2 f0 f1 f2):=by rw [H];exact World.alloc_heap_new w5 _
 have V:Below w.heap.size w w6:=zt N o;have ab:Hid (Below w.heap.size w w6):=V;have J:=I.out.below V;have ap:Xn w6.heap.size w6 (zbn pgP) (pgz pgP) (.agg #[.slice p0 p1 p2,.slice f0 f1 f2]):=Xl.pz (Xl.kept an o.size fun j _ hj=>o.block j hj) (fun _ _ h=>h) cxP.2
 have c6:=QG _ _ _ w6 ap J.1 J.2.1 J.2.2;have hp:prR (XN (pgz pgP))=(tyP,0):=cpP;rw [hp] at c6;simp only at c6;obtain ⟨y0,y1⟩:=yE q6;have au:=H.symm;clear H an ak N o q6 V J ap hp ag;go_wp2_with fail
 refine c6.mono ?_;clear c6 y0 y1;rintro e w7 ⟨rfl,al⟩;have U:Hid (Below w.heap.size w w7):=zt ab.out al;clear al ab;have c7:Calls Tryz.prog 29 #[.string ⟨#[49,45,40,50,45,51,41]⟩,.string ⟨#[49,32,45,32,40,50,32,45,32,51,41]⟩] w7 fun e w'=>e=.returned (.bool true)∧Below w7.heap.size w7 w':=qk tx1 ty1 _ (by decide) cx1.1 cx1.2 cp1 w7 (I.out.below U.out)
 go_wp2_with fail
 refine c7.mono ?_;clear c7;rintro e w8 ⟨rfl,am⟩;have aa:Hid (Below w.heap.size w w8):=zt U.out am;clear am U;have c8:Calls Tryz.prog 29 #[.string ⟨#[40,49,45,50,41,45,51]⟩,.string ⟨#[49,32,45,32,50,32,45,32,51]⟩] w8 fun e w'=>e=.returned (.bool true)∧Below w8.heap.size w8 w':=qk tx2 ty2 _ (by decide) cx2.1 cx2.2 cp2 w8 (I.out.below aa.out)
 go_wp2_with fail
 refine c8.mono ?_;clear c8;rintro e w9 ⟨rfl,ai⟩;have Y:Hid (Below w.heap.size w w9):=zt aa.out ai;clear ai aa;have c9:Calls Tryz.prog 29 #[.string ⟨#[45,97,46,98,91,48,93]⟩,.string ⟨#[45,97,46,98,91,48,93]⟩] w9 fun e w'=>e=.returned (.bool true)∧Below w9.heap.size w9 w':=qk tx3 tx3 _ (by decide) cx3.1 cx3.2 cp3 w9 (I.out.below Y.out)
 go_wp2_with fail
 refine c9.mono ?_;clear c9;rintro e y ⟨rfl,Q⟩;have A:Hid (Below w.heap.size w y):=zt Y.out Q;clear Q Y;have ao:Calls Tryz.prog 29 #[.string ⟨#[40,45,97,41,46,98]⟩,.string ⟨#[40,45,97,41,46,98]⟩] y fun e w'=>e=.returned (.bool true)∧Below y.heap.size y w':=qk tx4 tx4 _ (by decide) cx4.1 cx4.2 cp4 y (I.out.below A.out)
 go_wp2_with fail
 refine ao.mono ?_;clear ao;rintro e D ⟨rfl,L⟩;have z:Hid (Below w.heap.size w D):=zt A.out L;clear L A;have ad:Calls Tryz.prog 29 #[.string ⟨#[33,40,120,38,38,121,41]⟩,.string ⟨#[33,40,120,32,38,38,32,121,41]⟩] D fun e w'=>e=.returned (.bool true)∧Below D.heap.size D w':=qk tx5 ty5 _ (by decide) cx5.1 cx5.2 cp5 D (I.out.below z.out)
 go_wp2_with fail
 refine ad.mono ?_;clear ad;rintro e aq ⟨rfl,O⟩;have af:Hid (Below w.heap.size w aq):=zt z.out O;clear O z I;have ah:zb tyP=⟨#[114,101,99,111,114,100,32,80,32,123,32,120,58,32,105,110,116,32,125,10,102,110,32,102,40,97,58,32,91,105,110,116,93,41,58,32,105,110,116,32,123,10,114,101,116,117,114,110,32,97,91,48,93,59,10,125,10]⟩:=rfl;rw [ah];clear ah;go_wp2
 exact bodyPost_ret (v:=.bool true) (by simp [results,Tryz.results11,go_sem]) rfl ⟨rfl,af.out⟩
end Go.Proofs.YtcphojjpapgblaaGreatDoor
namespace Go.Proofs.YtcphojjpapgblaaGreatDoor
open Go.ChangeShapes Go.WideShapes Go.RowKit
set_option maxHeartbeats 16000000
set_option maxRecDepth 100000
theorem zcQ:∃f0 f1:Field,Tryz.prog.underlying 189=some (.struct #[f0,f1])∧f0.type=9∧f1.type=3∧f0.offset=0∧f1.offset=1:=⟨_,_,Tryz.underlying189,rfl,rfl,rfl,rfl⟩
theorem zcR:Tryz.prog.cellsOf 3=1:=by kernel_rfl
theorem zew:Tryz.prog.cellsOf 189=2:=by kernel_rfl
theorem zf6 {w:World} {m:Nat} {cs:List Value} {a:List UInt8} {b:Int} {p:List MemPlace}
  (h:DataW.trod (fun _=>()) Tryz.prog w 0 (fun _=>true) false m 189 cs=some (.agg [.lit (.string a),.lit (.int .i64 b)],p)):cs[0]?=some (.string (zb a))∧cs[1]?=some (.int .i64 b):=by
 obtain ⟨J,T,U,H,W,Q,I⟩:=zcQ;obtain ⟨L,n,-,N,-,R,o⟩:=DataW.trod_struct U h;have y:=DataW.agg.inj (Prod.mk.inj N).1;have G:=o 0 J rfl;have D:=o 1 T rfl;rw [H,Q,V6] at G;rw [W,I,zcR] at D
 match L,R with
 | [x0,x1],_ =>
  simp only [List.map_cons,List.map_nil,List.cons.injEq,and_true] at y;obtain ⟨s,O,X,-⟩:=DataW.trod_string Tryz.underlying9 G;obtain ⟨Z,V,Y,-⟩:=DataW.trod_int Tryz.underlying3 D;rw [X,Y] at y;simp only [DataW.lit.injEq,Lit.int.injEq,Lit.string.injEq,true_and] at y;obtain ⟨rfl,rfl⟩:=y;have z:=congrArg (fun l=>l[0]?) O
  have A:=congrArg (fun l=>l[0]?) V
  simp only [List.getElem?_take,List.getElem?_drop] at z A;rw [QX];exact ⟨by simpa using z,by simpa using A⟩
theorem zf7:(Rows.laid_hindcast_syntax_levels:DataW Unit)=.agg (levelsL.map fun p=>.agg [.lit (.string p.1),.lit (.int .i64 p.2)]):=rfl
theorem zcS:∀(j:Nat) (v:Value),Xx[j]?=some v→∃(h:j / 2<levelsL.length),v=if j % 2=0 then .string (zb (levelsL[j / 2]'h).1) else .int .i64 (levelsL[j / 2]'h).2:=by
 intro j v z;have y:j<26:=(List.getElem?_eq_some_iff.1 z).1
 have o:∀j (h:j<26),Xx[j]?=some (if j % 2=0 then .string (zb (levelsL[j / 2]'(by show j / 2<13;omega)).1) else .int .i64 (levelsL[j / 2]'(by show j / 2<13;omega)).2):=by
  intro j h;have A:j=0∨j=1∨j=2∨j=3∨j=4∨j=5∨j=6∨j=7∨j=8∨j=9∨j=10∨j=11∨j=12∨j=13∨j=14∨j=15∨j=16∨j=17∨j=18∨j=19∨j=20∨j=21∨j=22∨j=23∨j=24∨j=25:=by omega
  rcases A with rfl | rfl | rfl | rfl | rfl | rfl | rfl | rfl | rfl | rfl | rfl | rfl | rfl | rfl | rfl | rfl | rfl | rfl | rfl | rfl | rfl | rfl | rfl | rfl | rfl | rfl <;> rfl
 exact ⟨by show j / 2<13;omega,Option.some.inj (z.symm.trans (o j y))⟩
theorem zex {W : World} {laid : List (String × DataW Unit)} (h : laidMet Tryz.prog laid W) (hm : ("hindcast/syntax.levels", Rows.laid_hindcast_syntax_levels) ∈ laid) : ZA W := by
 obtain ⟨Z,T,-⟩:=h;obtain ⟨g, t, Y, fuel, p, N, U, z, hd⟩ := xt (n := "hindcast/syntax.levels") (d := Rows.laid_hindcast_syntax_levels) T hm;obtain rfl := Option.some.inj ((show Tryz.prog.globalNamed "hindcast/syntax.levels" = some 1 by kernel_rfl).symm.trans N)
 obtain rfl:=Option.some.inj ((show (Tryz.prog.globals[1]?).map (·.type)=some 190 by kernel_rfl).symm.trans U)
 rw [zf7] at hd;obtain ⟨I,m,-,R,-,X,G⟩:=DataW.trod_array Tryz.underlying190 hd;have Q:=DataW.agg.inj (Prod.mk.inj R).1;intro j v V;obtain ⟨o,rfl⟩:=zcS j v V;have L:j / 2<13:=o;have J:=G (j / 2) (by omega)
 rw [zew] at J;have y:j / 2<I.length:=by omega
 rw [List.getElem?_eq_getElem y] at J;have H:(levelsL.map fun p=>(DataW.agg [.lit (.string p.1),.lit (.int .i64 p.2)]:DataW Unit))[j / 2]?=(I.map (·.1))[j / 2]?:=by rw [Q]
 rw [List.getElem?_map,List.getElem?_map,List.getElem?_eq_getElem o,List.getElem?_eq_getElem y] at H;simp only [Option.map_some,Option.some.injEq] at H;obtain ⟨A,D⟩:=zf6 (a:=(levelsL[j / 2]'o).1) (b:=(levelsL[j / 2]'o).2) (p:=(I[j / 2]).2) (J.trans (by rw [H]))
 simp only [List.getElem?_take,List.getElem?_drop] at A D;show W.cell? ⟨_,0+j,none⟩=_
 rw [Nat.zero_add,World.var?_cell N z j];rcases Nat.mod_two_eq_zero_or_one j with O | O
 ·rw [if_pos O]
  rw [if_pos (by omega)] at A
  rw [show j / 2*2+0=j by omega] at A
  simpa using A
 ·rw [if_neg (by omega)]
  rw [if_pos (by omega)] at D
  rw [show j / 2*2+1=j by omega] at D
  simpa using D
def zbM : List (String × DataW Unit) := [("math/bits.deBruijn32tab", Rows.laid_math_bits_deBruijn32tab), ("math/bits.deBruijn64tab", Rows.laid_math_bits_deBruijn64tab), ("internal/strconv.uint64pow10", Rows.laid_internal_strconv_uint64pow10), ("errors.errorType", Rows.laid_errors_errorType), ("strconv.ErrRange", Rows.laid_strconv_ErrRange), ("strconv.ErrSyntax", Rows.laid_strconv_ErrSyntax), ("hindcast/lex.words", Rows.laid_hindcast_lex_words), ("hindcast/lex.signs", Rows.laid_hindcast_lex_signs), ("hindcast/lex.escapes", Rows.laid_hindcast_lex_escapes), ("hindcast/syntax.levels", Rows.laid_hindcast_syntax_levels)]
def vX:List (String × DataW Unit):=zbM.filter fun x=>x.2.handleName?.isNone
theorem zbN : vX = [("math/bits.deBruijn32tab", Rows.laid_math_bits_deBruijn32tab), ("math/bits.deBruijn64tab", Rows.laid_math_bits_deBruijn64tab), ("internal/strconv.uint64pow10", Rows.laid_internal_strconv_uint64pow10), ("strconv.ErrRange", Rows.laid_strconv_ErrRange), ("strconv.ErrSyntax", Rows.laid_strconv_ErrSyntax), ("hindcast/lex.words", Rows.laid_hindcast_lex_words), ("hindcast/lex.signs", Rows.laid_hindcast_lex_signs), ("hindcast/lex.escapes", Rows.laid_hindcast_lex_escapes), ("hindcast/syntax.levels", Rows.laid_hindcast_syntax_levels)] := rfl
theorem zjm : Tryz.prog.globalNamed "errors.errorType" = some 0 := by kernel_rfl
theorem zjn : (Tryz.prog.cutTypes.find? (·.1 == "internal/reflectlite.rtype")).map (·.2) = some 195 := by kernel_rfl
theorem ziA:((List.range Tryz.prog.types.size).filter fun t=>Tryz.prog.rowNamed t [101,114,114,111,114])=[141]:=by kernel_rfl
theorem zey {W:World} (h:laidMetH Tryz.prog zbM W):Vw W:=by
 have o:laidMet Tryz.prog vX W∧handlesMet Tryz.prog (zbM.filter fun x=>x.2.handleName?.isSome) W:=h
 have D:ZA W:=zex o.1 (by rw [zbN];simp)
 refine ⟨zca o.1 (by rw [zbN];unfold laidX;simp),D,?_⟩
 obtain ⟨name, u, ty, G, H, J, A, y⟩ := o.2 ("errors.errorType", Rows.laid_errors_errorType) (by simp only [zbM]; exact List.mem_filter.2 ⟨by simp, rfl⟩)
 have L:name=[101,114,114,111,114]:=(Option.some.inj G).symm;subst L;obtain rfl:=Option.some.inj (zjn.symm.trans H);have z:ty∈(List.range Tryz.prog.types.size).filter fun t=>Tryz.prog.rowNamed t [101,114,114,111,114]:=List.mem_filter.2 ⟨List.mem_range.2 J,A⟩
 rw [ziA] at z;obtain rfl:=List.mem_singleton.1 z;have I:typeHandle Tryz.prog 141=.pointer (some ⟨11,141,none⟩):=by kernel_rfl
 rw [I] at y
 unfold xp
 simpa using World.var?_cell zjm y 0
noncomputable def zhO (os:Os):World :=
 let w0:=World.holding Tryz.prog os ⟨#[],#[],[]⟩
 { w0 with heap:=w0.heap.modify 0 fun
   | .cells _ t frozen=>.cells #[.iface 195 (.agg #[.pointer (some ⟨11,141,none⟩)])] t frozen
   | o=>o }
noncomputable def zf8 (os:Os):World:=(zhO os).layVars Tryz.prog vX
theorem zhu (os:Os):(zf8 os).os=os:=World.layVars_os _ _ _
theorem zf9 (os:Os) (args:Array Value):laidMetH Tryz.prog zbM ((zf8 os).forCall (fun _ _=>0) ⟨#[],args,[]⟩).memory:=by
 refine laidMetH_of_parts ?_ (by kernel_rfl)
 have o:(vX.filter fun x=>(vX.map (·.1)).contains x.1)=vX:=List.filter_eq_self.2 fun x hx=>List.contains_iff_mem.2 (List.mem_map.2 ⟨x,hx,rfl⟩)
 have y:(vX.filter fun x=>!(vX.map (·.1)).contains x.1)=[]:=List.filter_eq_nil_iff.2 fun x hx=>by rw [List.contains_iff_mem.2 (List.mem_map.2 ⟨x,hx,rfl⟩)];simp
 have h:laidMet Tryz.prog vX (zf8 os):=laidMet_layVars (w0:=zhO os) (vX.map (·.1)) [] (by rw [o];rfl) (by rw [o];kernel_rfl) (by rw [o];kernel_rfl) (by rw [y];exact LaidIn.none)
 exact h.of_heap (by simp [World.memory,World.forCall,Input.heap])
end Go.Proofs.YtcphojjpapgblaaGreatDoor
namespace Go.Proofs.YtcphojjpapgblaaGreatDoor
open Go.RowKit Go.Shelf
set_option maxHeartbeats 16000000
set_option maxRecDepth 100000
abbrev Xs (n:Int):Obj:=.cells #[.int .i64 n] 80 (0,0)
def ziB (c:Nat) (w w':World):Prop:=zc c w w'∧∃n,w'.heap[c]?=some (Xs n)
theorem zc.toBelow {c B:Nat} {w w':World} (h:zc c w w') (hB:B≤c) (hw:B≤w.heap.size):Below B w w':=⟨h.os,h.tape,h.output,h.size,fun k hk=>h.block k (by omega) (by omega)⟩
def zjo (c:Nat) (D:Int) (w:World) (e:Ending) (w':World):Prop:=(∃b,e=.returned (.bool b)∧(b=true→D≤48))∧ziB c w w'
def vM (c:Nat) (w:World) (e:Ending) (w':World):Prop:=(∃b,e=.returned (.bool b))∧ziB c w w'
theorem ql (c:Nat) (n D:Int) (w:World) (hc:w.heap[c]?=some (Xs n)) :
  Calls Tryz.prog 30 #[.pointer (some ⟨c,0,none⟩),.int .i64 D] w (zjo c D w):=by
 have A:w.cell? ⟨c,0,none⟩=some (.int .i64 n):=ze hc;have z:w.frozen? ⟨c,0,none⟩=false:=by simp only [World.frozen?,hc];rfl
 have o:Hid (∀v,ziB c w (w.setCell ⟨c,0,none⟩ (.int .i64 v))):=fun v=>by
  refine ⟨⟨rfl,rfl,rfl,by simp,fun k _ hk=>Below.heap_setCell _ _ _ _ (by simpa using hk)⟩,v,?_⟩
  rw [YI _ hc]
  rfl
 have G:∀v,(w.setCell ⟨c,0,none⟩ v).cell? ⟨c,0,none⟩=some v:=fun v=>by
  have:=YI (j:=0) v hc
  simp only [World.cell?,this]
  rfl
 clear hc;obtain ⟨V,y⟩:∃V,V=wrap64 (n+1):=⟨_,rfl⟩
 by_cases h1:V≤4096
 ·rw [y] at h1
  by_cases h2:D≤48
  ·go_enter Tryz.func30,Tryz.ntmps30
   go_wp2
   exact bodyPost_ret (v:=.bool true) (by simp [results,Tryz.results30,go_sem]) rfl ⟨⟨true,rfl,fun _=>h2⟩,o.out _⟩
  ·go_enter Tryz.func30,Tryz.ntmps30
   go_wp2
   exact bodyPost_ret (v:=.bool false) (by simp [results,Tryz.results30,go_sem]) rfl ⟨⟨false,rfl,fun h=>by cases h⟩,o.out _⟩
 ·rw [y] at h1
  go_enter Tryz.func30,Tryz.ntmps30
  go_wp2
  exact bodyPost_ret (v:=.bool false) (by simp [results,Tryz.results30,go_sem]) rfl ⟨⟨false,rfl,fun h=>by cases h⟩,o.out _⟩
theorem Vx (c B:Nat) (hB:B≤c):∀(N:Nat) (x:Ez) (v:Value) (n D:Int) (w:World),qw x≤N→-100≤D→B≤w.heap.size→Zl B w x v→w.heap[c]?=some (Xs n) →
  Calls Tryz.prog 38 #[.pointer (some ⟨c,0,none⟩),v,.int .i64 D] w (vM c w)
 | 0,.mk k s n kids line,v,_,_,w,hd,_,_,_,_=>by rw [qw] at hd;omega
 | N+1,.mk k s n kids line,v,nc,D,w,hd,hD0,hBw,hx,hcn=>by
  obtain ⟨base,Q,rfl,hc,af,hs,ar,au,L⟩:=hx.kid;obtain ⟨m,hm⟩:∃m,m=kids.length:=⟨_,rfl⟩;rw [←hm] at hc ⊢;have aq:m≤9223372036854775807:=by unfold maxLen at af;omega
  have ag:c<w.heap.size:=(Array.getElem?_eq_some_iff.1 hcn).1;obtain ⟨w1,A⟩:∃w1,w1=w.alloc (yW k s n base m Q line):=⟨_,rfl⟩;have z:Below w.heap.size w w1:=by rw [A];exact (Below.refl _ w).alloc (Nat.le_refl _) _
  have p1:w1.heap[w.heap.size]?=some (yW k s n base m Q line):=by rw [A];exact World.alloc_heap_new w _
  have ap:w1.heap.size=w.heap.size+1:=by rw [A];simp
  have ah:w1.heap[c]?=some (Xs nc):=(z.block c ag).trans hcn
  have HK:Hid (∀i y,kids[i]?=some y→∀W nW,zc c w1 W→W.heap[c]?=some (Xs nW)→D≤48→∃b o Y a2 a3 a4 Z a6 a7,base=some ⟨b,o,none⟩∧W.cell? ⟨b,o+i*5,none⟩=some (.int .i64 Y)∧W.cell? ⟨b,o+i*5+1,none⟩=some (.string (zb a2))∧W.cell? ⟨b,o+i*5+2,none⟩=some (.int .i64 a3)∧W.cell? ⟨b,o+i*5+3,none⟩=some (.slice a4 Z a6)∧W.cell? ⟨b,o+i*5+4,none⟩=some (.int .i64 a7) ∧
    Calls Tryz.prog 38 #[.pointer (some ⟨c,0,none⟩),yp Y a2 a3 a4 Z a6 a7,.int .i64 (D+1)] W (vM c W)):=fun i y hy W nW hW hcW hD=>by
   obtain ⟨b,o,Y,a2,a3,a4,Z,a6,a7,e,hb,R,an,m0,m1,m2,m3,m4⟩:=L i y hy;have h:Below B w W:=(z.mono hBw).trans (hW.toBelow hB (by omega))
   have hz:B≤W.heap.size:=Nat.le_trans hBw (Nat.le_trans z.size hW.size)
   exact ⟨b,o,Y,a2,a3,a4,Z,a6,a7,e,(h.cell (p:=⟨b,o+i*5,none⟩) hb).trans m0,(h.cell (p:=⟨b,o+i*5+1,none⟩) hb).trans m1,(h.cell (p:=⟨b,o+i*5+2,none⟩) hb).trans m2,(h.cell (p:=⟨b,o+i*5+3,none⟩) hb).trans m3,(h.cell (p:=⟨b,o+i*5+4,none⟩) hb).trans m4,
    Vx c B hB N y _ nW (D+1) W (zbO hd hy) (by omega) hz (an.kept h) hcW⟩
  have am:Hid (w1.heap[w.heap.size]?=some (yW k s n base m Q line)):=p1;have O:Hid (zc c w w1):=zc.of z;have HM:Hid (m=kids.length):=hm;have cm:=ql c nc D w1 ah;obtain ⟨c0,c1,c2,c3,c4⟩:=zF p1;have ao:=A.symm;clear hx L z p1 A hm hd hc af ah hcn
  go_enter Tryz.func38,Tryz.ntmps38
  go_wp2_with fail
  refine cm.mono ?_;clear cm c0 c1 c2 c3 c4;rintro e w2 ⟨⟨b,rfl,U⟩,H,n2,I⟩;cases b with
  | false =>
   have HP:Hid (vM c w (.returned (.bool false)) w2):=⟨⟨false,rfl⟩,O.out.trans H,n2,I⟩;clear U H I HK;go_wp2
   exact bodyPost_ret (v:=.bool false) (by simp [results,Tryz.results38,go_sem]) rfl HP.out
  | true =>
   have V:D≤48:=U rfl;have al:Hid (zc c w1 w2):=H;have aj:Hid (w2.heap[c]?=some (Xs n2)):=I;clear U H I;go_wp2_with fail
   go_loopw [7] (fun vi wr=>∃(i:Nat) (X:Int),i≤m∧vi=.int .i64 (i:Int)∧zc c w1 wr∧wr.heap[c]?=some (Xs X)) (fun vi _=>m-(intOf vi).toNat)
   case atStart=>exact ⟨0,n2,Nat.zero_le _,rfl,al.out,aj.out⟩
   case round =>
    obtain ⟨i,X,hi,rfl,T,aa⟩:=hrel;clear al aj;obtain ⟨c0,c1,c2,c3,c4⟩:=zF ((T.block w.heap.size (by omega) (by omega)).trans am.out)
    have G:Hid (zc c w1 wr):=T;have J:Hid (wr.heap[c]?=some (Xs X)):=aa;clear T aa
    by_cases R:i<m
    ·have ab:(i:Int)<(m:Int):=by omega
     obtain ⟨y,hy⟩:∃y,kids[i]?=some y:=⟨kids[i]'(by rw [←HM.out];exact R),List.getElem?_eq_getElem (by rw [←HM.out];exact R)⟩
     obtain ⟨b,o,Y,a2,a3,a4,Z,a6,a7,rfl,m0,m1,m2,m3,m4,ck⟩:=HK.out i y hy wr X G.out J.out V;clear hy HK J;go_wp2_with fail
     refine ck.mono ?_;clear ck m0 m1 m2 m3 m4 c0 c1 c2 c3 c4;rintro e w3 ⟨⟨b,rfl⟩,ae,n3,ai⟩;have ad:Hid (zc c w1 w3):=G.out.trans ae;have ak:Hid (w3.heap[c]?=some (Xs n3)):=ai;clear ae ai G;cases b with
     | false =>
      have HP:Hid (vM c w (.returned (.bool false)) w3):=⟨⟨false,rfl⟩,O.out.trans ad.out,n3,ak.out⟩;go_wp2
      exact bodyPost_ret (v:=.bool false) (by simp [results,Tryz.results38,go_sem]) rfl HP.out
     | true =>
      go_wp2
      exact ⟨⟨i+1,n3,by omega,by go_num,ad.out,ak.out⟩,by simp [intOf];omega⟩
    ·obtain rfl:i=m:=by omega
     have ab:¬ (i:Int)<(i:Int):=by omega
     have HP:Hid (vM c w (.returned (.bool true)) wr):=⟨⟨true,rfl⟩,O.out.trans G.out,X,J.out⟩;clear HK G J;go_wp2
     exact bodyPost_ret (v:=.bool true) (by simp [results,Tryz.results38,go_sem]) rfl HP.out
theorem zez (x:Ez) (v:Value) (w:World) (hx:Zl w.heap.size w x v) :
  Calls Tryz.prog 15 #[v] w fun e w'=>(e=.returned (.bool true)∨e=.returned (.bool false))∧Below w.heap.size w w':=by
 obtain ⟨k,s,n,kids,line⟩:=x;have D:=hx;obtain ⟨base,I,rfl,_⟩:=hx.kid;obtain ⟨w1,o⟩:∃w1,w1=w.alloc (yW k s n base kids.length I line):=⟨_,rfl⟩;have G:Below w.heap.size w w1:=by rw [o];exact (Below.refl _ w).alloc (Nat.le_refl _) _
 have V:w1.heap[w.heap.size]?=some (yW k s n base kids.length I line):=by rw [o];exact World.alloc_heap_new w _
 have H:w1.heap.size=w.heap.size+1:=by rw [o];simp
 obtain ⟨w2,y⟩:∃w2,w2=w1.alloc (Xs 0):=⟨_,rfl⟩;have z:Below w1.heap.size w1 w2:=by rw [y];exact (Below.refl _ w1).alloc (Nat.le_refl _) _
 have L:w2.heap[w1.heap.size]?=some (Xs 0):=by rw [y];exact World.alloc_heap_new w1 _
 have h:Below w.heap.size w w2:=zt G z;have J:=Vx w1.heap.size w.heap.size (by omega) (qw (.mk k s n kids line)) _ _ 0 0 w2 (Nat.le_refl _) (by omega) h.size (D.kept h) L
 have A:Hid (∀e w',vM w1.heap.size w2 e w'→(e=.returned (.bool true)∨e=.returned (.bool false))∧Below w.heap.size w w'):=fun e w' ⟨⟨b,he⟩,hk,_⟩=>by
  refine ⟨by cases b <;> simp [he],h.trans ?_⟩
  have:=h.size
  exact ⟨hk.os,hk.tape,hk.output,hk.size,fun j hj=>hk.block j (by omega) (by omega)⟩
 obtain ⟨Y,c1,c2,X,Z⟩:=zF ((z.block w.heap.size (by omega)).trans V)
 have T:=o.symm;have O:=y.symm;obtain ⟨N,W⟩:∃N,w1.heap.size=N:=⟨_,rfl⟩;rw [W] at J A;generalize kids.length=m at *;clear hx D G V o z L y h H
 go_enter Tryz.func15,Tryz.ntmps15
 go_wp2_with fail
 refine J.mono ?_;clear J Y c1 c2 X Z;rintro e w3 Q;obtain ⟨h1,R⟩:=A.out _ _ Q;have U:Hid (Below w.heap.size w w3):=R;clear Q A R;rcases h1 with rfl | rfl
 ·go_wp2
  exact bodyPost_ret (v:=.bool true) (by simp [results,Tryz.results15,go_sem]) rfl ⟨.inl rfl,U.out⟩
 ·go_wp2
  exact bodyPost_ret (v:=.bool false) (by simp [results,Tryz.results15,go_sem]) rfl ⟨.inr rfl,U.out⟩
def zjp (c B:Nat) (D:Int) (base:Option Addr) (w:World) (i:Nat):Prop:=∃(b o:Nat) (k:Int) (s:List UInt8) (es:List Ez) (be:Option Addr) (me ce:Nat) (bb:Option Addr) (mb cb:Nat) (bl:Option Addr) (ml cl:Nat) (line:Int),base=some ⟨b,o,none⟩∧b<B∧b<w.heap.size ∧
 w.cell? ⟨b,o+i*6,none⟩=some (.int .i64 k)∧w.cell? ⟨b,o+i*6+1,none⟩=some (.string (zb s))∧w.cell? ⟨b,o+i*6+2,none⟩=some (.slice be me ce)∧w.cell? ⟨b,o+i*6+3,none⟩=some (.slice bb mb cb)∧w.cell? ⟨b,o+i*6+4,none⟩=some (.slice bl ml cl)∧w.cell? ⟨b,o+i*6+5,none⟩=some (.int .i64 line) ∧
 Hid (Zj (qN B w) 5 B w es be me ce) ∧
 Hid (∀wx n,Below B w wx→w.heap.size≤wx.heap.size→wx.heap[c]?=some (Xs n)→D≤48→Calls Tryz.prog 31 #[.pointer (some ⟨c,0,none⟩),.slice bb mb cb,.int .i64 (D+1)] wx (vM c wx)) ∧
 Hid (∀wx n,Below B w wx→w.heap.size≤wx.heap.size→wx.heap[c]?=some (Xs n)→D≤48→Calls Tryz.prog 31 #[.pointer (some ⟨c,0,none⟩),.slice bl ml cl,.int .i64 (D+1)] wx (vM c wx))
theorem vY (c B:Nat) (hB:B≤c) (base:Option Addr) (m cap:Nat) (n D:Int) (w:World) (hm:m≤maxLen) (hD:-100≤D) (hBw:B≤w.heap.size) (hc:w.heap[c]?=some (Xs n)) (hat:∀i,i<m→zjp c B D base w i) :
  Calls Tryz.prog 31 #[.pointer (some ⟨c,0,none⟩),.slice base m cap,.int .i64 D] w (vM c w):=by
 have ai:Hid (∀i,i<m→zjp c B D base w i):=hat
 have aO:m≤9223372036854775807:=by unfold maxLen at hm;omega
 have aA:Hid (zc c w w):=⟨rfl,rfl,rfl,Nat.le_refl _,fun _ _ _=>rfl⟩
 have aB:Hid (w.heap[c]?=some (Xs n)):=hc;have aM:c<w.heap.size:=(Array.getElem?_eq_some_iff.1 hc).1;clear hat hm hc
 go_enter Tryz.func31,Tryz.ntmps31
 go_wp2_with fail
 go_loopw [7] (fun vi wr=>∃(i:Nat) (nr:Int),i≤m∧vi=.int .i64 (i:Int)∧zc c w wr∧wr.heap[c]?=some (Xs nr)) (fun vi _=>m-(intOf vi).toNat)
 case atStart=>exact ⟨0,n,Nat.zero_le _,rfl,aA.out,aB.out⟩
 case round =>
  obtain ⟨i,nr,hi,rfl,R,ak⟩:=hrel;have Q:Hid (zc c w wr):=R;have V:Hid (wr.heap[c]?=some (Xs nr)):=ak;have aQ:=R.size;have h:Hid (Below B w wr):=R.toBelow hB hBw;clear R ak
  by_cases hlt:i<m
  ·have an:(i:Int)<(m:Int):=by omega
   obtain ⟨b,o,k,s,es,be,me,ce,bb,mb,cb,bl,ml,cl,line,rfl,hb,aP,q0,q1,q2,q3,q4,q5,HE,H1,H2⟩:=ai.out i hlt;have m0:=(h.out.cell (p:=⟨b,o+i*6,none⟩) hb).trans q0;have m1:=(h.out.cell (p:=⟨b,o+i*6+1,none⟩) hb).trans q1;have m2:=(h.out.cell (p:=⟨b,o+i*6+2,none⟩) hb).trans q2;have m3:=(h.out.cell (p:=⟨b,o+i*6+3,none⟩) hb).trans q3;have m4:=(h.out.cell (p:=⟨b,o+i*6+4,none⟩) hb).trans q4;have m5:=(h.out.cell (p:=⟨b,o+i*6+5,none⟩) hb).trans q5;clear q0 q1 q2 q3 q4 q5 ai;go_wp2_with fail
   obtain ⟨w1,I⟩:∃w1,w1=wr.alloc (vL k s be me ce bb mb cb bl ml cl line):=⟨_,rfl⟩;have aF:Hid (w1=wr.alloc (vL k s be me ce bb mb cb bl ml cl line)):=I;have ad:Below wr.heap.size wr w1:=by rw [I];exact (Below.refl _ wr).alloc (Nat.le_refl _) _
   have aD:Hid (w1.heap[wr.heap.size]?=some (vL k s be me ce bb mb cb bl ml cl line)):=by
    show _=_
    rw [I];exact World.alloc_heap_new wr _
   have aL:w1.heap.size=wr.heap.size+1:=by rw [I];simp
   have ay:Hid (zc c w w1):=Q.out.trans (zc.of ad);have az:Hid (w1.heap[c]?=some (Xs nr)):=(ad.block c (by omega)).trans V.out
   have A:Hid (∀W,zc c w W→Below B w W∧w.heap.size≤W.heap.size):=fun W hW=>⟨hW.toBelow hB hBw,hW.size⟩
   have ah:Hid (∀W,zc c w1 W→W.heap[wr.heap.size]?=some (vL k s be me ce bb mb cb bl ml cl line)):=fun W hW=>(hW.block wr.heap.size (by omega) (by omega)).trans aD.out
   have cm:=ql c nr D w1 az.out;clear I ad Q V h;go_wp2_with fail
   rw [←aF.out];refine cm.mono ?_;clear cm m0 m1 m2 m3 m4 m5;rintro e w2 ⟨⟨b',rfl,ag⟩,G,n2,U⟩;have Y:Hid (zc c w w2):=ay.out.trans G;have aH:Hid (zc c w1 w2):=G;have aI:Hid (w2.heap[c]?=some (Xs n2)):=U;cases b' with
   | false =>
    clear ag G U;have X:Hid (vM c w (.returned (.bool false)) w2):=⟨⟨false,rfl⟩,Y.out,n2,aI.out⟩;go_wp2
    exact bodyPost_ret (v:=.bool false) (by simp [results,Tryz.results31,go_sem]) rfl X.out
   | true =>
    have aa:D≤48:=ag rfl;obtain ⟨c0,c1,c2,c3,c4,c5⟩:=zv (ah.out w2 G);have ch:=H1.out w2 n2 (A.out w2 Y.out).1 (A.out w2 Y.out).2 U aa;clear ag G U c0 c1 c2 c5;go_wp2_with fail
    refine ch.mono ?_;clear ch c3 c4;rintro e w3 ⟨⟨b',rfl⟩,T,n3,Z⟩;have N:Hid (zc c w w3):=Y.out.trans T;have am:Hid (zc c w1 w3):=aH.out.trans T;have aJ:Hid (w3.heap[c]?=some (Xs n3)):=Z;cases b' with
    | false =>
     clear T Z;have X:Hid (vM c w (.returned (.bool false)) w3):=⟨⟨false,rfl⟩,N.out,n3,aJ.out⟩;go_wp2
     exact bodyPost_ret (v:=.bool false) (by simp [results,Tryz.results31,go_sem]) rfl X.out
    | true =>
     obtain ⟨c0,c1,c2,c3,c4,c5⟩:=zv (ah.out w3 am.out);have ch:=H2.out w3 n3 (A.out w3 N.out).1 (A.out w3 N.out).2 Z aa;clear T Z c0 c1 c2 c5 c3;go_wp2_with fail
     refine ch.mono ?_;clear ch c4;rintro e w4 ⟨⟨b',rfl⟩,ae,n4,aq⟩;have au:Hid (zc c w w4):=N.out.trans ae;have aG:Hid (zc c w1 w4):=am.out.trans ae;have ao:Hid (w4.heap[c]?=some (Xs n4)):=aq;clear ae aq;cases b' with
     | false =>
      have X:Hid (vM c w (.returned (.bool false)) w4):=⟨⟨false,rfl⟩,au.out,n4,ao.out⟩;go_wp2
      exact bodyPost_ret (v:=.bool false) (by simp [results,Tryz.results31,go_sem]) rfl X.out
     | true =>
      have ab:Hid (me=es.length):=HE.out.1
      have aN:me≤9223372036854775807:=by
       have h1:=HE.out.2.1;have h2:=HE.out.2.2.1;have h3:=ab.out
       unfold maxLen at h2
       omega
      go_upto_region 8 with fail
      go_loopw [9] (fun vj wq=>∃(j:Nat) (nj:Int),j≤me∧vj=.int .i64 (j:Int)∧zc c w wq∧zc c w1 wq∧wq.heap[c]?=some (Xs nj)) (fun vj _=>me-(intOf vj).toNat)
      case atStart=>exact ⟨0,n4,Nat.zero_le _,rfl,au.out,aG.out,ao.out⟩
      case round =>
       obtain ⟨j,nj,hj,rfl,J,L,O⟩:=hrel;have ar:Hid (zc c w wr):=J;have ax:Hid (zc c w1 wr):=L;have aK:Hid (wr.heap[c]?=some (Xs nj)):=O;have z:=(A.out wr J).1;have aC:=(A.out wr J).2;obtain ⟨c0,c1,c2,c3,c4,c5⟩:=zv (ah.out wr L);clear c0 c1 c3 c4 c5
       by_cases hjl:j<me
       ·have aw:(j:Int)<(me:Int):=by omega
        obtain ⟨y,hy⟩:∃y,es[j]?=some y:=⟨es[j]'(by rw [←ab.out];exact hjl),List.getElem?_eq_getElem (by rw [←ab.out];exact hjl)⟩
        obtain ⟨b2,o2,a1,a2,a3,a4,a5,a6,a7,rfl,H,-,av,g0,g1,g2,g3,g4,-⟩:=HE.out.ez j y hy;have m0:=(z.cell (p:=⟨b2,o2+j*5,none⟩) H).trans g0;have m1:=(z.cell (p:=⟨b2,o2+j*5+1,none⟩) H).trans g1;have m2:=(z.cell (p:=⟨b2,o2+j*5+2,none⟩) H).trans g2;have m3:=(z.cell (p:=⟨b2,o2+j*5+3,none⟩) H).trans g3;have m4:=(z.cell (p:=⟨b2,o2+j*5+4,none⟩) H).trans g4;have ck:=Vx c B hB (qw y) y _ nj (D+1) wr (Nat.le_refl _) (by omega) (Nat.le_trans hBw aC) (av.kept z) O
        clear g0 g1 g2 g3 g4 av hy z J L O;go_wp2_with fail
        refine ck.mono ?_;clear ck m0 m1 m2 m3 m4 c2;rintro e w6 ⟨⟨b',rfl⟩,af,n6,aj⟩;have al:Hid (zc c w w6):=ar.out.trans af;have aE:Hid (zc c w1 w6):=ax.out.trans af;have ap:Hid (w6.heap[c]?=some (Xs n6)):=aj;clear af aj;cases b' with
        | false =>
         have X:Hid (vM c w (.returned (.bool false)) w6):=⟨⟨false,rfl⟩,al.out,n6,ap.out⟩;go_wp2
         exact bodyPost_ret (v:=.bool false) (by simp [results,Tryz.results31,go_sem]) rfl X.out
        | true =>
         go_wp2
         exact ⟨⟨j+1,n6,by omega,by go_num,al.out,aE.out,ap.out⟩,by simp [intOf];omega⟩
       ·obtain rfl:j=me:=by omega
        have aw:¬ (j:Int)<(j:Int):=by omega
        clear z J L O;go_wp2
        exact ⟨⟨i+1,nj,by omega,by go_num,ar.out,aK.out⟩,by simp [intOf];omega⟩
  ·obtain rfl:i=m:=by omega
   have an:¬ (i:Int)<(i:Int):=by omega
   have X:Hid (vM c w (.returned (.bool true)) wr):=⟨⟨true,rfl⟩,Q.out,nr,V.out⟩;clear Q V h;go_wp2
   exact bodyPost_ret (v:=.bool true) (by simp [results,Tryz.results31,go_sem]) rfl X.out
theorem xI (c B:Nat) (hB:B≤c):∀(f:Nat) (l:List Sz) (base:Option Addr) (m cap:Nat) (n D:Int) (w:World),-100≤D→B≤w.heap.size→w.heap[c]?=some (Xs n)→Zj (ZE B w f) 6 B w l base m cap →
  Calls Tryz.prog 31 #[.pointer (some ⟨c,0,none⟩),.slice base m cap,.int .i64 D] w (vM c w)
 | 0,l,base,m,cap,n,D,w,hD,hBw,hc,hr=>by
  refine vY c B hB base m cap n D w (by have:=hr.1;have:=hr.2.1;have:=hr.2.2.1;omega) hD hBw hc fun i hi=>?_
  obtain ⟨x,Q⟩:∃x,l[i]?=some x:=⟨l[i]'(by rw [←hr.1];exact hi),List.getElem?_eq_getElem (by rw [←hr.1];exact hi)⟩
  obtain ⟨b,o,cs,-,-,-,-,N,-⟩:=hr.2.2.2 i x Q;exact N.elim
 | f+1,l,base,m,cap,n,D,w,hD,hBw,hc,hr=>by
  refine vY c B hB base m cap n D w (by have:=hr.1;have:=hr.2.1;have:=hr.2.2.1;omega) hD hBw hc fun i hi=>?_
  obtain ⟨x,Q⟩:∃x,l[i]?=some x:=⟨l[i]'(by rw [←hr.1];exact hi),List.getElem?_eq_getElem (by rw [←hr.1];exact hi)⟩
  obtain ⟨b,o,cs,J,T,V,W,N,y⟩:=hr.2.2.2 i x Q;obtain ⟨k,s,es,H,O,line⟩:=x;obtain ⟨be,me,ce,Y,mb,cb,bl,X,Z,rfl,hs,he,R,I⟩:=N;refine ⟨b,o,k,s,es,be,me,ce,Y,mb,cb,bl,X,Z,line,J,T,V,y 0 _ rfl,y 1 _ rfl,y 2 _ rfl,y 3 _ rfl,y 4 _ rfl,y 5 _ rfl,he,?_,?_⟩
  ·intro L U z G A _
   exact xI c B hB f H Y mb cb U (D+1) L (by omega) (Nat.le_trans hBw G) A (R.kept z fun x c h=>h.kept z _ _ _)
  ·intro L U z G A _
   exact xI c B hB f O bl X Z U (D+1) L (by omega) (Nat.le_trans hBw G) A (I.kept z fun x c h=>h.kept z _ _ _)
end Go.Proofs.YtcphojjpapgblaaGreatDoor
