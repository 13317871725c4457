import Derived.Test.YtpejpbbdgblbeaaGreatDoorMC34
import Derived.Test.YtpejpbbdgblbeaaGreatDoorMC31
import Derived.Test.YtpejpbbdgblbeaaGreatDoorMC7
import Derived.LaidHandle
namespace Go.Proofs.YtpejpbbdgblbeaaGreatDoor
open Go.RowKit Go.Shelf
set_option maxHeartbeats 16000000
set_option maxRecDepth 100000
abbrev qZ (b:Option Addr) (m cap:Nat) (b2:Option Addr) (m2 cap2:Nat):Obj:=.cells #[.slice b m cap,.slice b2 m2 cap2] 25
theorem yF {w:World} {N:Nat} {b:Option Addr} {m cap:Nat} {b2:Option Addr} {m2 cap2:Nat} (p:w.heap[N]?=some (qZ b m cap b2 m2 cap2)):w.cell? ⟨N,0,none⟩=some (.slice b m cap)∧w.cell? ⟨N,1,none⟩=some (.slice b2 m2 cap2):=by
 refine ⟨?_,?_⟩ <;> (simp only [World.cell?,p];rfl)
theorem Zk.rz {B:Nat} {w:World} {l:List Rz} {base:Option Addr} {m cap:Nat} (h:Zk (xX B w) 3 B w l base m cap):∀i x,l[i]?=some x→∃b o s D H G line,base=some ⟨b,o,none⟩∧b<B∧xX B w x [.string (zb s),.slice D H G,.int .i64 line] ∧
   w.cell? ⟨b,o+i*3,none⟩=some (.string (zb s))∧w.cell? ⟨b,o+i*3+1,none⟩=some (.slice D H G)∧w.cell? ⟨b,o+i*3+2,none⟩=some (.int .i64 line):=by
 intro i x N;obtain ⟨b,o,c,J,I,L,K,z,y⟩:=h.2.2.2 i x N;have A:=z;obtain ⟨D,H,G,rfl,_⟩:=A;exact ⟨b,o,_,D,H,G,_,J,I,z,y 0 _ rfl,y 1 _ rfl,y 2 _ rfl⟩
theorem Zk.fz {B f:Nat} {w:World} {l:List Fz} {base:Option Addr} {m cap:Nat} (h:Zk (xY B w f) 5 B w l base m cap):∀i x,l[i]?=some x→∃b o s D I K u J G H line,base=some ⟨b,o,none⟩∧b<B∧xY B w f x [.string (zb s),.slice D I K,.string (zb u),.slice J G H,.int .i64 line] ∧
   w.cell? ⟨b,o+i*5,none⟩=some (.string (zb s))∧w.cell? ⟨b,o+i*5+1,none⟩=some (.slice D I K)∧w.cell? ⟨b,o+i*5+2,none⟩=some (.string (zb u))∧w.cell? ⟨b,o+i*5+3,none⟩=some (.slice J G H)∧w.cell? ⟨b,o+i*5+4,none⟩=some (.int .i64 line):=by
 intro i x Q;obtain ⟨b,o,c,L,N,R,O,A,y⟩:=h.2.2.2 i x Q;have z:=A;obtain ⟨D,I,K,J,G,H,rfl,_⟩:=z;exact ⟨b,o,_,D,I,K,_,J,G,H,_,L,N,A,y 0 _ rfl,y 1 _ rfl,y 2 _ rfl,y 3 _ rfl,y 4 _ rfl⟩
theorem zbb (w0:World) (hT:ZC w0) (x:Rz) (c:List Value) (hx:xX w0.heap.size w0 x c) (r:Nat) (q:Option Nat) (t:List UInt8) (w:World) (h:zu w0 r q t w) :
  Calls Tryz.prog 70 #[.pointer (some ⟨r,0,none⟩),.agg c.toArray] w (zk w0 r q t w (recO x.name x.fields)):=by
 obtain ⟨b,m,s,rfl,y,o⟩:=hx;exact QR w0 hT x.name x.fields b m s r x.line q t w h y o.1 o.2.1 o.2.2.1 o.pm
theorem qR (w0:World) (hT:ZC w0) (hl:Zz w0) (f:Nat) (x:Pz) (b:Option Addr) (m cap:Nat) (b2:Option Addr) (m2 cap2:Nat) (h1:Zk (xX w0.heap.size w0) 3 w0.heap.size w0 x.recs b m cap) (h2:Zk (xY w0.heap.size w0 f) 5 w0.heap.size w0 x.funs b2 m2 cap2) (r:Nat) (q:Option Nat) (t:List UInt8) (w:World) (h:zu w0 r q t w) :
  Calls Tryz.prog 36 #[.pointer (some ⟨r,0,none⟩),.agg #[.slice b m cap,.slice b2 m2 cap2]] w (zk w0 r q t w (QS x)):=by
 obtain ⟨rs,L⟩:=x;have HN:Hid (m=rs.length):=h1.1;have ag:Hid (m2=L.length):=h2.1;have ap:m≤9223372036854775807:=by have h3:=h1.1;have h4:=h1.2.1;have h5:=h1.2.2.1;unfold maxLen at h5;simp only at h3 h4;omega
 have am:m2≤9223372036854775807:=by have h3:=h2.1;have h4:=h2.2.1;have h5:=h2.2.2.1;unfold maxLen at h5;simp only at h3 h4;omega
 obtain ⟨R,hR⟩:∃R,R=QS ⟨rs,L⟩:=⟨_,rfl⟩;rw [←hR];have HR:Hid (R=zc (Yq (rs.map fun r=>recO r.name r.fields) m) (Yq (L.map funO) m2)):=show _=_ by rw [hR,HN.out,ag.out];rfl
 have ai:Hid (Zk (xX w0.heap.size w0) 3 w0.heap.size w0 rs b m cap):=h1;have ad:Hid (Zk (xY w0.heap.size w0 f) 5 w0.heap.size w0 L b2 m2 cap2):=h2;have ah:Hid (∀(x:Rz) (c:List Value),xX w0.heap.size w0 x c→∀(q:Option Nat) (t:List UInt8) (w:World),zu w0 r q t w→Calls Tryz.prog 70 #[.pointer (some ⟨r,0,none⟩),.agg c.toArray] w (zk w0 r q t w (recO x.name x.fields))):=fun x c N q t w h=>zbb w0 hT x c N r q t w h
 have ab:Hid (∀(x:Fz) (c:List Value),xY w0.heap.size w0 f x c→∀(q:Option Nat) (t:List UInt8) (w:World),zu w0 r q t w→Calls Tryz.prog 71 #[.pointer (some ⟨r,0,none⟩),.agg c.toArray] w (zk w0 r q t w (funO x))):=fun x c N q t w h=>UH w0 hT hl f x c N r q t w h
 obtain ⟨w1,K⟩:∃w1,w1=w.alloc (qZ b m cap b2 m2 cap2):=⟨_,rfl⟩;have ae:Below w.heap.size w w1:=by rw [K];exact (Below.refl _ w).alloc (Nat.le_refl _) _
 have p1:w1.heap[w.heap.size]?=some (qZ b m cap b2 m2 cap2):=by rw [K];exact World.alloc_heap_new w _
 have ao:w1.heap.size=w.heap.size+1:=by rw [K];simp
 have W:Hid (zp r q w w1 q w1):=zp.start h ae;have aa:Hid (zu w0 r q t w1):=h.below ae;have an:Hid (w1.heap[w.heap.size]?=some (qZ b m cap b2 m2 cap2)):=p1;have aq:=K.symm;obtain ⟨c0,c1⟩:=yF p1;clear h1 h2 hR hT hl h ae p1 K
 go_enter Tryz.func36,Tryz.ntmps36
 go_wp2_with fail
 go_loopw [11] (fun i wr=>∃(k:Nat) (Q:Option Nat) (s:List UInt8),k≤m∧i=.int .i64 k∧zp r q w w1 Q wr∧Yq (rs.map fun r=>recO r.name r.fields) k=some s∧zu w0 r Q (t++s) wr) (fun i _=>m-(intOf i).toNat)
 case atStart=>exact ⟨0,q,[],Nat.zero_le _,rfl,W.out,rfl,by rw [List.append_nil];exact aa.out⟩
 case round =>
  obtain ⟨i,Q,s0,hk,rfl,hL,z,y⟩:=hrel;clear W aa c0 c1
  by_cases hlt:i<m
  ·obtain ⟨x,N⟩:∃x,rs[i]?=some x:=⟨rs[i]'(by rw [←HN.out];exact hlt),List.getElem?_eq_getElem (by rw [←HN.out];exact hlt)⟩
   obtain ⟨bb,o,s,bf,mf,cf,line,rfl,G,O,m0,m1,T⟩:=ai.out.rz i x N;have n0:=(y.env.cell (p:=⟨bb,o+i*3,none⟩) G).trans m0;have n1:=(y.env.cell (p:=⟨bb,o+i*3+1,none⟩) G).trans m1;have n2:=(y.env.cell (p:=⟨bb,o+i*3+2,none⟩) G).trans T;clear m0 m1 T;have ak:(i:Int)<(m:Int):=by omega
   obtain ⟨w2,H⟩:∃w2,w2=wr.alloc (rzO s bf mf cf line):=⟨_,rfl⟩;have p2:w2.heap[wr.heap.size]?=some (rzO s bf mf cf line):=by rw [H];exact World.alloc_heap_new wr _
   have I:Below wr.heap.size wr w2:=by rw [H];exact (Below.refl _ wr).alloc (Nat.le_refl _) _
   have J:Hid (zp r q w w1 Q w2):=hL.step (zP.below I);have D:((rs.map fun r=>recO r.name r.fields)[i]?).getD none=recO x.name x.fields:=by rw [List.getElem?_map,N];rfl
   have Z:Hid (recO x.name x.fields=none→R=none):=fun h9=>by
    rw [HR.out,VA _ hlt (by rw [D,h9])];rfl
   have V:Hid (∀u,recO x.name x.fields=some u→Yq (rs.map fun r=>recO r.name r.fields) (i+1)=some (s0++u)):=fun u h9=>by
    rw [Yq,z,D,h9];rfl
   have c:=ah.out x _ O Q (t++s0) w2 (y.below I);obtain ⟨c0,c1,c2⟩:=Xh p2;have al:=H.symm;clear D O hL y z ai ad ah ab H p2 I N;generalize recO x.name x.fields=X at *;go_wp2_with fail
   refine c.mono ?_;clear c;rintro e w3 ⟨q3,A,hp⟩;cases X with
   | none=>subst hp;obtain rfl:=Z.out rfl;exact ⟨rfl,q3,(J.out.step A).unto,rfl⟩
   | some u =>
    obtain ⟨rfl,U⟩:=hp;have Y:Hid (∃(k':Nat) (q':Option Nat) (s':List UInt8),k'=i+1∧zp r q w w1 q' w3∧Yq (rs.map fun r=>recO r.name r.fields) k'=some s'∧zu w0 r q' (t++s') w3):=⟨i+1,q3,_,rfl,J.out.step A,V.out u rfl,by rw [←List.append_assoc];exact U⟩
    clear A U V Z J c0 c1 c2;go_wp2
    obtain ⟨k',q',s',rfl,h1,h2,h3⟩:=Y.out;exact ⟨⟨i+1,q',s',by omega,by go_num,h1,h2,h3⟩,by simp [intOf];omega⟩
  ·obtain rfl:i=m:=by omega
   have ak:¬(i:Int)<(i:Int):=by omega
   obtain ⟨c0,c1⟩:=yF ((hL.block _ (Nat.le_refl _) (by omega)).trans an.out)
   have W:Hid (zp r q w w1 Q wr):=hL;have aa:Hid (zu w0 r Q (t++s0) wr):=y;have af:Hid (R=zc (some s0) (Yq (L.map funO) m2)):=HR.out.trans (by rw [z])
   clear hL y z ai ah HR;go_wp2_with fail
   go_loopw [22] (fun j wr=>∃(k:Nat) (Q:Option Nat) (s:List UInt8),k≤m2∧j=.int .i64 k∧zp r q w w1 Q wr∧Yq (L.map funO) k=some s∧zu w0 r Q (t++s0++s) wr) (fun j _=>m2-(intOf j).toNat)
   case atStart=>exact ⟨0,Q,[],Nat.zero_le _,rfl,W.out,rfl,by rw [List.append_nil];exact aa.out⟩
   case round =>
    obtain ⟨j,q3,s1,ar,rfl,hL,z,y⟩:=hrel;clear W aa c0 c1
    by_cases hlt2:j<m2
    ·obtain ⟨x,N⟩:∃x,L[j]?=some x:=⟨L[j]'(by rw [←ag.out];exact hlt2),List.getElem?_eq_getElem (by rw [←ag.out];exact hlt2)⟩
     obtain ⟨bb,o,s,bf,mf,cf,u,bg,mg,cg,line,rfl,G,O,m0,m1,T,m3,m4⟩:=ad.out.fz j x N;have n0:=(y.env.cell (p:=⟨bb,o+j*5,none⟩) G).trans m0;have n1:=(y.env.cell (p:=⟨bb,o+j*5+1,none⟩) G).trans m1;have n2:=(y.env.cell (p:=⟨bb,o+j*5+2,none⟩) G).trans T;have n3:=(y.env.cell (p:=⟨bb,o+j*5+3,none⟩) G).trans m3;have n4:=(y.env.cell (p:=⟨bb,o+j*5+4,none⟩) G).trans m4;clear m0 m1 T m3 m4;have aj:(j:Int)<(m2:Int):=by omega
     obtain ⟨w2,H⟩:∃w2,w2=wr.alloc (Q8 s bf mf cf u bg mg cg line):=⟨_,rfl⟩;have p2:w2.heap[wr.heap.size]?=some (Q8 s bf mf cf u bg mg cg line):=by rw [H];exact World.alloc_heap_new wr _
     have I:Below wr.heap.size wr w2:=by rw [H];exact (Below.refl _ wr).alloc (Nat.le_refl _) _
     have J:Hid (zp r q w w1 q3 w2):=hL.step (zP.below I);have D:((L.map funO)[j]?).getD none=funO x:=by rw [List.getElem?_map,N];rfl
     have Z:Hid (funO x=none→R=none):=fun h9=>by
      rw [af.out,VA _ hlt2 (by rw [D,h9])];rfl
     have V:Hid (∀u,funO x=some u→Yq (L.map funO) (j+1)=some (s1++u)):=fun u h9=>by
      rw [Yq,z,D,h9];rfl
     have c:=ab.out x _ O q3 (t++s0++s1) w2 (y.below I);obtain ⟨c0,c1,c2,c3,c4⟩:=Zm p2;have al:=H.symm;clear D O hL y z ad ab H p2 I N;generalize funO x=X at *;go_wp2_with fail
     refine c.mono ?_;clear c;rintro e w3 ⟨q4,A,hp⟩;cases X with
     | none=>subst hp;obtain rfl:=Z.out rfl;exact ⟨rfl,q4,(J.out.step A).unto,rfl⟩
     | some u9 =>
      obtain ⟨rfl,U⟩:=hp;have Y:Hid (∃(k':Nat) (q':Option Nat) (s':List UInt8),k'=j+1∧zp r q w w1 q' w3∧Yq (L.map funO) k'=some s'∧zu w0 r q' (t++s0++s') w3):=⟨j+1,q4,_,rfl,J.out.step A,V.out u9 rfl,by rw [←List.append_assoc];exact U⟩
      clear A U V Z J c0 c1 c2 c3 c4;go_wp2
      obtain ⟨k',q',s',rfl,h1,h2,h3⟩:=Y.out;exact ⟨⟨j+1,q',s',by omega,by go_num,h1,h2,h3⟩,by simp [intOf];omega⟩
    ·obtain rfl:j=m2:=by omega
     have aj:¬(j:Int)<(j:Int):=by omega
     have HP:Hid (zk w0 r q t w R (.returned (.tuple #[])) wr):=show zk _ _ _ _ _ _ _ _ by
      rw [af.out,z];exact ⟨q3,hL.unto,rfl,by rw [←List.append_assoc];exact y⟩
     clear hL y z ad ab af;go_wp2
     exact bodyPost_ret (v:=.tuple #[]) (by simp [results,Tryz.results36,go_sem]) rfl HP.out
theorem zdY (w0:World) (b:Option Addr) (m cap:Nat) (b2:Option Addr) (m2 cap2:Nat) (bx r:Nat) (q:Option Nat) (t:List UInt8) (R:Option (List UInt8)) (w:World) (p:w.heap[bx]?=some (qZ b m cap b2 m2 cap2))
  (cx:Calls Tryz.prog 36 #[.pointer (some ⟨r,0,none⟩),.agg #[.slice b m cap,.slice b2 m2 cap2]] w (zk w0 r q t w R)) :
  Calls Tryz.prog 35 #[.pointer (some ⟨r,0,none⟩),.pointer (some ⟨bx,0,none⟩)] w (zk w0 r q t w R):=by
 obtain ⟨A,c1⟩:=yF p;clear p
 go_enter Tryz.func35,Tryz.ntmps35
 go_wp2_with fail
 refine cx.mono ?_;clear cx;rintro e D ⟨s,h,y⟩;cases R with
 | none=>subst y;exact ⟨rfl,s,h,rfl⟩
 | some u =>
  obtain ⟨rfl,o⟩:=y;have z:Hid (zk w0 r q t w (some u) (.returned (.tuple #[])) D):=⟨s,h,rfl,o⟩;clear h o A c1;go_wp2
  exact bodyPost_ret (v:=.tuple #[]) (by simp [results,Tryz.results35,go_sem]) rfl z.out
theorem zcF (f:Nat) (x:Pz) (v:Value) (w:World) (hx:Xi w.heap.size w f x v) (hT:ZC w) (hl:Zz w) (he:Y7 w) :
  Calls Tryz.prog 15 #[v] w fun e w'=>e=.returned (.tuple #[.string (zb (prR (QS x)).1),.int .i64 ((prR (QS x)).2:Int)])∧Below w.heap.size w w':=by
 have ab:∀(fn:Fn) (first o:Array Value) (w:World),(Instr.makeFunc fn first o).run Tryz.prog w=.ok (.func fn first o) w:=fun _ _ _ _=>rfl
 have G:=hx;obtain ⟨b,m,o,D,A,h,rfl,_,_⟩:=hx;obtain ⟨w1,s⟩:∃w1,w1=w.alloc (qZ b m o D A h):=⟨_,rfl⟩;have y:Below w.heap.size w w1:=by rw [s];exact (Below.refl _ w).alloc (Nat.le_refl _) _
 have Z:w1.heap[w.heap.size]?=some (qZ b m o D A h):=by rw [s];exact World.alloc_heap_new w _
 have aa:w1.heap.size=w.heap.size+1:=by rw [s];simp
 have N:Xi w1.heap.size w1 f x (.agg #[.slice b m o,.slice D A h]):=(G.kept y).wide (by omega)
 obtain ⟨b',m',H,K,L,z,Y,h1,U⟩:=N
 have I:[Value.slice b m o,.slice D A h]=[.slice b' m' H,.slice K L z]:=by
  have:=congrArg (fun v=>match v with | .agg a=>a.toList | _=>[]) Y
  simpa using this
 simp only [List.cons.injEq,Value.slice.injEq,and_true] at I;obtain ⟨⟨rfl,rfl,rfl⟩,rfl,rfl,rfl⟩:=I;have Q:=QQ 35 w.heap.size (QS x) w1 (by unfold Y7;rw [s];exact zj he _) (fun _ _=>rfl) fun W hWr=>zdY w1 b m o D A h w.heap.size _ none [] _ W ((hWr.env.block _ (by omega)).trans Z) (qR w1 (hT.below y (Nat.le_refl _)) (hl.env y) f x b m o D A h h1 U _ none [] W hWr)
 have T:Hid (Below w.heap.size w w1):=y;have V:=s.symm;generalize prR (QS x)=R at *;clear G h1 U Y Z y hT hl he s;obtain ⟨u,er⟩:=R;simp only at Q ⊢
 go_enter Tryz.func15,Tryz.ntmps15
 go_wp2_with fail
 refine Q.mono ?_;clear Q;rintro e w2 ⟨rfl,J⟩;have O:Hid (Below w.heap.size w w2):=zl T.out J;clear J;go_wp2
 exact bodyPost_ret (v:=.tuple #[.string (zb u),.int .i64 (er:Int)]) (by simp [results,Tryz.results15,go_sem]) rfl ⟨rfl,O.out⟩
def XL (w:World):Prop:=ZC w∧Zz w∧Y7 w
theorem XL.below {w w':World} (h:XL w) (hb:Below w.heap.size w w'):XL w':=by
 refine ⟨h.1.below hb (Nat.le_refl _),h.2.1.env hb,?_⟩
 have:=h.2.2
 unfold Y7 at this ⊢
 rw [hb.cell (World.block_lt_of_cell? w _ this)];exact this
theorem Ud (l want:List UInt8) (y:Ex) (hl:l.length≤4096) (hx:yx 60 l=(y,0,0)) (hok:Vq y=true) (hp:prR (prE 24 (VG y))=(want,0)) (w:World) (hS:XL w) :
  Calls Tryz.prog 31 #[.string (zb l),.string (zb want)] w fun e w'=>e=.returned (.bool true)∧Below w.heap.size w w':=by
 have Z:=zfn l w hS.1.1 hS.2.1 hS.2.2;have Y:Hid (XL w):=hS;clear hS
 go_enter Tryz.func31,Tryz.ntmps31
 go_wp2_with fail
 refine Z.mono ?_;clear Z;rintro e o ⟨x,at0,aa,v,rfl,V,G,I⟩;have U:=Q2 60 hl V (by rw [hx];simp)
 rw [hx] at U;simp only [Prod.mk.injEq] at U;obtain ⟨rfl,rfl,rfl⟩:=U;obtain ⟨a,b,c,Q,O,R,k,rfl⟩:=G.agg;obtain ⟨w2,z⟩:∃w2,w2=o.alloc (.cells #[.int .i64 a,.string b,.int .i64 c,.slice Q O R,.int .i64 k] 45):=⟨_,rfl⟩;have A:Below o.heap.size o w2:=by rw [z];exact (Below.refl _ o).alloc (Nat.le_refl _) _
 have H:w2.heap[o.heap.size]?=some (.cells #[.int .i64 a,.string b,.int .i64 c,.slice Q O R,.int .i64 k] 45 (0,0)):=by rw [z];exact World.alloc_heap_new o _
 have D:Below w.heap.size w w2:=zl I A;have s:XL w2:=Y.out.below D;have J:Zs w2.heap.size w2 (VG y) (.agg #[.int .i64 a,.string b,.int .i64 c,.slice Q O R,.int .i64 k]):=(G.kept A.size fun j _ hj=>A.block j hj).ez (fun _ _ h=>h) hok
 have N:=UA (VG y) _ w2 J s.1 s.2.1 s.2.2;rw [hp] at N;have c0:w2.cell? ⟨o.heap.size,0,none⟩=some (.int .i64 a):=by simp only [World.cell?,H];rfl
 have c1:w2.cell? ⟨o.heap.size,1,none⟩=some (.string b):=by simp only [World.cell?,H];rfl
 have c2:w2.cell? ⟨o.heap.size,2,none⟩=some (.int .i64 c):=by simp only [World.cell?,H];rfl
 have c3:w2.cell? ⟨o.heap.size,3,none⟩=some (.slice Q O R):=by simp only [World.cell?,H];rfl
 have c4:w2.cell? ⟨o.heap.size,4,none⟩=some (.int .i64 k):=by simp only [World.cell?,H];rfl
 have K:Hid (Below w.heap.size w w2):=D;have W:=z.symm;simp only at N;clear V G I z A H D s J Y hx hok hp;go_wp2_with fail
 refine N.mono ?_;clear N c0 c1 c2 c3 c4;rintro e w3 ⟨rfl,L⟩;have T:Hid (Below w.heap.size w w3):=zl K.out L;clear L K;go_wp2
 exact bodyPost_ret (v:=.bool true) (by simp [results,Tryz.results31,go_sem]) rfl ⟨rfl,T.out⟩
theorem zgN (w:World) (hS:XL w):Calls Tryz.prog 19 #[.string ⟨#[49,43]⟩] w fun e w'=>∃(a:Int) (b:ByteArray) (c:Int) (s:Option Addr) (h o:Nat) (k:Int),e=.returned (.tuple #[.agg #[.int .i64 a,.string b,.int .i64 c,.slice s h o,.int .i64 k],.int .i64 2,.int .i64 6])∧Below w.heap.size w w' :=
 (zfn zgJ w hS.1.1 hS.2.1 hS.2.2).mono fun e w' ⟨x,at0,err,v,he,hI,hx,hb⟩=>by
  have y:=Q2 60 (by decide) hI (by rw [cxE];simp)
  rw [cxE] at y;simp only [Prod.mk.injEq] at y;obtain ⟨rfl,rfl,rfl⟩:=y;obtain ⟨a,b,c,s,h,o,k,rfl⟩:=hx.agg;exact ⟨a,b,c,s,h,o,k,he,hb⟩
theorem zgO (w:World) (hS:XL w):Calls Tryz.prog 8 #[.string ⟨#[102,110,32,102,40,41,123,49,61,50,59,125]⟩] w fun e w'=>∃(h:Option Addr) (A D:Nat) (y:Option Addr) (o s:Nat),e=.returned (.tuple #[.agg #[.slice h A D,.slice y o s],.int .i64 8,.int .i64 6])∧Below w.heap.size w w' :=
 (qL txF w hS.1.1 hS.2.1 hS.2.2).mono fun e w' ⟨x,at0,err,v,he,hI,hx,hb⟩=>by
  have z:=Q4 60 (by decide) hI (by rw [cxF];simp)
  rw [cxF] at z;simp only [Prod.mk.injEq] at z;obtain ⟨rfl,rfl,rfl⟩:=z;obtain ⟨h,A,D,y,o,s,rfl⟩:=hx.agg;exact ⟨h,A,D,y,o,s,he,hb⟩
def pgP:Pg:=(Vb 60 txP).1
theorem zgP (w:World) (hS:XL w):Calls Tryz.prog 8 #[.string ⟨#[114,101,99,111,114,100,32,80,123,120,58,105,110,116,125,10,102,110,32,102,40,97,58,91,105,110,116,93,41,58,105,110,116,123,114,101,116,117,114,110,32,97,91,48,93,59,125]⟩] w fun e w'=>∃(h:Option Addr) (z A:Nat) (y:Option Addr) (o s:Nat),e=.returned (.tuple #[.agg #[.slice h z A,.slice y o s],.int .i64 0,.int .i64 0])∧yT w.heap.size w' pgP (.agg #[.slice h z A,.slice y o s])∧Below w.heap.size w w' :=
 (qL txP w hS.1.1 hS.2.1 hS.2.2).mono fun e w' ⟨x,at0,err,v,he,hI,hx,hb⟩=>by
  have D:=Q4 60 (by decide) hI (by rw [cxP.1];simp)
  rw [cxP.1] at D;simp only [Prod.mk.injEq] at D;obtain ⟨rfl,rfl,rfl⟩:=D;obtain ⟨h,z,A,y,o,s,rfl⟩:=hx.agg;exact ⟨h,z,A,y,o,s,he,hx,hb⟩
theorem V0 (w:World) (hS:XL w) :
  Calls Tryz.prog 13 #[] w fun e w'=>e=.returned (.bool true)∧Below w.heap.size w w':=by
 have I:Hid (XL w):=hS;have c1:=zgN w hS;clear hS
 go_enter Tryz.func13,Tryz.ntmps13
 go_wp2_with fail
 refine c1.mono ?_;clear c1;rintro e w1 ⟨a,b,c,d0,d1,d2,k,rfl,O⟩;obtain ⟨w2,V⟩:∃w2,w2=w1.alloc (.cells #[.int .i64 a,.string b,.int .i64 c,.slice d0 d1 d2,.int .i64 k] 45):=⟨_,rfl⟩;have Q:Below w.heap.size w w2:=by rw [V];exact O.alloc O.size _
 have al:Hid (Below w.heap.size w w2):=Q;have c2:=zgO w2 (I.out.below Q);have au:=V.symm;clear V O Q;go_wp2_with fail
 refine c2.mono ?_;clear c2;rintro e w3 ⟨s0,s1,s2,e0,e1,e2,rfl,ag⟩;have y:=zl al.out ag;obtain ⟨w4,R⟩:∃w4,w4=w3.alloc (.cells #[.slice s0 s1 s2,.slice e0 e1 e2] 25):=⟨_,rfl⟩;have U:Below w.heap.size w w4:=by rw [R];exact y.alloc y.size _
 have ad:Hid (Below w.heap.size w w4):=U;have c4:=zgP w4 (I.out.below U);have aq:=R.symm;clear R ag y U al;go_wp2_with fail
 refine c4.mono ?_;clear c4;rintro e w5 ⟨p0,p1,p2,f0,f1,f2,rfl,ai,ah⟩;have N:=zl ad.out ah;obtain ⟨w6,G⟩:∃w6,w6=w5.alloc (.cells #[.slice p0 p1 p2,.slice f0 f1 f2] 25):=⟨_,rfl⟩;have o:Below w5.heap.size w5 w6:=by rw [G];exact (Below.refl _ w5).alloc (Nat.le_refl _) _
 have q6:w6.heap[w5.heap.size]?=some (qZ p0 p1 p2 f0 f1 f2):=by rw [G];exact World.alloc_heap_new w5 _
 have T:Below w.heap.size w w6:=zl N o;have am:Hid (Below w.heap.size w w6):=T;have H:=I.out.below T;have ae:Xi w6.heap.size w6 (hiPg pgP) (pgz pgP) (.agg #[.slice p0 p1 p2,.slice f0 f1 f2]):=xu.pz (xu.kept ai o.size fun j _ hj=>o.block j hj) (fun _ _ h=>h) cxP.2
 have c6:=zcF _ _ _ w6 ae H.1 H.2.1 H.2.2;have hp:prR (QS (pgz pgP))=(tyP,0):=cpP;rw [hp] at c6;simp only at c6;obtain ⟨y0,y1⟩:=yF q6;have ar:=G.symm;clear G ai ah N o q6 T H ae hp ad;go_wp2_with fail
 refine c6.mono ?_;clear c6 y0 y1;rintro e w7 ⟨rfl,aj⟩;have W:Hid (Below w.heap.size w w7):=zl am.out aj;clear aj am;have c7:Calls Tryz.prog 31 #[.string ⟨#[49,45,40,50,45,51,41]⟩,.string ⟨#[49,32,45,32,40,50,32,45,32,51,41]⟩] w7 fun e w'=>e=.returned (.bool true)∧Below w7.heap.size w7 w':=Ud tx1 ty1 _ (by decide) cx1.1 cx1.2 cp1 w7 (I.out.below W.out)
 go_wp2_with fail
 refine c7.mono ?_;clear c7;rintro e w8 ⟨rfl,ao⟩;have Z:Hid (Below w.heap.size w w8):=zl W.out ao;clear ao W;have c8:Calls Tryz.prog 31 #[.string ⟨#[40,49,45,50,41,45,51]⟩,.string ⟨#[49,32,45,32,50,32,45,32,51]⟩] w8 fun e w'=>e=.returned (.bool true)∧Below w8.heap.size w8 w':=Ud tx2 ty2 _ (by decide) cx2.1 cx2.2 cp2 w8 (I.out.below Z.out)
 go_wp2_with fail
 refine c8.mono ?_;clear c8;rintro e w9 ⟨rfl,ab⟩;have Y:Hid (Below w.heap.size w w9):=zl Z.out ab;clear ab Z;have c9:Calls Tryz.prog 31 #[.string ⟨#[45,97,46,98,91,48,93]⟩,.string ⟨#[45,97,46,98,91,48,93]⟩] w9 fun e w'=>e=.returned (.bool true)∧Below w9.heap.size w9 w':=Ud tx3 tx3 _ (by decide) cx3.1 cx3.2 cp3 w9 (I.out.below Y.out)
 go_wp2_with fail
 refine c9.mono ?_;clear c9;rintro e s ⟨rfl,J⟩;have D:Hid (Below w.heap.size w s):=zl Y.out J;clear J Y;have ak:Calls Tryz.prog 31 #[.string ⟨#[40,45,97,41,46,98]⟩,.string ⟨#[40,45,97,41,46,98]⟩] s fun e w'=>e=.returned (.bool true)∧Below s.heap.size s w':=Ud tx4 tx4 _ (by decide) cx4.1 cx4.2 cp4 s (I.out.below D.out)
 go_wp2_with fail
 refine ak.mono ?_;clear ak;rintro e z ⟨rfl,L⟩;have A:Hid (Below w.heap.size w z):=zl D.out L;clear L D;have af:Calls Tryz.prog 31 #[.string ⟨#[33,40,120,38,38,121,41]⟩,.string ⟨#[33,40,120,32,38,38,32,121,41]⟩] z fun e w'=>e=.returned (.bool true)∧Below z.heap.size z w':=Ud tx5 ty5 _ (by decide) cx5.1 cx5.2 cp5 z (I.out.below A.out)
 go_wp2_with fail
 refine af.mono ?_;clear af;rintro e ap ⟨rfl,K⟩;have an:Hid (Below w.heap.size w ap):=zl A.out K;clear K A I;have aa:zb tyP=⟨#[114,101,99,111,114,100,32,80,32,123,32,120,58,32,105,110,116,32,125,10,102,110,32,102,40,97,58,32,91,105,110,116,93,41,58,32,105,110,116,32,123,10,114,101,116,117,114,110,32,97,91,48,93,59,10,125,10]⟩:=rfl;rw [aa];clear aa;go_wp2
 exact bodyPost_ret (v:=.bool true) (by simp [results,Tryz.results13,go_sem]) rfl ⟨rfl,an.out⟩
end Go.Proofs.YtpejpbbdgblbeaaGreatDoor
namespace Go.Proofs.YtpejpbbdgblbeaaGreatDoor
open Go.ChangeShapes Go.WideShapes Go.RowKit
set_option maxHeartbeats 16000000
set_option maxRecDepth 100000
theorem zbc:∃f0 f1:Field,Tryz.prog.underlying 190=some (.struct #[f0,f1])∧f0.type=9∧f1.type=3∧f0.offset=0∧f1.offset=1:=⟨_,_,Tryz.underlying190,rfl,rfl,rfl,rfl⟩
theorem zbd:Tryz.prog.cellsOf 3=1:=by kernel_rfl
theorem zcG:Tryz.prog.cellsOf 190=2:=by kernel_rfl
theorem zdZ {w:World} {m:Nat} {cs:List Value} {a:List UInt8} {b:Int} {p:List MemPlace}
  (h:DataW.trod (fun _=>()) Tryz.prog w 0 (fun _=>true) false m 190 cs=some (.agg [.lit (.string a),.lit (.int .i64 b)],p)):cs[0]?=some (.string (zb a))∧cs[1]?=some (.int .i64 b):=by
 obtain ⟨Q,Y,I,L,K,H,U⟩:=zbc;obtain ⟨O,n,-,V,-,N,o⟩:=DataW.trod_struct I h;have y:=DataW.agg.inj (Prod.mk.inj V).1;have z:=o 0 Q rfl;have G:=o 1 Y rfl;rw [L,H,Vu] at z;rw [K,U,zbd] at G
 match O,N with
 | [x0,x1],_ =>
  simp only [List.map_cons,List.map_nil,List.cons.injEq,and_true] at y;obtain ⟨s,R,J,-⟩:=DataW.trod_string Tryz.underlying9 z;obtain ⟨Z,W,T,-⟩:=DataW.trod_int Tryz.underlying3 G;rw [J,T] at y;simp only [DataW.lit.injEq,Lit.int.injEq,Lit.string.injEq,true_and] at y;obtain ⟨rfl,rfl⟩:=y;have A:=congrArg (fun l=>l[0]?) R
  have D:=congrArg (fun l=>l[0]?) W
  simp only [List.getElem?_take,List.getElem?_drop] at A D;rw [zbC];exact ⟨by simpa using A,by simpa using D⟩
theorem zd0:(Rows.laid_hindcast_syntax_levels:DataW Unit)=.agg (Zh.map fun p=>.agg [.lit (.string p.1),.lit (.int .i64 p.2)]):=rfl
theorem zbe:∀(j:Nat) (v:Value),Xc[j]?=some v→∃(h:j / 2<Zh.length),v=if j % 2=0 then .string (zb (Zh[j / 2]'h).1) else .int .i64 (Zh[j / 2]'h).2:=by
 intro j v y;have o:j<26:=(List.getElem?_eq_some_iff.1 y).1
 have s:∀j (h:j<26),Xc[j]?=some (if j % 2=0 then .string (zb (Zh[j / 2]'(by show j / 2<13;omega)).1) else .int .i64 (Zh[j / 2]'(by show j / 2<13;omega)).2):=by
  intro j h;have z:j=0∨j=1∨j=2∨j=3∨j=4∨j=5∨j=6∨j=7∨j=8∨j=9∨j=10∨j=11∨j=12∨j=13∨j=14∨j=15∨j=16∨j=17∨j=18∨j=19∨j=20∨j=21∨j=22∨j=23∨j=24∨j=25:=by omega
  rcases z with rfl | rfl | rfl | rfl | rfl | rfl | rfl | rfl | rfl | rfl | rfl | rfl | rfl | rfl | rfl | rfl | rfl | rfl | rfl | rfl | rfl | rfl | rfl | rfl | rfl | rfl <;> rfl
 exact ⟨by show j / 2<13;omega,Option.some.inj (y.symm.trans (s j o))⟩
theorem zcH {W : World} {laid : List (String × DataW Unit)} (h : laidMet Tryz.prog laid W) (hm : ("hindcast/syntax.levels", Rows.laid_hindcast_syntax_levels) ∈ laid) : Zz W := by
 obtain ⟨V,N,-⟩:=h;obtain ⟨g, t, U, fuel, p, K, Q, y, hd⟩ := Y9 (n := "hindcast/syntax.levels") (d := Rows.laid_hindcast_syntax_levels) N hm;obtain rfl := Option.some.inj ((show Tryz.prog.globalNamed "hindcast/syntax.levels" = some 1 by kernel_rfl).symm.trans K)
 obtain rfl:=Option.some.inj ((show (Tryz.prog.globals[1]?).map (·.type)=some 191 by kernel_rfl).symm.trans Q)
 rw [zd0] at hd;obtain ⟨I,m,-,R,-,Y,G⟩:=DataW.trod_array Tryz.underlying191 hd;have O:=DataW.agg.inj (Prod.mk.inj R).1;intro j v T;obtain ⟨o,rfl⟩:=zbe j v T;have L:j / 2<13:=o;have D:=G (j / 2) (by omega)
 rw [zcG] at D;have s:j / 2<I.length:=by omega
 rw [List.getElem?_eq_getElem s] at D;have H:(Zh.map fun p=>(DataW.agg [.lit (.string p.1),.lit (.int .i64 p.2)]:DataW Unit))[j / 2]?=(I.map (·.1))[j / 2]?:=by rw [O]
 rw [List.getElem?_map,List.getElem?_map,List.getElem?_eq_getElem o,List.getElem?_eq_getElem s] at H;simp only [Option.map_some,Option.some.injEq] at H;obtain ⟨z,A⟩:=zdZ (a:=(Zh[j / 2]'o).1) (b:=(Zh[j / 2]'o).2) (p:=(I[j / 2]).2) (D.trans (by rw [H]))
 simp only [List.getElem?_take,List.getElem?_drop] at z A;show W.cell? ⟨_,0+j,none⟩=_
 rw [Nat.zero_add,World.var?_cell K y j];rcases Nat.mod_two_eq_zero_or_one j with J | J
 ·rw [if_pos J]
  rw [if_pos (by omega)] at z
  rw [show j / 2*2+0=j by omega] at z
  simpa using z
 ·rw [if_neg (by omega)]
  rw [if_pos (by omega)] at A
  rw [show j / 2*2+1=j by omega] at A
  simpa using A
def Q9 : List (String × DataW Unit) := [("math/bits.deBruijn32tab", Rows.laid_math_bits_deBruijn32tab), ("math/bits.deBruijn64tab", Rows.laid_math_bits_deBruijn64tab), ("internal/strconv.uint64pow10", Rows.laid_internal_strconv_uint64pow10), ("errors.errorType", Rows.laid_errors_errorType), ("strconv.ErrRange", Rows.laid_strconv_ErrRange), ("strconv.ErrSyntax", Rows.laid_strconv_ErrSyntax), ("hindcast/lex.words", Rows.laid_hindcast_lex_words), ("hindcast/lex.signs", Rows.laid_hindcast_lex_signs), ("hindcast/lex.escapes", Rows.laid_hindcast_lex_escapes), ("hindcast/syntax.levels", Rows.laid_hindcast_syntax_levels)]
def X9:List (String × DataW Unit):=Q9.filter fun x=>x.2.handleName?.isNone
theorem zaa : X9 = [("math/bits.deBruijn32tab", Rows.laid_math_bits_deBruijn32tab), ("math/bits.deBruijn64tab", Rows.laid_math_bits_deBruijn64tab), ("internal/strconv.uint64pow10", Rows.laid_internal_strconv_uint64pow10), ("strconv.ErrRange", Rows.laid_strconv_ErrRange), ("strconv.ErrSyntax", Rows.laid_strconv_ErrSyntax), ("hindcast/lex.words", Rows.laid_hindcast_lex_words), ("hindcast/lex.signs", Rows.laid_hindcast_lex_signs), ("hindcast/lex.escapes", Rows.laid_hindcast_lex_escapes), ("hindcast/syntax.levels", Rows.laid_hindcast_syntax_levels)] := rfl
theorem zgQ : Tryz.prog.globalNamed "errors.errorType" = some 0 := by kernel_rfl
theorem zgR : (Tryz.prog.cutTypes.find? (·.1 == "internal/reflectlite.rtype")).map (·.2) = some 196 := by kernel_rfl
theorem zgg:((List.range Tryz.prog.types.size).filter fun t=>Tryz.prog.rowNamed t [101,114,114,111,114])=[142]:=by kernel_rfl
theorem zcI {W:World} (h:laidMetH Tryz.prog Q9 W):XL W:=by
 have s:laidMet Tryz.prog X9 W∧handlesMet Tryz.prog (Q9.filter fun x=>x.2.handleName?.isSome) W:=h
 have I:Zz W:=zcH s.1 (by rw [zaa];simp)
 refine ⟨zaG s.1 (by rw [zaa];unfold laidX;simp),I,?_⟩
 obtain ⟨o, u, ty, D, H, K, J, z⟩ := s.2 ("errors.errorType", Rows.laid_errors_errorType) (by simp only [Q9]; exact List.mem_filter.2 ⟨by simp, rfl⟩)
 have G:o=[101,114,114,111,114]:=(Option.some.inj D).symm;subst G;obtain rfl:=Option.some.inj (zgR.symm.trans H);have y:ty∈(List.range Tryz.prog.types.size).filter fun t=>Tryz.prog.rowNamed t [101,114,114,111,114]:=List.mem_filter.2 ⟨List.mem_range.2 K,J⟩
 rw [zgg] at y;obtain rfl:=List.mem_singleton.1 y;have A:typeHandle Tryz.prog 142=.pointer (some ⟨11,142,none⟩):=by kernel_rfl
 rw [A] at z
 unfold Y7
 simpa using World.var?_cell zgQ z 0
noncomputable def zfq (os:Os):World :=
 let w0:=World.holding Tryz.prog os ⟨#[],#[],[]⟩
 { w0 with heap:=w0.heap.modify 0 fun
   | .cells _ t frozen=>.cells #[.iface 196 (.agg #[.pointer (some ⟨11,142,none⟩)])] t frozen
   | o=>o }
noncomputable def ze2 (os:Os):World:=(zfq os).layVars Tryz.prog X9
theorem ze3 (os:Os):(ze2 os).os=os:=World.layVars_os _ _ _
theorem zd1 (os:Os) (args:Array Value):laidMetH Tryz.prog Q9 ((ze2 os).forCall (fun _ _=>0) ⟨#[],args,[]⟩).memory:=by
 refine laidMetH_of_parts ?_ (by kernel_rfl)
 have o:(X9.filter fun x=>(X9.map (·.1)).contains x.1)=X9:=List.filter_eq_self.2 fun x hx=>List.contains_iff_mem.2 (List.mem_map.2 ⟨x,hx,rfl⟩)
 have s:(X9.filter fun x=>!(X9.map (·.1)).contains x.1)=[]:=List.filter_eq_nil_iff.2 fun x hx=>by rw [List.contains_iff_mem.2 (List.mem_map.2 ⟨x,hx,rfl⟩)];simp
 have h:laidMet Tryz.prog X9 (ze2 os):=laidMet_layVars (w0:=zfq os) (X9.map (·.1)) [] (by rw [o];rfl) (by rw [o];kernel_rfl) (by rw [o];kernel_rfl) (by rw [s];exact LaidIn.none)
 exact h.of_heap (by simp [World.memory,World.forCall,Input.heap])
end Go.Proofs.YtpejpbbdgblbeaaGreatDoor
