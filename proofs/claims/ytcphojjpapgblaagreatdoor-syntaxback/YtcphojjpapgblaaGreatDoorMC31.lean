import Derived.Test.YtcphojjpapgblaaGreatDoorSWStmK
namespace Go.Proofs.YtcphojjpapgblaaGreatDoor
open Go.RowKit Go.Shelf
set_option maxHeartbeats 16000000
set_option maxRecDepth 100000
theorem Zj.sz {B fz:Nat} {w:World} {l:List Sz} {base:Option Addr} {m cap:Nat} (h:Zj (ZE B w fz) 6 B w l base m cap):∀i x,l[i]?=some x→∃b o k s G J L H N O bl D I line,base=some ⟨b,o,none⟩∧b<B∧b<w.heap.size∧ZE B w fz x [.int .i64 k,.string (zb s),.slice G J L,.slice H N O,.slice bl D I,.int .i64 line] ∧
   w.cell? ⟨b,o+i*6,none⟩=some (.int .i64 k)∧w.cell? ⟨b,o+i*6+1,none⟩=some (.string (zb s))∧w.cell? ⟨b,o+i*6+2,none⟩=some (.slice G J L)∧w.cell? ⟨b,o+i*6+3,none⟩=some (.slice H N O)∧w.cell? ⟨b,o+i*6+4,none⟩=some (.slice bl D I)∧w.cell? ⟨b,o+i*6+5,none⟩=some (.int .i64 line):=by
 intro i x X;obtain ⟨b,o,c,Q,R,T,U,z,y⟩:=h.2.2.2 i x X;cases fz with
 | zero=>exact z.elim
 | succ fz =>
  obtain ⟨k,s,Y,V,W,line⟩:=x;have A:=z;obtain ⟨G,J,L,H,N,O,bl,D,I,rfl,_⟩:=A;exact ⟨b,o,k,s,G,J,L,H,N,O,bl,D,I,line,Q,R,T,z,y 0 _ rfl,y 1 _ rfl,y 2 _ rfl,y 3 _ rfl,y 4 _ rfl,y 5 _ rfl⟩
theorem Qq (w0:World) (d:Nat) (_hd:d≤24) (hS:zij w0 d):zeh w0 d:=by
 intro fz l base m ai r q t w A h;obtain ⟨n,hn⟩:∃n,n=l.length:=⟨_,rfl⟩;have aj:m=n:=by rw [hn];exact A.1
 subst aj;have am:m≤9223372036854775807:=by have h1:=A.2.1;have h2:=A.2.2.1;unfold maxLen at h2;omega
 obtain ⟨R,hR⟩:∃R,R=blkO (prS d) l:=⟨_,rfl⟩;rw [←hR];have HR:Hid (R=zd (some [123,10]) (zd (yL (l.map (prS d)) m) (some [125]))):=show _=_ by rw [hR,hn];rfl
 have HN:Hid (m=l.length):=hn;have U:Hid (Zj (ZE w0.heap.size w0 fz) 6 w0.heap.size w0 l base m ai):=A;have J:Hid (zij w0 d):=hS;have an:=h.lt.1;have Y:=zw w0 r q t [123,10] w h (by simp)
 clear A hS h hn hR
 go_enter Tryz.func110,Tryz.ntmps110
 go_wp2_with fail
 refine Y.mono ?_;clear Y;rintro e w1 ⟨q1,Q,rfl,Z⟩;have ae:Hid (zT r q w q1 w1):=Q;have ag:Hid (zy w0 r q1 (t++[123,10]) w1):=Z;clear Q Z;go_wp2_with fail
 go_loopw [12] (fun i wr=>∃(k:Nat) (T:Option Nat) (s:List UInt8),k≤m∧i=.int .i64 k∧zT r q w T wr∧yL (l.map (prS d)) k=some s∧zy w0 r T (t++[123,10]++s) wr) (fun i _=>m-(intOf i).toNat)
 case atStart=>exact ⟨0,q1,[],Nat.zero_le _,rfl,ae.out,rfl,by rw [List.append_nil];exact ag.out⟩
 case round =>
  obtain ⟨i,T,V,hk,rfl,O,D,y⟩:=hrel;clear ae ag
  by_cases hlt:i<m
  ·obtain ⟨x,hx⟩:∃x,l[i]?=some x:=⟨l[i]'(by rw [←HN.out];exact hlt),List.getElem?_eq_getElem (by rw [←HN.out];exact hlt)⟩
   obtain ⟨b,o,k,s,be,me,ce,bb,mb,cb,bl,ml,cl,line,rfl,G,-,ad,m0,m1,m2,m3,m4,m5⟩:=U.out.sz i x hx;have n0:=(y.env.cell (p:=⟨b,o+i*6,none⟩) G).trans m0;have n1:=(y.env.cell (p:=⟨b,o+i*6+1,none⟩) G).trans m1;have n2:=(y.env.cell (p:=⟨b,o+i*6+2,none⟩) G).trans m2;have n3:=(y.env.cell (p:=⟨b,o+i*6+3,none⟩) G).trans m3;have n4:=(y.env.cell (p:=⟨b,o+i*6+4,none⟩) G).trans m4;have n5:=(y.env.cell (p:=⟨b,o+i*6+5,none⟩) G).trans m5;clear m0 m1 m2 m3 m4 m5;have aa:(i:Int)<(m:Int):=by omega
   obtain ⟨w2,I⟩:∃w2,w2=wr.alloc (vL k s be me ce bb mb cb bl ml cl line):=⟨_,rfl⟩;have p2:w2.heap[wr.heap.size]?=some (vL k s be me ce bb mb cb bl ml cl line):=by rw [I];exact World.alloc_heap_new wr _
   have H:Hid (zT r q w T w2):=show zT _ _ _ _ _ by rw [I];exact O.alloc _
   have ab:zy w0 r T (t++[123,10]++V) w2:=by rw [I];exact y.alloc _
   have L:((l.map (prS d))[i]?).getD none=prS d x:=by rw [List.getElem?_map,hx];rfl
   have W:Hid (prS d x=none→R=none):=fun h9=>by
    rw [HR.out,uh _ hlt (by rw [L,h9])];rfl
   have af:Hid (∀u,prS d x=some u→yL (l.map (prS d)) (i+1)=some (V++u)):=fun u h9=>by
    rw [yL,D,L,h9];rfl
   have c:=J.out fz x _ r T (t++[123,10]++V) w2 ad ab;obtain ⟨c0,c1,c2,c3,c4,c5⟩:=zv p2;have al:=I.symm;clear L ad O y D U J I p2 ab hx;generalize prS d x=X at *;go_wp2_with fail
   refine c.mono ?_;clear c;rintro e w3 ⟨q3,z,hp⟩;cases X with
   | none=>subst hp;obtain rfl:=W.out rfl;exact ⟨rfl,q3,H.out.trans z,rfl⟩
   | some u =>
    obtain ⟨rfl,N⟩:=hp;have ah:Hid (∃(k':Nat) (q':Option Nat) (s':List UInt8),k'=i+1∧zT r q w q' w3∧yL (l.map (prS d)) k'=some s'∧zy w0 r q' (t++[123,10]++s') w3):=⟨i+1,q3,_,rfl,H.out.trans z,af.out u rfl,by rw [←List.append_assoc];exact N⟩
    clear z N af W H c0 c1 c2 c3 c4 c5;go_wp2
    obtain ⟨k',q',s',rfl,h1,h2,h3⟩:=ah.out;exact ⟨⟨i+1,q',s',by omega,by go_num,h1,h2,h3⟩,by simp [intOf];omega⟩
  ·obtain rfl:i=m:=by omega
   have aa:¬(i:Int)<(i:Int):=by omega
   have Y:=zw w0 r T (t++[123,10]++V) [125] wr y (by simp)
   have H:Hid (zT r q w T wr):=O;have ak:R=some ([123,10]++(V++[125])):=by rw [HR.out,D];rfl
   clear O y D U J;go_wp2_with fail
   refine Y.mono ?_;clear Y;rintro e w3 ⟨q3,z,rfl,N⟩;subst ak;have HP:Hid (zn w0 r q t w (some ([123,10]++(V++[125]))) (.returned (.tuple #[])) w3):=⟨q3,H.out.trans z,rfl,by simpa only [List.append_assoc] using N⟩
   clear z N H HR;go_wp2
   exact bodyPost_ret (v:=.tuple #[]) (by simp [results,Tryz.results110,go_sem]) rfl HP.out
def prT (d:Nat) (f:Sz→Option (List UInt8)) (k:Int) (s:List UInt8) (es:List Ez) (body els:List Sz):Option (List UInt8) :=
  if xg k s es body.length els.length=true then
   if k=1 then match es with
    | a::_=>zd (some [108,101,116,32]) (zd (tokO 1 0 s) (zd (some [32,61,32]) (zd (prE d a) (some [59,10]))))
    | _=>none
   else if k=2 then match es with
    | a::b::_=>zd (prE d a) (zd (some [32,61,32]) (zd (prE d b) (some [59,10])))
    | _=>none
   else if k=6 then match es with
    | []=>zd (some [114,101,116,117,114,110]) (some [59,10])
    | a::_=>zd (some [114,101,116,117,114,110]) (zd (some [32]) (zd (prE d a) (some [59,10])))
   else if k=7 then match es with
    | a::_=>zd (prE d a) (some [59,10])
    | _=>none
   else if k=4 then match es with
    | a::_=>zd (some [105,102,32]) (zd (prE d a) (zd (some [32]) (zd (blkO f body) (zd (some [32,101,108,115,101,32]) (zd (blkO f els) (some [10]))))))
    | _=>none
   else match es with
    | a::_=>zd (some (if k=5 then [119,104,105,108,101,32] else [105,102,32])) (zd (prE d a) (zd (some [32]) (zd (blkO f body) (some [10]))))
    | _=>none
  else none
theorem zbo (d:Nat) (k:Int) (s:List UInt8) (es:List Ez) (body els:List Sz) (line:Int):prS (d+1) (.mk k s es body els line)=prT d (prS d) k s es body els:=rfl
theorem YZ {w0:World} {es:List Ez} {be:Option Addr} {me ce:Nat} (h:Zj (qN w0.heap.size w0) 5 w0.heap.size w0 es be me ce) (i:Nat) (x:Ez) (hx:es[i]?=some x):∃b o z H D y A G a7,be=some ⟨b,o,none⟩∧Zl w0.heap.size w0 x (yp z H D y A G a7)∧ZW w0 b (o+i*5) z H D y A G a7:=by
 obtain ⟨b,o,z,H,D,y,A,G,a7,L,R,U,Q,N,O,J,I,T,_⟩:=h.ez i x hx;exact ⟨b,o,z,H,D,y,A,G,a7,L,Q,⟨R,N,O,J,I,T⟩⟩
theorem ZW.zero {w0:World} {b o:Nat} {a1:Int} {a2:List UInt8} {a3:Int} {a4:Option Addr} {a5 a6:Nat} {a7:Int} (h:ZW w0 b (o+0*5) a1 a2 a3 a4 a5 a6 a7):ZW w0 b o a1 a2 a3 a4 a5 a6 a7:=by
 rw [Nat.zero_mul,Nat.add_zero] at h;exact h
theorem X9 {k:Int} {s:List UInt8} {es:List Ez} {mb ml:Nat} (h:xg k s es mb ml=true) (hk:k=1∨k=3∨k=4∨k=5∨k=7):∃a,es=[a]:=by
 unfold xg hasX at h
 rw [if_pos hk] at h;simp only [Bool.and_eq_true,beq_iff_eq] at h;exact List.length_eq_one_iff.1 h.1.1.1
theorem zei {k:Int} {s:List UInt8} {es:List Ez} {mb ml:Nat} (h:xg k s es mb ml=true):k=1∨k=2∨k=3∨k=4∨k=5∨k=6∨k=7:=by
 unfold xg hasX at h
 simp only [Bool.and_eq_true] at h;have o:=h.1.1.1
 split at o
 ·omega
 ·split at o
  ·omega
  ·split at o
   ·omega
   ·cases o
theorem zbp (w0:World) (hT:ZC w0) (hl:ZA w0):∀d,d≤24→zij w0 d
 | 0,_=>by
  intro fz x c r q t w hx h;obtain ⟨k,s,es,T,ad,line⟩:=x;cases fz with
  | zero=>exact hx.elim
  | succ fz =>
   obtain ⟨be,me,O,R,L,Q,bl,J,N,rfl,_⟩:=hx;exact zfz w0 k s be me O R L Q bl J N line r q t w h
 | d+1,hd=>by
  have hB:zeh w0 d:=Qq w0 d (by omega) (zbp w0 hT hl d (by omega))
  have hX:yO w0 d:=ua w0 hT hl d (by omega)
  intro fz x c r q t w hx h;obtain ⟨k,s,es,T,ad,line⟩:=x;cases fz with
  | zero=>exact hx.elim
  | succ fz =>
  obtain ⟨be,me,O,R,L,Q,bl,J,N,rfl,hs,y,I,aa⟩:=hx;obtain ⟨D,af⟩:∃D:Int,D=((d+1:Nat):Int):=⟨_,rfl⟩;show Calls _ _ #[_,szV k s be me O R L Q bl J N line,_] _ _
  rw [←af];have hD:D-1=(d:Int):=by omega
  have G:1≤D:=by omega
  have H:D≤24:=by omega
  rw [zbo]
  unfold prT
  rw [←I.1,←aa.1]
  by_cases hst:xg k s es L J=true
  ·rw [if_pos hst]
   rcases zei hst with rfl | rfl | rfl | rfl | rfl | rfl | rfl
   ·rw [if_pos rfl]
    obtain ⟨a,rfl⟩:=X9 hst (by omega)
    obtain ⟨b,o,U,a2,Y,W,V,Z,X,rfl,A,z⟩:=YZ y 0 a rfl;obtain rfl:me=1:=y.1;exact zik w0 d D hD G H hT hX s O R L Q bl J N line b o a U a2 Y W V Z X A z [a] y r q t w h hst hs
   ·rw [if_neg (by omega),if_pos rfl]
    obtain ⟨a,c,rfl⟩:∃a c,es=[a,c]:=by
     have h9:=hst
     unfold xg hasX at h9
     simp only [Bool.and_eq_true] at h9;have h8:=h9.1.1.1;rw [if_neg (by omega),if_pos trivial] at h8
     match es,h8 with
     | [a,c],_=>exact ⟨a,c,rfl⟩
    obtain ⟨b,o,U,a2,Y,W,V,Z,X,rfl,A,z⟩:=YZ y 0 a rfl;obtain ⟨b',o',c1,c2,c3,c4,c5,c6,c7,ag,ae,ab⟩:=YZ y 1 c rfl;cases ag
    obtain rfl:me=2:=y.1;exact zil w0 d D hD G H hT hX s O R L Q bl J N line b o a U a2 Y W V Z X A z c c1 c2 c3 c4 c5 c6 c7 ae ab [a,c] y r q t w h hst hs
   ·rw [if_neg (by omega),if_neg (by omega),if_neg (by omega),if_neg (by omega),if_neg (by omega)]
    obtain ⟨a,rfl⟩:=X9 hst (by omega)
    obtain ⟨b,o,U,a2,Y,W,V,Z,X,rfl,A,z⟩:=YZ y 0 a rfl;obtain rfl:me=1:=y.1;exact zin w0 d D hD G H hT hX s _ 1 O R L Q bl J N line [a] y r q t w h hst _ fun q t w h=>zi6 w0 d D hD G H hX hB s O R L Q bl J N line a b o U a2 Y W V Z X A z.zero fz T I r q t w h
   ·rw [if_neg (by omega),if_neg (by omega),if_neg (by omega),if_neg (by omega),if_pos rfl]
    obtain ⟨a,rfl⟩:=X9 hst (by omega)
    obtain ⟨b,o,U,a2,Y,W,V,Z,X,rfl,A,z⟩:=YZ y 0 a rfl;obtain rfl:me=1:=y.1;exact zio w0 d D hD G H hT hX s _ 1 O R L Q bl J N line [a] y r q t w h hst _ fun q t w h=>zi7 w0 d D hD G H hX hB s O R L Q bl J N line a b o U a2 Y W V Z X A z.zero fz T I ad aa r q t w h
   ·rw [if_neg (by omega),if_neg (by omega),if_neg (by omega),if_neg (by omega),if_neg (by omega)]
    obtain ⟨a,rfl⟩:=X9 hst (by omega)
    obtain ⟨b,o,U,a2,Y,W,V,Z,X,rfl,A,z⟩:=YZ y 0 a rfl;obtain rfl:me=1:=y.1;exact zip w0 d D hD G H hT hX s _ 1 O R L Q bl J N line [a] y r q t w h hst _ fun q t w h=>zi5 w0 d D hD G H hX hB s O R L Q bl J N line a b o U a2 Y W V Z X A z.zero fz T I r q t w h
   ·rw [if_neg (by omega),if_neg (by omega),if_pos rfl]
    match es,y with
    | [],y =>
     obtain rfl:me=0:=y.1;exact zg2 w0 d D hD G H hT hX s be O R L Q bl J N line [] y r q t w h hst
    | [a],y =>
     obtain ⟨b,o,U,a2,Y,W,V,Z,X,rfl,A,z⟩:=YZ y 0 a rfl;obtain rfl:me=1:=y.1;exact zg3 w0 d D hD G H hT hX s O R L Q bl J N line b o a U a2 Y W V Z X A z [a] y r q t w h hst
    | _::_::_,_=>exfalso;simp [xg,hasX] at hst
   ·rw [if_neg (by omega),if_neg (by omega),if_neg (by omega),if_pos rfl]
    obtain ⟨a,rfl⟩:=X9 hst (by omega)
    obtain ⟨b,o,U,a2,Y,W,V,Z,X,rfl,A,z⟩:=YZ y 0 a rfl;obtain rfl:me=1:=y.1;exact zim w0 d D hD G H hT hX s O R L Q bl J N line b o a U a2 Y W V Z X A z [a] y r q t w h hst hs
  ·rw [if_neg hst]
   exact ziq w0 d D hD G H hT hX s be me O R L Q bl J N line es y r q t w h k (by simpa using hst)
theorem zbq (w0:World) (hT:ZC w0) (hl:ZA w0) (d:Nat) (hd:d≤24):zeh w0 d:=Qq w0 d hd (zbp w0 hT hl d hd)
theorem Zj.pm {B:Nat} {w:World} {l:List (List UInt8 × List UInt8)} {base:Option Addr} {m cap:Nat} (h:Zj PmZ 2 B w l base m cap):∀i x,l[i]?=some x→∃b o,base=some ⟨b,o,none⟩∧b<B∧x.1.length≤100000000∧x.2.length≤100000000∧w.cell? ⟨b,o+i*2,none⟩=some (.string (zb x.1))∧w.cell? ⟨b,o+i*2+1,none⟩=some (.string (zb x.2)):=by
 intro i x I;obtain ⟨b,o,c,A,z,J,D,⟨rfl,H,G⟩,y⟩:=h.2.2.2 i x I;exact ⟨b,o,A,z,H,G,y 0 _ rfl,y 1 _ rfl⟩
abbrev fzO (s:List UInt8) (b:Option Addr) (m cap:Nat) (u:List UInt8) (b2:Option Addr) (m2 cap2:Nat) (line:Int):Obj:=.cells #[.string (zb s),.slice b m cap,.string (zb u),.slice b2 m2 cap2,.int .i64 line] 71
abbrev fzV (s:List UInt8) (b:Option Addr) (m cap:Nat) (u:List UInt8) (b2:Option Addr) (m2 cap2:Nat) (line:Int):Value:=.agg #[.string (zb s),.slice b m cap,.string (zb u),.slice b2 m2 cap2,.int .i64 line]
theorem Zt {w:World} {N:Nat} {s:List UInt8} {b:Option Addr} {m cap:Nat} {u:List UInt8} {b2:Option Addr} {m2 cap2:Nat} {line:Int} (p:w.heap[N]?=some (fzO s b m cap u b2 m2 cap2 line)):w.cell? ⟨N,0,none⟩=some (.string (zb s))∧w.cell? ⟨N,1,none⟩=some (.slice b m cap)∧w.cell? ⟨N,2,none⟩=some (.string (zb u))∧w.cell? ⟨N,3,none⟩=some (.slice b2 m2 cap2)∧w.cell? ⟨N,4,none⟩=some (.int .i64 line):=by
 refine ⟨?_,?_,?_,?_,?_⟩ <;> (simp only [World.cell?,p];rfl)
theorem zjG (w0:World) (hT:ZC w0) (hl:ZA w0) (s:List UInt8) (l:List (List UInt8 × List UInt8)) (b:Option Addr) (m cap:Nat) (fz:Nat) (body:List Sz) (b2:Option Addr) (m2 cap2:Nat) (line:Int) (hs:s.length≤100000000) (hpm:Zj PmZ 2 w0.heap.size w0 l b m cap) (hbody:Zj (ZE w0.heap.size w0 fz) 6 w0.heap.size w0 body b2 m2 cap2) (r:Nat) (q:Option Nat) (t:List UInt8) (w:World) (h:zy w0 r q t w) :
  Calls Tryz.prog 69 #[.pointer (some ⟨r,0,none⟩),fzV s b m cap [] b2 m2 cap2 line] w (zn w0 r q t w (zd (some [102,110,32]) (zd (tokO 1 0 s) (zd (some [40]) (zd (rowO (l.map parO) l.length) (zd (some [41]) (zd (some [32]) (zd (blkO (prS 24) body) ((some [10])))))))))):=by
 have aG:∀(fn:Fn) (first cap:Array Value) (w:World),(Instr.makeFunc fn first cap).run Tryz.prog w=.ok (.func fn first cap) w:=fun _ _ _ _=>rfl
 obtain ⟨R,hR⟩:∃R,R=zd (some [102,110,32]) (zd (tokO 1 0 s) (zd (some [40]) (zd (rowO (l.map parO) l.length) (zd (some [41]) (zd (some [32]) (zd (blkO (prS 24) body) ((some [10])))))))):=⟨_,rfl⟩;rw [←hR];have ag:Hid (∀(q:Option Nat) (t:List UInt8) (w:World),zy w0 r q t w→Calls Tryz.prog 80 #[.pointer (some ⟨r,0,none⟩),.string (zb s)] w (zn w0 r q t w (tokO 1 0 s))):=fun q t w h=>yu w0 r q t s w hT h hs
 have ae:Hid (∀(q:Option Nat) (t:List UInt8) (w:World),zy w0 r q t w→Calls Tryz.prog 107 #[.pointer (some ⟨r,0,none⟩),.slice b m cap,.func (.func 108) #[.pointer (some ⟨r,0,none⟩)] #[]] w (zn w0 r q t w (rowO (l.map parO) l.length))):=fun q t w h=>by rw [hpm.1];exact X5 w0 l b cap r q t w h hpm.2.1 hpm.2.2.1 hpm.pm hT
 have aC:Hid (∀(q:Option Nat) (t:List UInt8) (w:World),zy w0 r q t w→Calls Tryz.prog 110 #[.pointer (some ⟨r,0,none⟩),.slice b2 m2 cap2,.int .i64 24] w (zn w0 r q t w (blkO (prS 24) body))):=fun q t w h=>zbq w0 hT hl 24 (Nat.le_refl _) fz body b2 m2 cap2 r q t w hbody h
 obtain ⟨w1,G⟩:∃w1,w1=w.alloc (fzO s b m cap [] b2 m2 cap2 line):=⟨_,rfl⟩;have X:Below w.heap.size w w1:=by rw [G];exact (Below.refl _ w).alloc (Nat.le_refl _) _
 have p1:w1.heap[w.heap.size]?=some (fzO s b m cap [] b2 m2 cap2 line):=by rw [G];exact World.alloc_heap_new w _
 have aF:w1.heap.size=w.heap.size+1:=by rw [G];simp
 have am:Hid (zp r q w w1 q w1):=zp.start h X;have aD:Hid (zy w0 r q t w1):=h.below X;have y:Hid (w1.heap[w.heap.size]?=some (fzO s b m cap [] b2 m2 cap2 line)):=p1;have aE:=G.symm;obtain ⟨A,c1,c2,z,D⟩:=Zt p1;generalize tokO 1 0 s=X0 at *;generalize rowO (l.map parO) l.length=X1 at *;generalize blkO (prS 24) body=X2 at *;have HR:Hid (R=zd (some [102,110,32]) (zd X0 (zd (some [40]) (zd X1 (zd (some [41]) (zd (some [32]) (zd X2 ((some [10]))))))))):=hR;clear hR p1 G X h hT hl hpm hbody
 go_enter Tryz.func69,Tryz.ntmps69
 have o:=zw w0 r q (t) [102,110,32] w1 aD.out (by simp)
 go_wp2_with fail
 refine o.mono ?_;clear o A c1 c2 z D;rintro e w2 ⟨q2,V,rfl,al⟩;have L:Hid (zp r q w w1 q2 w2):=am.out.step V;have ao:Hid (zy w0 r q2 (t++[102,110,32]) w2):=al;clear V al;obtain ⟨A,c1,c2,z,D⟩:=Zt ((L.out.block _ (Nat.le_refl _) (by omega)).trans y.out)
 have o:=ag.out q2 (t++[102,110,32]) w2 ao.out;go_wp2_with fail
 refine o.mono ?_;clear o A c1 c2 z D;rintro e w3 ⟨q3,J,ax⟩;cases X0 with
 | none=>subst ax;obtain rfl:R=none:=HR.out;exact ⟨rfl,q3,(L.out.step J).unto,rfl⟩
 | some u0 =>
 obtain ⟨rfl,aA⟩:=ax;have Y:Hid (zp r q w w1 q3 w3):=L.out.step J;have an:Hid (zy w0 r q3 (t++[102,110,32]++u0) w3):=aA;clear J aA;obtain ⟨A,c1,c2,z,D⟩:=Zt ((Y.out.block _ (Nat.le_refl _) (by omega)).trans y.out)
 have o:=zw w0 r q3 (t++[102,110,32]++u0) [40] w3 an.out (by simp)
 go_wp2_with fail
 refine o.mono ?_;clear o A c1 c2 z D;rintro e w4 ⟨q4,U,rfl,ai⟩;have N:Hid (zp r q w w1 q4 w4):=Y.out.step U;have ah:Hid (zy w0 r q4 (t++[102,110,32]++u0++[40]) w4):=ai;clear U ai;obtain ⟨A,c1,c2,z,D⟩:=Zt ((N.out.block _ (Nat.le_refl _) (by omega)).trans y.out)
 have o:=ae.out q4 (t++[102,110,32]++u0++[40]) w4 ah.out;go_wp2_with fail
 refine o.mono ?_;clear o A c1 c2 z D;rintro e w5 ⟨q5,I,ap⟩;cases X1 with
 | none=>subst ap;obtain rfl:R=none:=HR.out;exact ⟨rfl,q5,(N.out.step I).unto,rfl⟩
 | some u1 =>
 obtain ⟨rfl,az⟩:=ap;have ad:Hid (zp r q w w1 q5 w5):=N.out.step I;have aj:Hid (zy w0 r q5 (t++[102,110,32]++u0++[40]++u1) w5):=az;clear I az;obtain ⟨A,c1,c2,z,D⟩:=Zt ((ad.out.block _ (Nat.le_refl _) (by omega)).trans y.out)
 have o:=zw w0 r q5 (t++[102,110,32]++u0++[40]++u1) [41] w5 aj.out (by simp)
 go_wp2_with fail
 refine o.mono ?_;clear o A c1 c2 z D;rintro e w6 ⟨q6,T,rfl,ak⟩;have aa:Hid (zp r q w w1 q6 w6):=ad.out.step T;have aB:Hid (zy w0 r q6 (t++[102,110,32]++u0++[40]++u1++[41]) w6):=ak;clear T ak;obtain ⟨A,c1,c2,z,D⟩:=Zt ((aa.out.block _ (Nat.le_refl _) (by omega)).trans y.out)
 have o:=zw w0 r q6 (t++[102,110,32]++u0++[40]++u1++[41]) [32] w6 aB.out (by simp)
 go_wp2_with fail
 refine o.mono ?_;clear o A c1 c2 z D;rintro e w7 ⟨q7,W,rfl,af⟩;have O:Hid (zp r q w w1 q7 w7):=aa.out.step W;have aq:Hid (zy w0 r q7 (t++[102,110,32]++u0++[40]++u1++[41]++[32]) w7):=af;clear W af;obtain ⟨A,c1,c2,z,D⟩:=Zt ((O.out.block _ (Nat.le_refl _) (by omega)).trans y.out)
 have o:=aC.out q7 (t++[102,110,32]++u0++[40]++u1++[41]++[32]) w7 aq.out;go_wp2_with fail
 refine o.mono ?_;clear o A c1 c2 z D;rintro e w8 ⟨q8,H,av⟩;cases X2 with
 | none=>subst av;obtain rfl:R=none:=HR.out;exact ⟨rfl,q8,(O.out.step H).unto,rfl⟩
 | some u2 =>
 obtain ⟨rfl,aw⟩:=av;have Z:Hid (zp r q w w1 q8 w8):=O.out.step H;have ar:Hid (zy w0 r q8 (t++[102,110,32]++u0++[40]++u1++[41]++[32]++u2) w8):=aw;clear H aw;obtain ⟨A,c1,c2,z,D⟩:=Zt ((Z.out.block _ (Nat.le_refl _) (by omega)).trans y.out)
 have o:=zw w0 r q8 (t++[102,110,32]++u0++[40]++u1++[41]++[32]++u2) [10] w8 ar.out (by simp)
 go_wp2_with fail
 refine o.mono ?_;clear o A c1 c2 z D;rintro e w9 ⟨q9,Q,rfl,ay⟩;have ab:Hid (zp r q w w1 q9 w9):=Z.out.step Q;have au:Hid (zy w0 r q9 (t++[102,110,32]++u0++[40]++u1++[41]++[32]++u2++[10]) w9):=ay;clear Q ay;obtain ⟨A,c1,c2,z,D⟩:=Zt ((ab.out.block _ (Nat.le_refl _) (by omega)).trans y.out)
 obtain rfl:R=some ([102,110,32]++(u0++([40]++(u1++([41]++([32]++(u2++([10])))))))):=HR.out;have HP:Hid (zn w0 r q t w (some ([102,110,32]++(u0++([40]++(u1++([41]++([32]++(u2++([10]))))))))) (.returned (.tuple #[])) w9):=⟨q9,ab.out.unto,rfl,by have:=au.out;simpa only [List.append_assoc] using this⟩
 clear am aD L ao Y an N ah ad aj aa aB O aq Z ar ab au A c1 c2 z D ag ae aC HR y;go_wp2
 exact bodyPost_ret (v:=.tuple #[]) (by simp [results,Tryz.results69,go_sem]) rfl HP.out
theorem zjH (w0:World) (hT:ZC w0) (hl:ZA w0) (s:List UInt8) (l:List (List UInt8 × List UInt8)) (b:Option Addr) (m cap:Nat) (u:List UInt8) (hu:u.length≤100000000) (hne:u≠[]) (fz:Nat) (body:List Sz) (b2:Option Addr) (m2 cap2:Nat) (line:Int) (hs:s.length≤100000000) (hpm:Zj PmZ 2 w0.heap.size w0 l b m cap) (hbody:Zj (ZE w0.heap.size w0 fz) 6 w0.heap.size w0 body b2 m2 cap2) (r:Nat) (q:Option Nat) (t:List UInt8) (w:World) (h:zy w0 r q t w) :
  Calls Tryz.prog 69 #[.pointer (some ⟨r,0,none⟩),fzV s b m cap u b2 m2 cap2 line] w (zn w0 r q t w (zd (some [102,110,32]) (zd (tokO 1 0 s) (zd (some [40]) (zd (rowO (l.map parO) l.length) (zd (some [41]) (zd (some [58,32]) (zd (typeO u) (zd (some [32]) (zd (blkO (prS 24) body) ((some [10])))))))))))):=by
 have aV:∀(fn:Fn) (first cap:Array Value) (w:World),(Instr.makeFunc fn first cap).run Tryz.prog w=.ok (.func fn first cap) w:=fun _ _ _ _=>rfl
 obtain ⟨R,hR⟩:∃R,R=zd (some [102,110,32]) (zd (tokO 1 0 s) (zd (some [40]) (zd (rowO (l.map parO) l.length) (zd (some [41]) (zd (some [58,32]) (zd (typeO u) (zd (some [32]) (zd (blkO (prS 24) body) ((some [10])))))))))):=⟨_,rfl⟩;rw [←hR];have av:Hid (∀(q:Option Nat) (t:List UInt8) (w:World),zy w0 r q t w→Calls Tryz.prog 80 #[.pointer (some ⟨r,0,none⟩),.string (zb s)] w (zn w0 r q t w (tokO 1 0 s))):=fun q t w h=>yu w0 r q t s w hT h hs
 have ar:Hid (∀(q:Option Nat) (t:List UInt8) (w:World),zy w0 r q t w→Calls Tryz.prog 107 #[.pointer (some ⟨r,0,none⟩),.slice b m cap,.func (.func 108) #[.pointer (some ⟨r,0,none⟩)] #[]] w (zn w0 r q t w (rowO (l.map parO) l.length))):=fun q t w h=>by rw [hpm.1];exact X5 w0 l b cap r q t w h hpm.2.1 hpm.2.2.1 hpm.pm hT
 have aQ:Hid (∀(q:Option Nat) (t:List UInt8) (w:World),zy w0 r q t w→Calls Tryz.prog 109 #[.pointer (some ⟨r,0,none⟩),.string (zb u)] w (zn w0 r q t w (typeO u))):=fun q t w h=>Qj w0 r q t u w hT h hu
 have aD:Hid (∀(q:Option Nat) (t:List UInt8) (w:World),zy w0 r q t w→Calls Tryz.prog 110 #[.pointer (some ⟨r,0,none⟩),.slice b2 m2 cap2,.int .i64 24] w (zn w0 r q t w (blkO (prS 24) body))):=fun q t w h=>zbq w0 hT hl 24 (Nat.le_refl _) fz body b2 m2 cap2 r q t w hbody h
 obtain ⟨w1,L⟩:∃w1,w1=w.alloc (fzO s b m cap u b2 m2 cap2 line):=⟨_,rfl⟩;have aj:Below w.heap.size w w1:=by rw [L];exact (Below.refl _ w).alloc (Nat.le_refl _) _
 have p1:w1.heap[w.heap.size]?=some (fzO s b m cap u b2 m2 cap2 line):=by rw [L];exact World.alloc_heap_new w _
 have aT:w1.heap.size=w.heap.size+1:=by rw [L];simp
 have aB:Hid (zp r q w w1 q w1):=zp.start h aj;have aR:Hid (zy w0 r q t w1):=h.below aj;have y:Hid (w1.heap[w.heap.size]?=some (fzO s b m cap u b2 m2 cap2 line)):=p1;have aS:=L.symm;obtain ⟨A,c1,c2,z,D⟩:=Zt p1;have aU:(u==[])=false:=by simpa using hne
 generalize tokO 1 0 s=X0 at *;generalize rowO (l.map parO) l.length=X1 at *;generalize typeO u=X2 at *;generalize blkO (prS 24) body=X3 at *;have HR:Hid (R=zd (some [102,110,32]) (zd X0 (zd (some [40]) (zd X1 (zd (some [41]) (zd (some [58,32]) (zd X2 (zd (some [32]) (zd X3 ((some [10]))))))))))):=hR;clear hR p1 L aj h hT hl hpm hbody hne
 go_enter Tryz.func69,Tryz.ntmps69
 have o:=zw w0 r q (t) [102,110,32] w1 aR.out (by simp)
 go_wp2_with fail
 refine o.mono ?_;clear o A c1 c2 z D;rintro e w2 ⟨q2,ag,rfl,aA⟩;have T:Hid (zp r q w w1 q2 w2):=aB.out.step ag;have aE:Hid (zy w0 r q2 (t++[102,110,32]) w2):=aA;clear ag aA;obtain ⟨A,c1,c2,z,D⟩:=Zt ((T.out.block _ (Nat.le_refl _) (by omega)).trans y.out)
 have o:=av.out q2 (t++[102,110,32]) w2 aE.out;go_wp2_with fail
 refine o.mono ?_;clear o A c1 c2 z D;rintro e w3 ⟨q3,Q,aL⟩;cases X0 with
 | none=>subst aL;obtain rfl:R=none:=HR.out;exact ⟨rfl,q3,(T.out.step Q).unto,rfl⟩
 | some u0 =>
 obtain ⟨rfl,aO⟩:=aL;have ak:Hid (zp r q w w1 q3 w3):=T.out.step Q;have aC:Hid (zy w0 r q3 (t++[102,110,32]++u0) w3):=aO;clear Q aO;obtain ⟨A,c1,c2,z,D⟩:=Zt ((ak.out.block _ (Nat.le_refl _) (by omega)).trans y.out)
 have o:=zw w0 r q3 (t++[102,110,32]++u0) [40] w3 aC.out (by simp)
 go_wp2_with fail
 refine o.mono ?_;clear o A c1 c2 z D;rintro e w4 ⟨q4,ae,rfl,ax⟩;have V:Hid (zp r q w w1 q4 w4):=ak.out.step ae;have aw:Hid (zy w0 r q4 (t++[102,110,32]++u0++[40]) w4):=ax;clear ae ax;obtain ⟨A,c1,c2,z,D⟩:=Zt ((V.out.block _ (Nat.le_refl _) (by omega)).trans y.out)
 have o:=ar.out q4 (t++[102,110,32]++u0++[40]) w4 aw.out;go_wp2_with fail
 refine o.mono ?_;clear o A c1 c2 z D;rintro e w5 ⟨q5,O,aF⟩;cases X1 with
 | none=>subst aF;obtain rfl:R=none:=HR.out;exact ⟨rfl,q5,(V.out.step O).unto,rfl⟩
 | some u1 =>
 obtain ⟨rfl,aN⟩:=aF;have aq:Hid (zp r q w w1 q5 w5):=V.out.step O;have ay:Hid (zy w0 r q5 (t++[102,110,32]++u0++[40]++u1) w5):=aN;clear O aN;obtain ⟨A,c1,c2,z,D⟩:=Zt ((aq.out.block _ (Nat.le_refl _) (by omega)).trans y.out)
 have o:=zw w0 r q5 (t++[102,110,32]++u0++[40]++u1) [41] w5 ay.out (by simp)
 go_wp2_with fail
 refine o.mono ?_;clear o A c1 c2 z D;rintro e w6 ⟨q6,ad,rfl,az⟩;have ao:Hid (zp r q w w1 q6 w6):=aq.out.step ad;have aP:Hid (zy w0 r q6 (t++[102,110,32]++u0++[40]++u1++[41]) w6):=az;clear ad az;obtain ⟨A,c1,c2,z,D⟩:=Zt ((ao.out.block _ (Nat.le_refl _) (by omega)).trans y.out)
 have o:=zw w0 r q6 (t++[102,110,32]++u0++[40]++u1++[41]) [58,32] w6 aP.out (by simp)
 go_wp2_with fail
 refine o.mono ?_;clear o A c1 c2 z D;rintro e w7 ⟨q7,ai,rfl,au⟩;have W:Hid (zp r q w w1 q7 w7):=ao.out.step ai;have aG:Hid (zy w0 r q7 (t++[102,110,32]++u0++[40]++u1++[41]++[58,32]) w7):=au;clear ai au;obtain ⟨A,c1,c2,z,D⟩:=Zt ((W.out.block _ (Nat.le_refl _) (by omega)).trans y.out)
 have o:=aQ.out q7 (t++[102,110,32]++u0++[40]++u1++[41]++[58,32]) w7 aG.out;go_wp2_with fail
 refine o.mono ?_;clear o A c1 c2 z D;rintro e w8 ⟨q8,N,aJ⟩;cases X2 with
 | none=>subst aJ;obtain rfl:R=none:=HR.out;exact ⟨rfl,q8,(W.out.step N).unto,rfl⟩
 | some u2 =>
 obtain ⟨rfl,aK⟩:=aJ;have an:Hid (zp r q w w1 q8 w8):=W.out.step N;have aH:Hid (zy w0 r q8 (t++[102,110,32]++u0++[40]++u1++[41]++[58,32]++u2) w8):=aK;clear N aK;obtain ⟨A,c1,c2,z,D⟩:=Zt ((an.out.block _ (Nat.le_refl _) (by omega)).trans y.out)
 have o:=zw w0 r q8 (t++[102,110,32]++u0++[40]++u1++[41]++[58,32]++u2) [32] w8 aH.out (by simp)
 go_wp2_with fail
 refine o.mono ?_;clear o A c1 c2 z D;rintro e w9 ⟨q9,Y,rfl,aM⟩;have U:Hid (zp r q w w1 q9 w9):=an.out.step Y;have aI:Hid (zy w0 r q9 (t++[102,110,32]++u0++[40]++u1++[41]++[58,32]++u2++[32]) w9):=aM;clear Y aM;obtain ⟨A,c1,c2,z,D⟩:=Zt ((U.out.block _ (Nat.le_refl _) (by omega)).trans y.out)
 have o:=aD.out q9 (t++[102,110,32]++u0++[40]++u1++[41]++[58,32]++u2++[32]) w9 aI.out;go_wp2_with fail
 refine o.mono ?_;clear o A c1 c2 z D;rintro e al ⟨X,G,aa⟩;cases X3 with
 | none=>subst aa;obtain rfl:R=none:=HR.out;exact ⟨rfl,X,(U.out.step G).unto,rfl⟩
 | some u3 =>
 obtain ⟨rfl,ah⟩:=aa;have H:Hid (zp r q w w1 X al):=U.out.step G;have Z:Hid (zy w0 r X (t++[102,110,32]++u0++[40]++u1++[41]++[58,32]++u2++[32]++u3) al):=ah;clear G ah;obtain ⟨A,c1,c2,z,D⟩:=Zt ((H.out.block _ (Nat.le_refl _) (by omega)).trans y.out)
 have o:=zw w0 r X (t++[102,110,32]++u0++[40]++u1++[41]++[58,32]++u2++[32]++u3) [10] al Z.out (by simp)
 go_wp2_with fail
 refine o.mono ?_;clear o A c1 c2 z D;rintro e ap ⟨am,J,rfl,ab⟩;have I:Hid (zp r q w w1 am ap):=H.out.step J;have af:Hid (zy w0 r am (t++[102,110,32]++u0++[40]++u1++[41]++[58,32]++u2++[32]++u3++[10]) ap):=ab;clear J ab;obtain ⟨A,c1,c2,z,D⟩:=Zt ((I.out.block _ (Nat.le_refl _) (by omega)).trans y.out)
 obtain rfl:R=some ([102,110,32]++(u0++([40]++(u1++([41]++([58,32]++(u2++([32]++(u3++([10])))))))))):=HR.out;have HP:Hid (zn w0 r q t w (some ([102,110,32]++(u0++([40]++(u1++([41]++([58,32]++(u2++([32]++(u3++([10]))))))))))) (.returned (.tuple #[])) ap):=⟨am,I.out.unto,rfl,by have:=af.out;simpa only [List.append_assoc] using this⟩
 clear aB aR T aE ak aC V aw aq ay ao aP W aG an aH U aI H Z I af A c1 c2 z D av ar aQ aD HR y;go_wp2
 exact bodyPost_ret (v:=.tuple #[]) (by simp [results,Tryz.results69,go_sem]) rfl HP.out
theorem qO (w0:World) (hT:ZC w0) (hl:ZA w0) (fz:Nat) (x:Fz) (c:List Value) (hx:xE w0.heap.size w0 fz x c) (r:Nat) (q:Option Nat) (t:List UInt8) (w:World) (h:zy w0 r q t w) :
  Calls Tryz.prog 69 #[.pointer (some ⟨r,0,none⟩),.agg c.toArray] w (zn w0 r q t w (funO x)):=by
 obtain ⟨s,l,u,z,line⟩:=x;obtain ⟨b,m,A,H,G,o,rfl,I,J,D,y⟩:=hx;show Calls _ _ #[_,fzV s b m A u H G o line] _ _
 unfold funO
 by_cases hne:u=[]
 ·subst hne
  have:=zjG w0 hT hl s l b m A fz z H G o line I D y r q t w h
  rw [if_pos rfl,zcj];exact this
 ·have:=zjH w0 hT hl s l b m A u J hne fz z H G o line I D y r q t w h
  simp only [if_neg hne,uM];exact this
end Go.Proofs.YtcphojjpapgblaaGreatDoor
