import Derived.Test.YtpejpbbdgblbeaaGreatDoorSWStmK
namespace Go.Proofs.YtpejpbbdgblbeaaGreatDoor
open Go.RowKit Go.Shelf
set_option maxHeartbeats 16000000
set_option maxRecDepth 100000
theorem Zk.sz {B fz:Nat} {w:World} {l:List Sz} {base:Option Addr} {m cap:Nat} (h:Zk (ZN B w fz) 6 B w l base m cap):∀i x,l[i]?=some x→∃b o k s K J G L H O I D N line,base=some ⟨b,o,none⟩∧b<B∧b<w.heap.size∧ZN B w fz x [.int .i64 k,.string (zb s),.slice K J G,.slice L H O,.slice I D N,.int .i64 line] ∧
   w.cell? ⟨b,o+i*6,none⟩=some (.int .i64 k)∧w.cell? ⟨b,o+i*6+1,none⟩=some (.string (zb s))∧w.cell? ⟨b,o+i*6+2,none⟩=some (.slice K J G)∧w.cell? ⟨b,o+i*6+3,none⟩=some (.slice L H O)∧w.cell? ⟨b,o+i*6+4,none⟩=some (.slice I D N)∧w.cell? ⟨b,o+i*6+5,none⟩=some (.int .i64 line):=by
 intro i x W;obtain ⟨b,o,c,Q,T,R,V,z,y⟩:=h.2.2.2 i x W;cases fz with
 | zero=>exact z.elim
 | succ fz =>
  obtain ⟨k,s,Z,U,Y,line⟩:=x;have A:=z;obtain ⟨K,J,G,L,H,O,I,D,N,rfl,_⟩:=A;exact ⟨b,o,k,s,K,J,G,L,H,O,I,D,N,line,Q,T,R,z,y 0 _ rfl,y 1 _ rfl,y 2 _ rfl,y 3 _ rfl,y 4 _ rfl,y 5 _ rfl⟩
theorem qd (w0:World) (d:Nat) (_hd:d≤24) (hS:zf8 w0 d):zcD w0 d:=by
 intro fz l ah m ai r q t w A h;obtain ⟨n,hn⟩:∃n,n=l.length:=⟨_,rfl⟩;have ak:m=n:=by rw [hn];exact A.1
 subst ak;have al:m≤9223372036854775807:=by have h1:=A.2.1;have h2:=A.2.2.1;unfold maxLen at h2;omega
 obtain ⟨R,hR⟩:∃R,R=blkO (prS d) l:=⟨_,rfl⟩;rw [←hR];have HR:Hid (R=zc (some [123,10]) (zc (Yq (l.map (prS d)) m) (some [125]))):=show _=_ by rw [hR,hn];rfl
 have HN:Hid (m=l.length):=hn;have T:Hid (Zk (ZN w0.heap.size w0 fz) 6 w0.heap.size w0 l ah m ai):=A;have I:Hid (zf8 w0 d):=hS;have an:=h.lt.1;have Z:=zt w0 r q t [123,10] w h (by simp)
 clear A hS h hn hR
 go_enter Tryz.func112,Tryz.ntmps112
 go_wp2_with fail
 refine Z.mono ?_;clear Z;rintro e w1 ⟨q1,O,rfl,V⟩;have ag:Hid (zP r q w q1 w1):=O;have af:Hid (zu w0 r q1 (t++[123,10]) w1):=V;clear O V;go_wp2_with fail
 go_loopw [12] (fun i wr=>∃(k:Nat) (Q:Option Nat) (s:List UInt8),k≤m∧i=.int .i64 k∧zP r q w Q wr∧Yq (l.map (prS d)) k=some s∧zu w0 r Q (t++[123,10]++s) wr) (fun i _=>m-(intOf i).toNat)
 case atStart=>exact ⟨0,q1,[],Nat.zero_le _,rfl,ag.out,rfl,by rw [List.append_nil];exact af.out⟩
 case round =>
  obtain ⟨i,Q,U,hk,rfl,N,D,y⟩:=hrel;clear ag af
  by_cases hlt:i<m
  ·obtain ⟨x,hx⟩:∃x,l[i]?=some x:=⟨l[i]'(by rw [←HN.out];exact hlt),List.getElem?_eq_getElem (by rw [←HN.out];exact hlt)⟩
   obtain ⟨b,o,k,s,be,me,ce,bb,mb,cb,bl,ml,cl,line,rfl,G,-,W,m0,m1,m2,m3,m4,m5⟩:=T.out.sz i x hx;have n0:=(y.env.cell (p:=⟨b,o+i*6,none⟩) G).trans m0;have n1:=(y.env.cell (p:=⟨b,o+i*6+1,none⟩) G).trans m1;have n2:=(y.env.cell (p:=⟨b,o+i*6+2,none⟩) G).trans m2;have n3:=(y.env.cell (p:=⟨b,o+i*6+3,none⟩) G).trans m3;have n4:=(y.env.cell (p:=⟨b,o+i*6+4,none⟩) G).trans m4;have n5:=(y.env.cell (p:=⟨b,o+i*6+5,none⟩) G).trans m5;clear m0 m1 m2 m3 m4 m5;have ae:(i:Int)<(m:Int):=by omega
   obtain ⟨w2,J⟩:∃w2,w2=wr.alloc (Vc k s be me ce bb mb cb bl ml cl line):=⟨_,rfl⟩;have p2:w2.heap[wr.heap.size]?=some (Vc k s be me ce bb mb cb bl ml cl line):=by rw [J];exact World.alloc_heap_new wr _
   have H:Hid (zP r q w Q w2):=show zP _ _ _ _ _ by rw [J];exact N.alloc _
   have Y:zu w0 r Q (t++[123,10]++U) w2:=by rw [J];exact y.alloc _
   have L:((l.map (prS d))[i]?).getD none=prS d x:=by rw [List.getElem?_map,hx];rfl
   have ad:Hid (prS d x=none→R=none):=fun h9=>by
    rw [HR.out,VA _ hlt (by rw [L,h9])];rfl
   have aa:Hid (∀u,prS d x=some u→Yq (l.map (prS d)) (i+1)=some (U++u)):=fun u h9=>by
    rw [Yq,D,L,h9];rfl
   have c:=I.out fz x _ r Q (t++[123,10]++U) w2 W Y;obtain ⟨c0,c1,c2,c3,c4,c5⟩:=zv p2;have am:=J.symm;clear L W N y D T I J p2 Y hx;generalize prS d x=X at *;go_wp2_with fail
   refine c.mono ?_;clear c;rintro e w3 ⟨q3,z,hp⟩;cases X with
   | none=>subst hp;obtain rfl:=ad.out rfl;exact ⟨rfl,q3,H.out.trans z,rfl⟩
   | some u =>
    obtain ⟨rfl,K⟩:=hp;have ab:Hid (∃(k':Nat) (q':Option Nat) (s':List UInt8),k'=i+1∧zP r q w q' w3∧Yq (l.map (prS d)) k'=some s'∧zu w0 r q' (t++[123,10]++s') w3):=⟨i+1,q3,_,rfl,H.out.trans z,aa.out u rfl,by rw [←List.append_assoc];exact K⟩
    clear z K aa ad H c0 c1 c2 c3 c4 c5;go_wp2
    obtain ⟨k',q',s',rfl,h1,h2,h3⟩:=ab.out;exact ⟨⟨i+1,q',s',by omega,by go_num,h1,h2,h3⟩,by simp [intOf];omega⟩
  ·obtain rfl:i=m:=by omega
   have ae:¬(i:Int)<(i:Int):=by omega
   have Z:=zt w0 r Q (t++[123,10]++U) [125] wr y (by simp)
   have H:Hid (zP r q w Q wr):=N;have aj:R=some ([123,10]++(U++[125])):=by rw [HR.out,D];rfl
   clear N y D T I;go_wp2_with fail
   refine Z.mono ?_;clear Z;rintro e w3 ⟨q3,z,rfl,K⟩;subst aj;have HP:Hid (zk w0 r q t w (some ([123,10]++(U++[125]))) (.returned (.tuple #[])) w3):=⟨q3,H.out.trans z,rfl,by simpa only [List.append_assoc] using K⟩
   clear z K H HR;go_wp2
   exact bodyPost_ret (v:=.tuple #[]) (by simp [results,Tryz.results112,go_sem]) rfl HP.out
def prT (d:Nat) (f:Sz→Option (List UInt8)) (k:Int) (s:List UInt8) (es:List Ez) (body els:List Sz):Option (List UInt8) :=
  if xM k s es body.length els.length=true then
   if k=1 then match es with
    | a::_=>zc (some [108,101,116,32]) (zc (tokO 1 0 s) (zc (some [32,61,32]) (zc (prE d a) (some [59,10]))))
    | _=>none
   else if k=2 then match es with
    | a::b::_=>zc (prE d a) (zc (some [32,61,32]) (zc (prE d b) (some [59,10])))
    | _=>none
   else if k=6 then match es with
    | []=>zc (some [114,101,116,117,114,110]) (some [59,10])
    | a::_=>zc (some [114,101,116,117,114,110]) (zc (some [32]) (zc (prE d a) (some [59,10])))
   else if k=7 then match es with
    | a::_=>zc (prE d a) (some [59,10])
    | _=>none
   else if k=4 then match es with
    | a::_=>zc (some [105,102,32]) (zc (prE d a) (zc (some [32]) (zc (blkO f body) (zc (some [32,101,108,115,101,32]) (zc (blkO f els) (some [10]))))))
    | _=>none
   else match es with
    | a::_=>zc (some (if k=5 then [119,104,105,108,101,32] else [105,102,32])) (zc (prE d a) (zc (some [32]) (zc (blkO f body) (some [10]))))
    | _=>none
  else none
theorem zdX (d:Nat) (k:Int) (s:List UInt8) (es:List Ez) (body els:List Sz) (line:Int):prS (d+1) (.mk k s es body els line)=prT d (prS d) k s es body els:=rfl
theorem YK {w0:World} {es:List Ez} {be:Option Addr} {me ce:Nat} (h:Zk (qI w0.heap.size w0) 5 w0.heap.size w0 es be me ce) (i:Nat) (x:Ez) (hx:es[i]?=some x):∃b o A z D y s G a7,be=some ⟨b,o,none⟩∧Zs w0.heap.size w0 x (yu A z D y s G a7)∧ZX w0 b (o+i*5) A z D y s G a7:=by
 obtain ⟨b,o,A,z,D,y,s,G,a7,Q,L,R,I,H,N,K,O,J,_⟩:=h.ez i x hx;exact ⟨b,o,A,z,D,y,s,G,a7,Q,I,⟨L,H,N,K,O,J⟩⟩
theorem ZX.zero {w0:World} {b o:Nat} {a1:Int} {a2:List UInt8} {a3:Int} {a4:Option Addr} {a5 a6:Nat} {a7:Int} (h:ZX w0 b (o+0*5) a1 a2 a3 a4 a5 a6 a7):ZX w0 b o a1 a2 a3 a4 a5 a6 a7:=by
 rw [Nat.zero_mul,Nat.add_zero] at h;exact h
theorem XK {k:Int} {s:List UInt8} {es:List Ez} {mb ml:Nat} (h:xM k s es mb ml=true) (hk:k=1∨k=3∨k=4∨k=5∨k=7):∃a,es=[a]:=by
 unfold xM hasX at h
 rw [if_pos hk] at h;simp only [Bool.and_eq_true,beq_iff_eq] at h;exact List.length_eq_one_iff.1 h.1.1.1
theorem zcE {k:Int} {s:List UInt8} {es:List Ez} {mb ml:Nat} (h:xM k s es mb ml=true):k=1∨k=2∨k=3∨k=4∨k=5∨k=6∨k=7:=by
 unfold xM hasX at h
 simp only [Bool.and_eq_true] at h;have o:=h.1.1.1
 split at o
 ·omega
 ·split at o
  ·omega
  ·split at o
   ·omega
   ·cases o
theorem Q6 (w0:World) (hT:ZC w0) (hl:Zz w0):∀d,d≤24→zf8 w0 d
 | 0,_=>by
  intro fz x c r q t w hx h;obtain ⟨k,s,es,T,ad,line⟩:=x;cases fz with
  | zero=>exact hx.elim
  | succ fz =>
   obtain ⟨be,me,O,L,J,N,Q,K,R,rfl,_⟩:=hx;exact zdW w0 k s be me O L J N Q K R line r q t w h
 | d+1,hd=>by
  have hB:zcD w0 d:=qd w0 d (by omega) (Q6 w0 hT hl d (by omega))
  have hX:yD w0 d:=Vz w0 hT hl d (by omega)
  intro fz x c r q t w hx h;obtain ⟨k,s,es,T,ad,line⟩:=x;cases fz with
  | zero=>exact hx.elim
  | succ fz =>
  obtain ⟨be,me,O,L,J,N,Q,K,R,rfl,hs,y,I,aa⟩:=hx;obtain ⟨D,ae⟩:∃D:Int,D=((d+1:Nat):Int):=⟨_,rfl⟩;show Calls _ _ #[_,qP k s be me O L J N Q K R line,_] _ _
  rw [←ae];have hD:D-1=(d:Int):=by omega
  have H:1≤D:=by omega
  have G:D≤24:=by omega
  rw [zdX]
  unfold prT
  rw [←I.1,←aa.1]
  by_cases hst:xM k s es J K=true
  ·rw [if_pos hst]
   rcases zcE hst with rfl | rfl | rfl | rfl | rfl | rfl | rfl
   ·rw [if_pos rfl]
    obtain ⟨a,rfl⟩:=XK hst (by omega)
    obtain ⟨b,o,Y,V,W,U,a5,Z,a7,rfl,A,z⟩:=YK y 0 a rfl;obtain rfl:me=1:=y.1;exact zf9 w0 d D hD H G hT hX s O L J N Q K R line b o a Y V W U a5 Z a7 A z [a] y r q t w h hst hs
   ·rw [if_neg (by omega),if_pos rfl]
    obtain ⟨a,c,rfl⟩:∃a c,es=[a,c]:=by
     have h9:=hst
     unfold xM hasX at h9
     simp only [Bool.and_eq_true] at h9;have h8:=h9.1.1.1;rw [if_neg (by omega),if_pos trivial] at h8
     match es,h8 with
     | [a,c],_=>exact ⟨a,c,rfl⟩
    obtain ⟨b,o,Y,V,W,U,a5,Z,a7,rfl,A,z⟩:=YK y 0 a rfl;obtain ⟨b',o',c1,c2,c3,c4,c5,c6,c7,af,ag,ab⟩:=YK y 1 c rfl;cases af
    obtain rfl:me=2:=y.1;exact zga w0 d D hD H G hT hX s O L J N Q K R line b o a Y V W U a5 Z a7 A z c c1 c2 c3 c4 c5 c6 c7 ag ab [a,c] y r q t w h hst hs
   ·rw [if_neg (by omega),if_neg (by omega),if_neg (by omega),if_neg (by omega),if_neg (by omega)]
    obtain ⟨a,rfl⟩:=XK hst (by omega)
    obtain ⟨b,o,Y,V,W,U,a5,Z,a7,rfl,A,z⟩:=YK y 0 a rfl;obtain rfl:me=1:=y.1;exact zgc w0 d D hD H G hT hX s _ 1 O L J N Q K R line [a] y r q t w h hst _ fun q t w h=>zgL w0 d D hD H G hX hB s O L J N Q K R line a b o Y V W U a5 Z a7 A z.zero fz T I r q t w h
   ·rw [if_neg (by omega),if_neg (by omega),if_neg (by omega),if_neg (by omega),if_pos rfl]
    obtain ⟨a,rfl⟩:=XK hst (by omega)
    obtain ⟨b,o,Y,V,W,U,a5,Z,a7,rfl,A,z⟩:=YK y 0 a rfl;obtain rfl:me=1:=y.1;exact zgd w0 d D hD H G hT hX s _ 1 O L J N Q K R line [a] y r q t w h hst _ fun q t w h=>zgM w0 d D hD H G hX hB s O L J N Q K R line a b o Y V W U a5 Z a7 A z.zero fz T I ad aa r q t w h
   ·rw [if_neg (by omega),if_neg (by omega),if_neg (by omega),if_neg (by omega),if_neg (by omega)]
    obtain ⟨a,rfl⟩:=XK hst (by omega)
    obtain ⟨b,o,Y,V,W,U,a5,Z,a7,rfl,A,z⟩:=YK y 0 a rfl;obtain rfl:me=1:=y.1;exact zge w0 d D hD H G hT hX s _ 1 O L J N Q K R line [a] y r q t w h hst _ fun q t w h=>zgK w0 d D hD H G hX hB s O L J N Q K R line a b o Y V W U a5 Z a7 A z.zero fz T I r q t w h
   ·rw [if_neg (by omega),if_neg (by omega),if_pos rfl]
    match es,y with
    | [],y =>
     obtain rfl:me=0:=y.1;exact ze0 w0 d D hD H G hT hX s be O L J N Q K R line [] y r q t w h hst
    | [a],y =>
     obtain ⟨b,o,Y,V,W,U,a5,Z,a7,rfl,A,z⟩:=YK y 0 a rfl;obtain rfl:me=1:=y.1;exact ze1 w0 d D hD H G hT hX s O L J N Q K R line b o a Y V W U a5 Z a7 A z [a] y r q t w h hst
    | _::_::_,_=>exfalso;simp [xM,hasX] at hst
   ·rw [if_neg (by omega),if_neg (by omega),if_neg (by omega),if_pos rfl]
    obtain ⟨a,rfl⟩:=XK hst (by omega)
    obtain ⟨b,o,Y,V,W,U,a5,Z,a7,rfl,A,z⟩:=YK y 0 a rfl;obtain rfl:me=1:=y.1;exact zgb w0 d D hD H G hT hX s O L J N Q K R line b o a Y V W U a5 Z a7 A z [a] y r q t w h hst hs
  ·rw [if_neg hst]
   exact zgf w0 d D hD H G hT hX s be me O L J N Q K R line es y r q t w h k (by simpa using hst)
theorem Q7 (w0:World) (hT:ZC w0) (hl:Zz w0) (d:Nat) (hd:d≤24):zcD w0 d:=qd w0 d hd (Q6 w0 hT hl d hd)
theorem Zk.pm {B:Nat} {w:World} {l:List (List UInt8 × List UInt8)} {base:Option Addr} {m cap:Nat} (h:Zk PmZ 2 B w l base m cap):∀i x,l[i]?=some x→∃b o,base=some ⟨b,o,none⟩∧b<B∧x.1.length≤100000000∧x.2.length≤100000000∧w.cell? ⟨b,o+i*2,none⟩=some (.string (zb x.1))∧w.cell? ⟨b,o+i*2+1,none⟩=some (.string (zb x.2)):=by
 intro i x G;obtain ⟨b,o,c,z,y,D,A,⟨rfl,H,I⟩,s⟩:=h.2.2.2 i x G;exact ⟨b,o,z,y,H,I,s 0 _ rfl,s 1 _ rfl⟩
abbrev Q8 (s:List UInt8) (b:Option Addr) (m cap:Nat) (u:List UInt8) (b2:Option Addr) (m2 cap2:Nat) (line:Int):Obj:=.cells #[.string (zb s),.slice b m cap,.string (zb u),.slice b2 m2 cap2,.int .i64 line] 72
abbrev fzV (s:List UInt8) (b:Option Addr) (m cap:Nat) (u:List UInt8) (b2:Option Addr) (m2 cap2:Nat) (line:Int):Value:=.agg #[.string (zb s),.slice b m cap,.string (zb u),.slice b2 m2 cap2,.int .i64 line]
theorem Zm {w:World} {N:Nat} {s:List UInt8} {b:Option Addr} {m cap:Nat} {u:List UInt8} {b2:Option Addr} {m2 cap2:Nat} {line:Int} (p:w.heap[N]?=some (Q8 s b m cap u b2 m2 cap2 line)):w.cell? ⟨N,0,none⟩=some (.string (zb s))∧w.cell? ⟨N,1,none⟩=some (.slice b m cap)∧w.cell? ⟨N,2,none⟩=some (.string (zb u))∧w.cell? ⟨N,3,none⟩=some (.slice b2 m2 cap2)∧w.cell? ⟨N,4,none⟩=some (.int .i64 line):=by
 refine ⟨?_,?_,?_,?_,?_⟩ <;> (simp only [World.cell?,p];rfl)
theorem zg8 (w0:World) (hT:ZC w0) (hl:Zz w0) (s:List UInt8) (l:List (List UInt8 × List UInt8)) (b:Option Addr) (m cap:Nat) (fz:Nat) (body:List Sz) (b2:Option Addr) (m2 cap2:Nat) (line:Int) (hs:s.length≤100000000) (hpm:Zk PmZ 2 w0.heap.size w0 l b m cap) (hbody:Zk (ZN w0.heap.size w0 fz) 6 w0.heap.size w0 body b2 m2 cap2) (r:Nat) (q:Option Nat) (t:List UInt8) (w:World) (h:zu w0 r q t w) :
  Calls Tryz.prog 71 #[.pointer (some ⟨r,0,none⟩),fzV s b m cap [] b2 m2 cap2 line] w (zk w0 r q t w (zc (some [102,110,32]) (zc (tokO 1 0 s) (zc (some [40]) (zc (rowO (l.map parO) l.length) (zc (some [41]) (zc (some [32]) (zc (blkO (prS 24) body) ((some [10])))))))))):=by
 have aG:∀(fn:Fn) (first cap:Array Value) (w:World),(Instr.makeFunc fn first cap).run Tryz.prog w=.ok (.func fn first cap) w:=fun _ _ _ _=>rfl
 obtain ⟨R,hR⟩:∃R,R=zc (some [102,110,32]) (zc (tokO 1 0 s) (zc (some [40]) (zc (rowO (l.map parO) l.length) (zc (some [41]) (zc (some [32]) (zc (blkO (prS 24) body) ((some [10])))))))):=⟨_,rfl⟩;rw [←hR];have aD:Hid (∀(q:Option Nat) (t:List UInt8) (w:World),zu w0 r q t w→Calls Tryz.prog 82 #[.pointer (some ⟨r,0,none⟩),.string (zb s)] w (zk w0 r q t w (tokO 1 0 s))):=fun q t w h=>ym w0 r q t s w hT h hs
 have aw:Hid (∀(q:Option Nat) (t:List UInt8) (w:World),zu w0 r q t w→Calls Tryz.prog 109 #[.pointer (some ⟨r,0,none⟩),.slice b m cap,.func (.func 110) #[.pointer (some ⟨r,0,none⟩)] #[]] w (zk w0 r q t w (rowO (l.map parO) l.length))):=fun q t w h=>by rw [hpm.1];exact XF w0 l b cap r q t w h hpm.2.1 hpm.2.2.1 hpm.pm hT
 have az:Hid (∀(q:Option Nat) (t:List UInt8) (w:World),zu w0 r q t w→Calls Tryz.prog 112 #[.pointer (some ⟨r,0,none⟩),.slice b2 m2 cap2,.int .i64 24] w (zk w0 r q t w (blkO (prS 24) body))):=fun q t w h=>Q7 w0 hT hl 24 (Nat.le_refl _) fz body b2 m2 cap2 r q t w hbody h
 obtain ⟨w1,G⟩:∃w1,w1=w.alloc (Q8 s b m cap [] b2 m2 cap2 line):=⟨_,rfl⟩;have Y:Below w.heap.size w w1:=by rw [G];exact (Below.refl _ w).alloc (Nat.le_refl _) _
 have p1:w1.heap[w.heap.size]?=some (Q8 s b m cap [] b2 m2 cap2 line):=by rw [G];exact World.alloc_heap_new w _
 have aE:w1.heap.size=w.heap.size+1:=by rw [G];simp
 have av:Hid (zp r q w w1 q w1):=zp.start h Y;have aA:Hid (zu w0 r q t w1):=h.below Y;have y:Hid (w1.heap[w.heap.size]?=some (Q8 s b m cap [] b2 m2 cap2 line)):=p1;have aF:=G.symm;obtain ⟨z,c1,c2,A,D⟩:=Zm p1;generalize tokO 1 0 s=X0 at *;generalize rowO (l.map parO) l.length=X1 at *;generalize blkO (prS 24) body=X2 at *;have HR:Hid (R=zc (some [102,110,32]) (zc X0 (zc (some [40]) (zc X1 (zc (some [41]) (zc (some [32]) (zc X2 ((some [10]))))))))):=hR;clear hR p1 G Y h hT hl hpm hbody
 go_enter Tryz.func71,Tryz.ntmps71
 have o:=zt w0 r q (t) [102,110,32] w1 aA.out (by simp)
 go_wp2_with fail
 refine o.mono ?_;clear o z c1 c2 A D;rintro e w2 ⟨q2,V,rfl,aq⟩;have N:Hid (zp r q w w1 q2 w2):=av.out.step V;have ao:Hid (zu w0 r q2 (t++[102,110,32]) w2):=aq;clear V aq;obtain ⟨z,c1,c2,A,D⟩:=Zm ((N.out.block _ (Nat.le_refl _) (by omega)).trans y.out)
 have o:=aD.out q2 (t++[102,110,32]) w2 ao.out;go_wp2_with fail
 refine o.mono ?_;clear o z c1 c2 A D;rintro e w3 ⟨q3,H,al⟩;cases X0 with
 | none=>subst al;obtain rfl:R=none:=HR.out;exact ⟨rfl,q3,(N.out.step H).unto,rfl⟩
 | some u0 =>
 obtain ⟨rfl,ar⟩:=al;have W:Hid (zp r q w w1 q3 w3):=N.out.step H;have ae:Hid (zu w0 r q3 (t++[102,110,32]++u0) w3):=ar;clear H ar;obtain ⟨z,c1,c2,A,D⟩:=Zm ((W.out.block _ (Nat.le_refl _) (by omega)).trans y.out)
 have o:=zt w0 r q3 (t++[102,110,32]++u0) [40] w3 ae.out (by simp)
 go_wp2_with fail
 refine o.mono ?_;clear o z c1 c2 A D;rintro e w4 ⟨q4,O,rfl,ak⟩;have K:Hid (zp r q w w1 q4 w4):=W.out.step O;have ay:Hid (zu w0 r q4 (t++[102,110,32]++u0++[40]) w4):=ak;clear O ak;obtain ⟨z,c1,c2,A,D⟩:=Zm ((K.out.block _ (Nat.le_refl _) (by omega)).trans y.out)
 have o:=aw.out q4 (t++[102,110,32]++u0++[40]) w4 ay.out;go_wp2_with fail
 refine o.mono ?_;clear o z c1 c2 A D;rintro e w5 ⟨q5,J,ag⟩;cases X1 with
 | none=>subst ag;obtain rfl:R=none:=HR.out;exact ⟨rfl,q5,(K.out.step J).unto,rfl⟩
 | some u1 =>
 obtain ⟨rfl,ap⟩:=ag;have ad:Hid (zp r q w w1 q5 w5):=K.out.step J;have an:Hid (zu w0 r q5 (t++[102,110,32]++u0++[40]++u1) w5):=ap;clear J ap;obtain ⟨z,c1,c2,A,D⟩:=Zm ((ad.out.block _ (Nat.le_refl _) (by omega)).trans y.out)
 have o:=zt w0 r q5 (t++[102,110,32]++u0++[40]++u1) [41] w5 an.out (by simp)
 go_wp2_with fail
 refine o.mono ?_;clear o z c1 c2 A D;rintro e w6 ⟨q6,T,rfl,af⟩;have ab:Hid (zp r q w w1 q6 w6):=ad.out.step T;have aB:Hid (zu w0 r q6 (t++[102,110,32]++u0++[40]++u1++[41]) w6):=af;clear T af;obtain ⟨z,c1,c2,A,D⟩:=Zm ((ab.out.block _ (Nat.le_refl _) (by omega)).trans y.out)
 have o:=zt w0 r q6 (t++[102,110,32]++u0++[40]++u1++[41]) [32] w6 aB.out (by simp)
 go_wp2_with fail
 refine o.mono ?_;clear o z c1 c2 A D;rintro e w7 ⟨q7,U,rfl,au⟩;have L:Hid (zp r q w w1 q7 w7):=ab.out.step U;have ah:Hid (zu w0 r q7 (t++[102,110,32]++u0++[40]++u1++[41]++[32]) w7):=au;clear U au;obtain ⟨z,c1,c2,A,D⟩:=Zm ((L.out.block _ (Nat.le_refl _) (by omega)).trans y.out)
 have o:=az.out q7 (t++[102,110,32]++u0++[40]++u1++[41]++[32]) w7 ah.out;go_wp2_with fail
 refine o.mono ?_;clear o z c1 c2 A D;rintro e w8 ⟨q8,I,aC⟩;cases X2 with
 | none=>subst aC;obtain rfl:R=none:=HR.out;exact ⟨rfl,q8,(L.out.step I).unto,rfl⟩
 | some u2 =>
 obtain ⟨rfl,aj⟩:=aC;have aa:Hid (zp r q w w1 q8 w8):=L.out.step I;have am:Hid (zu w0 r q8 (t++[102,110,32]++u0++[40]++u1++[41]++[32]++u2) w8):=aj;clear I aj;obtain ⟨z,c1,c2,A,D⟩:=Zm ((aa.out.block _ (Nat.le_refl _) (by omega)).trans y.out)
 have o:=zt w0 r q8 (t++[102,110,32]++u0++[40]++u1++[41]++[32]++u2) [10] w8 am.out (by simp)
 go_wp2_with fail
 refine o.mono ?_;clear o z c1 c2 A D;rintro e w9 ⟨q9,Q,rfl,ax⟩;have Z:Hid (zp r q w w1 q9 w9):=aa.out.step Q;have ai:Hid (zu w0 r q9 (t++[102,110,32]++u0++[40]++u1++[41]++[32]++u2++[10]) w9):=ax;clear Q ax;obtain ⟨z,c1,c2,A,D⟩:=Zm ((Z.out.block _ (Nat.le_refl _) (by omega)).trans y.out)
 obtain rfl:R=some ([102,110,32]++(u0++([40]++(u1++([41]++([32]++(u2++([10])))))))):=HR.out;have HP:Hid (zk w0 r q t w (some ([102,110,32]++(u0++([40]++(u1++([41]++([32]++(u2++([10]))))))))) (.returned (.tuple #[])) w9):=⟨q9,Z.out.unto,rfl,by have:=ai.out;simpa only [List.append_assoc] using this⟩
 clear av aA N ao W ae K ay ad an ab aB L ah aa am Z ai z c1 c2 A D aD aw az HR y;go_wp2
 exact bodyPost_ret (v:=.tuple #[]) (by simp [results,Tryz.results71,go_sem]) rfl HP.out
theorem zg9 (w0:World) (hT:ZC w0) (hl:Zz w0) (s:List UInt8) (l:List (List UInt8 × List UInt8)) (b:Option Addr) (m cap:Nat) (u:List UInt8) (hu:u.length≤100000000) (hne:u≠[]) (fz:Nat) (body:List Sz) (b2:Option Addr) (m2 cap2:Nat) (line:Int) (hs:s.length≤100000000) (hpm:Zk PmZ 2 w0.heap.size w0 l b m cap) (hbody:Zk (ZN w0.heap.size w0 fz) 6 w0.heap.size w0 body b2 m2 cap2) (r:Nat) (q:Option Nat) (t:List UInt8) (w:World) (h:zu w0 r q t w) :
  Calls Tryz.prog 71 #[.pointer (some ⟨r,0,none⟩),fzV s b m cap u b2 m2 cap2 line] w (zk w0 r q t w (zc (some [102,110,32]) (zc (tokO 1 0 s) (zc (some [40]) (zc (rowO (l.map parO) l.length) (zc (some [41]) (zc (some [58,32]) (zc (typeO u) (zc (some [32]) (zc (blkO (prS 24) body) ((some [10])))))))))))):=by
 have aV:∀(fn:Fn) (first cap:Array Value) (w:World),(Instr.makeFunc fn first cap).run Tryz.prog w=.ok (.func fn first cap) w:=fun _ _ _ _=>rfl
 obtain ⟨R,hR⟩:∃R,R=zc (some [102,110,32]) (zc (tokO 1 0 s) (zc (some [40]) (zc (rowO (l.map parO) l.length) (zc (some [41]) (zc (some [58,32]) (zc (typeO u) (zc (some [32]) (zc (blkO (prS 24) body) ((some [10])))))))))):=⟨_,rfl⟩;rw [←hR];have aR:Hid (∀(q:Option Nat) (t:List UInt8) (w:World),zu w0 r q t w→Calls Tryz.prog 82 #[.pointer (some ⟨r,0,none⟩),.string (zb s)] w (zk w0 r q t w (tokO 1 0 s))):=fun q t w h=>ym w0 r q t s w hT h hs
 have aJ:Hid (∀(q:Option Nat) (t:List UInt8) (w:World),zu w0 r q t w→Calls Tryz.prog 109 #[.pointer (some ⟨r,0,none⟩),.slice b m cap,.func (.func 110) #[.pointer (some ⟨r,0,none⟩)] #[]] w (zk w0 r q t w (rowO (l.map parO) l.length))):=fun q t w h=>by rw [hpm.1];exact XF w0 l b cap r q t w h hpm.2.1 hpm.2.2.1 hpm.pm hT
 have aN:Hid (∀(q:Option Nat) (t:List UInt8) (w:World),zu w0 r q t w→Calls Tryz.prog 111 #[.pointer (some ⟨r,0,none⟩),.string (zb u)] w (zk w0 r q t w (typeO u))):=fun q t w h=>U2 w0 r q t u w hT h hu
 have aK:Hid (∀(q:Option Nat) (t:List UInt8) (w:World),zu w0 r q t w→Calls Tryz.prog 112 #[.pointer (some ⟨r,0,none⟩),.slice b2 m2 cap2,.int .i64 24] w (zk w0 r q t w (blkO (prS 24) body))):=fun q t w h=>Q7 w0 hT hl 24 (Nat.le_refl _) fz body b2 m2 cap2 r q t w hbody h
 obtain ⟨w1,I⟩:∃w1,w1=w.alloc (Q8 s b m cap u b2 m2 cap2 line):=⟨_,rfl⟩;have al:Below w.heap.size w w1:=by rw [I];exact (Below.refl _ w).alloc (Nat.le_refl _) _
 have p1:w1.heap[w.heap.size]?=some (Q8 s b m cap u b2 m2 cap2 line):=by rw [I];exact World.alloc_heap_new w _
 have aS:w1.heap.size=w.heap.size+1:=by rw [I];simp
 have aI:Hid (zp r q w w1 q w1):=zp.start h al;have aO:Hid (zu w0 r q t w1):=h.below al;have y:Hid (w1.heap[w.heap.size]?=some (Q8 s b m cap u b2 m2 cap2 line)):=p1;have aU:=I.symm;obtain ⟨z,c1,c2,A,D⟩:=Zm p1;have aT:(u==[])=false:=by simpa using hne
 generalize tokO 1 0 s=X0 at *;generalize rowO (l.map parO) l.length=X1 at *;generalize typeO u=X2 at *;generalize blkO (prS 24) body=X3 at *;have HR:Hid (R=zc (some [102,110,32]) (zc X0 (zc (some [40]) (zc X1 (zc (some [41]) (zc (some [58,32]) (zc X2 (zc (some [32]) (zc X3 ((some [10]))))))))))):=hR;clear hR p1 I al h hT hl hpm hbody hne
 go_enter Tryz.func71,Tryz.ntmps71
 have o:=zt w0 r q (t) [102,110,32] w1 aO.out (by simp)
 go_wp2_with fail
 refine o.mono ?_;clear o z c1 c2 A D;rintro e w2 ⟨q2,ag,rfl,aF⟩;have W:Hid (zp r q w w1 q2 w2):=aI.out.step ag;have aD:Hid (zu w0 r q2 (t++[102,110,32]) w2):=aF;clear ag aF;obtain ⟨z,c1,c2,A,D⟩:=Zm ((W.out.block _ (Nat.le_refl _) (by omega)).trans y.out)
 have o:=aR.out q2 (t++[102,110,32]) w2 aD.out;go_wp2_with fail
 refine o.mono ?_;clear o z c1 c2 A D;rintro e w3 ⟨q3,J,aA⟩;cases X0 with
 | none=>subst aA;obtain rfl:R=none:=HR.out;exact ⟨rfl,q3,(W.out.step J).unto,rfl⟩
 | some u0 =>
 obtain ⟨rfl,aG⟩:=aA;have aj:Hid (zp r q w w1 q3 w3):=W.out.step J;have ar:Hid (zu w0 r q3 (t++[102,110,32]++u0) w3):=aG;clear J aG;obtain ⟨z,c1,c2,A,D⟩:=Zm ((aj.out.block _ (Nat.le_refl _) (by omega)).trans y.out)
 have o:=zt w0 r q3 (t++[102,110,32]++u0) [40] w3 ar.out (by simp)
 go_wp2_with fail
 refine o.mono ?_;clear o z c1 c2 A D;rintro e w4 ⟨q4,Y,rfl,az⟩;have Q:Hid (zp r q w w1 q4 w4):=aj.out.step Y;have aM:Hid (zu w0 r q4 (t++[102,110,32]++u0++[40]) w4):=az;clear Y az;obtain ⟨z,c1,c2,A,D⟩:=Zm ((Q.out.block _ (Nat.le_refl _) (by omega)).trans y.out)
 have o:=aJ.out q4 (t++[102,110,32]++u0++[40]) w4 aM.out;go_wp2_with fail
 refine o.mono ?_;clear o z c1 c2 A D;rintro e w5 ⟨q5,N,av⟩;cases X1 with
 | none=>subst av;obtain rfl:R=none:=HR.out;exact ⟨rfl,q5,(Q.out.step N).unto,rfl⟩
 | some u1 =>
 obtain ⟨rfl,aE⟩:=av;have ap:Hid (zp r q w w1 q5 w5):=Q.out.step N;have aC:Hid (zu w0 r q5 (t++[102,110,32]++u0++[40]++u1) w5):=aE;clear N aE;obtain ⟨z,c1,c2,A,D⟩:=Zm ((ap.out.block _ (Nat.le_refl _) (by omega)).trans y.out)
 have o:=zt w0 r q5 (t++[102,110,32]++u0++[40]++u1) [41] w5 aC.out (by simp)
 go_wp2_with fail
 refine o.mono ?_;clear o z c1 c2 A D;rintro e w6 ⟨q6,ae,rfl,au⟩;have ao:Hid (zp r q w w1 q6 w6):=ap.out.step ae;have aP:Hid (zu w0 r q6 (t++[102,110,32]++u0++[40]++u1++[41]) w6):=au;clear ae au;obtain ⟨z,c1,c2,A,D⟩:=Zm ((ao.out.block _ (Nat.le_refl _) (by omega)).trans y.out)
 have o:=zt w0 r q6 (t++[102,110,32]++u0++[40]++u1++[41]) [58,32] w6 aP.out (by simp)
 go_wp2_with fail
 refine o.mono ?_;clear o z c1 c2 A D;rintro e w7 ⟨q7,af,rfl,aH⟩;have V:Hid (zp r q w w1 q7 w7):=ao.out.step af;have aw:Hid (zu w0 r q7 (t++[102,110,32]++u0++[40]++u1++[41]++[58,32]) w7):=aH;clear af aH;obtain ⟨z,c1,c2,A,D⟩:=Zm ((V.out.block _ (Nat.le_refl _) (by omega)).trans y.out)
 have o:=aN.out q7 (t++[102,110,32]++u0++[40]++u1++[41]++[58,32]) w7 aw.out;go_wp2_with fail
 refine o.mono ?_;clear o z c1 c2 A D;rintro e w8 ⟨q8,L,aQ⟩;cases X2 with
 | none=>subst aQ;obtain rfl:R=none:=HR.out;exact ⟨rfl,q8,(V.out.step L).unto,rfl⟩
 | some u2 =>
 obtain ⟨rfl,ay⟩:=aQ;have am:Hid (zp r q w w1 q8 w8):=V.out.step L;have aB:Hid (zu w0 r q8 (t++[102,110,32]++u0++[40]++u1++[41]++[58,32]++u2) w8):=ay;clear L ay;obtain ⟨z,c1,c2,A,D⟩:=Zm ((am.out.block _ (Nat.le_refl _) (by omega)).trans y.out)
 have o:=zt w0 r q8 (t++[102,110,32]++u0++[40]++u1++[41]++[58,32]++u2) [32] w8 aB.out (by simp)
 go_wp2_with fail
 refine o.mono ?_;clear o z c1 c2 A D;rintro e w9 ⟨q9,Z,rfl,aL⟩;have T:Hid (zp r q w w1 q9 w9):=am.out.step Z;have ax:Hid (zu w0 r q9 (t++[102,110,32]++u0++[40]++u1++[41]++[58,32]++u2++[32]) w9):=aL;clear Z aL;obtain ⟨z,c1,c2,A,D⟩:=Zm ((T.out.block _ (Nat.le_refl _) (by omega)).trans y.out)
 have o:=aK.out q9 (t++[102,110,32]++u0++[40]++u1++[41]++[58,32]++u2++[32]) w9 ax.out;go_wp2_with fail
 refine o.mono ?_;clear o z c1 c2 A D;rintro e ak ⟨U,G,ad⟩;cases X3 with
 | none=>subst ad;obtain rfl:R=none:=HR.out;exact ⟨rfl,U,(T.out.step G).unto,rfl⟩
 | some u3 =>
 obtain ⟨rfl,ab⟩:=ad;have O:Hid (zp r q w w1 U ak):=T.out.step G;have aa:Hid (zu w0 r U (t++[102,110,32]++u0++[40]++u1++[41]++[58,32]++u2++[32]++u3) ak):=ab;clear G ab;obtain ⟨z,c1,c2,A,D⟩:=Zm ((O.out.block _ (Nat.le_refl _) (by omega)).trans y.out)
 have o:=zt w0 r U (t++[102,110,32]++u0++[40]++u1++[41]++[58,32]++u2++[32]++u3) [10] ak aa.out (by simp)
 go_wp2_with fail
 refine o.mono ?_;clear o z c1 c2 A D;rintro e an ⟨aq,H,rfl,ai⟩;have K:Hid (zp r q w w1 aq an):=O.out.step H;have ah:Hid (zu w0 r aq (t++[102,110,32]++u0++[40]++u1++[41]++[58,32]++u2++[32]++u3++[10]) an):=ai;clear H ai;obtain ⟨z,c1,c2,A,D⟩:=Zm ((K.out.block _ (Nat.le_refl _) (by omega)).trans y.out)
 obtain rfl:R=some ([102,110,32]++(u0++([40]++(u1++([41]++([58,32]++(u2++([32]++(u3++([10])))))))))):=HR.out;have HP:Hid (zk w0 r q t w (some ([102,110,32]++(u0++([40]++(u1++([41]++([58,32]++(u2++([32]++(u3++([10]))))))))))) (.returned (.tuple #[])) an):=⟨aq,K.out.unto,rfl,by have:=ah.out;simpa only [List.append_assoc] using this⟩
 clear aI aO W aD aj ar Q aM ap aC ao aP V aw am aB T ax O aa K ah z c1 c2 A D aR aJ aN aK HR y;go_wp2
 exact bodyPost_ret (v:=.tuple #[]) (by simp [results,Tryz.results71,go_sem]) rfl HP.out
theorem UH (w0:World) (hT:ZC w0) (hl:Zz w0) (fz:Nat) (x:Fz) (c:List Value) (hx:xY w0.heap.size w0 fz x c) (r:Nat) (q:Option Nat) (t:List UInt8) (w:World) (h:zu w0 r q t w) :
  Calls Tryz.prog 71 #[.pointer (some ⟨r,0,none⟩),.agg c.toArray] w (zk w0 r q t w (funO x)):=by
 obtain ⟨s,l,u,z,line⟩:=x;obtain ⟨b,m,A,H,G,y,rfl,I,J,D,o⟩:=hx;show Calls _ _ #[_,fzV s b m A u H G y line] _ _
 unfold funO
 by_cases hne:u=[]
 ·subst hne
  have:=zg8 w0 hT hl s l b m A fz z H G y line I D o r q t w h
  rw [if_pos rfl,zaQ];exact this
 ·have:=zg9 w0 hT hl s l b m A u J hne fz z H G y line I D o r q t w h
  simp only [if_neg hne,VV];exact this
end Go.Proofs.YtpejpbbdgblbeaaGreatDoor
