import Derived.Test.YtpejpbbdgblbeaaGreatDoorSWStmK
namespace Go.Proofs.YtpejpbbdgblbeaaGreatDoor
open Go.RowKit Go.Shelf
set_option maxHeartbeats 16000000
set_option maxRecDepth 100000
theorem Zr.sz {B fz:Nat} {w:World} {l:List Sz} {base:Option Addr} {m cap:Nat} (h:Zr (ZW B w fz) 6 B w l base m cap):∀i x,l[i]?=some x→∃b o k s J H O G N D bl L I line,base=some ⟨b,o,none⟩∧b<B∧b<w.heap.size∧ZW B w fz x [.int .i64 k,.string (zb s),.slice J H O,.slice G N D,.slice bl L I,.int .i64 line] ∧
   w.cell? ⟨b,o+i*6,none⟩=some (.int .i64 k)∧w.cell? ⟨b,o+i*6+1,none⟩=some (.string (zb s))∧w.cell? ⟨b,o+i*6+2,none⟩=some (.slice J H O)∧w.cell? ⟨b,o+i*6+3,none⟩=some (.slice G N D)∧w.cell? ⟨b,o+i*6+4,none⟩=some (.slice bl L I)∧w.cell? ⟨b,o+i*6+5,none⟩=some (.int .i64 line):=by
 intro i x W;obtain ⟨b,o,c,R,Q,T,V,z,y⟩:=h.2.2.2 i x W;cases fz with
 | zero=>exact z.elim
 | succ fz =>
  obtain ⟨k,s,Z,U,Y,line⟩:=x;have A:=z;obtain ⟨J,H,O,G,N,D,bl,L,I,rfl,_⟩:=A;exact ⟨b,o,k,s,J,H,O,G,N,D,bl,L,I,line,R,Q,T,z,y 0 _ rfl,y 1 _ rfl,y 2 _ rfl,y 3 _ rfl,y 4 _ rfl,y 5 _ rfl⟩
theorem Qh (w0:World) (d:Nat) (_hd:d≤24) (hS:zh7 w0 d):zdV w0 d:=by
 intro fz l af m ak r q t w A h;obtain ⟨n,hn⟩:∃n,n=l.length:=⟨_,rfl⟩;have al:m=n:=by rw [hn];exact A.1
 subst al;have an:m≤9223372036854775807:=by have h1:=A.2.1;have h2:=A.2.2.1;unfold maxLen at h2;omega
 obtain ⟨R,hR⟩:∃R,R=blkO (prS d) l:=⟨_,rfl⟩;rw [←hR];have HR:Hid (R=zc (some [123,10]) (zc (yL (l.map (prS d)) m) (some [125]))):=show _=_ by rw [hR,hn];rfl
 have HN:Hid (m=l.length):=hn;have U:Hid (Zr (ZW w0.heap.size w0 fz) 6 w0.heap.size w0 l af m ak):=A;have N:Hid (zh7 w0 d):=hS;have ao:=h.lt.1;have Z:=zx w0 r q t [123,10] w h (by simp)
 clear A hS h hn hR
 go_enter Tryz.func112,Tryz.ntmps112
 go_wp2_with fail
 refine Z.mono ?_;clear Z;rintro e w1 ⟨q1,T,rfl,ai⟩;have ag:Hid (zT r q w q1 w1):=T;have aa:Hid (zy w0 r q1 (t++[123,10]) w1):=ai;clear T ai;go_wp2_with fail
 go_loopw [12] (fun i wr=>∃(k:Nat) (Q:Option Nat) (s:List UInt8),k≤m∧i=.int .i64 k∧zT r q w Q wr∧yL (l.map (prS d)) k=some s∧zy w0 r Q (t++[123,10]++s) wr) (fun i _=>m-(intOf i).toNat)
 case atStart=>exact ⟨0,q1,[],Nat.zero_le _,rfl,ag.out,rfl,by rw [List.append_nil];exact aa.out⟩
 case round =>
  obtain ⟨i,Q,V,hk,rfl,O,D,y⟩:=hrel;clear ag aa
  by_cases hlt:i<m
  ·obtain ⟨x,hx⟩:∃x,l[i]?=some x:=⟨l[i]'(by rw [←HN.out];exact hlt),List.getElem?_eq_getElem (by rw [←HN.out];exact hlt)⟩
   obtain ⟨b,o,k,s,be,me,ce,bb,mb,cb,bl,ml,cl,line,rfl,H,-,Y,m0,m1,m2,m3,m4,m5⟩:=U.out.sz i x hx;have n0:=(y.env.cell (p:=⟨b,o+i*6,none⟩) H).trans m0;have n1:=(y.env.cell (p:=⟨b,o+i*6+1,none⟩) H).trans m1;have n2:=(y.env.cell (p:=⟨b,o+i*6+2,none⟩) H).trans m2;have n3:=(y.env.cell (p:=⟨b,o+i*6+3,none⟩) H).trans m3;have n4:=(y.env.cell (p:=⟨b,o+i*6+4,none⟩) H).trans m4;have n5:=(y.env.cell (p:=⟨b,o+i*6+5,none⟩) H).trans m5;clear m0 m1 m2 m3 m4 m5;have ad:(i:Int)<(m:Int):=by omega
   obtain ⟨w2,I⟩:∃w2,w2=wr.alloc (VK k s be me ce bb mb cb bl ml cl line):=⟨_,rfl⟩;have p2:w2.heap[wr.heap.size]?=some (VK k s be me ce bb mb cb bl ml cl line):=by rw [I];exact World.alloc_heap_new wr _
   have G:Hid (zT r q w Q w2):=show zT _ _ _ _ _ by rw [I];exact O.alloc _
   have ah:zy w0 r Q (t++[123,10]++V) w2:=by rw [I];exact y.alloc _
   have L:((l.map (prS d))[i]?).getD none=prS d x:=by rw [List.getElem?_map,hx];rfl
   have ab:Hid (prS d x=none→R=none):=fun h9=>by
    rw [HR.out,ud _ hlt (by rw [L,h9])];rfl
   have W:Hid (∀u,prS d x=some u→yL (l.map (prS d)) (i+1)=some (V++u)):=fun u h9=>by
    rw [yL,D,L,h9];rfl
   have c:=N.out fz x _ r Q (t++[123,10]++V) w2 Y ah;obtain ⟨c0,c1,c2,c3,c4,c5⟩:=zz p2;have am:=I.symm;clear L Y O y D U N I p2 ah hx;generalize prS d x=X at *;go_wp2_with fail
   refine c.mono ?_;clear c;rintro e w3 ⟨q3,z,hp⟩;cases X with
   | none=>subst hp;obtain rfl:=ab.out rfl;exact ⟨rfl,q3,G.out.trans z,rfl⟩
   | some u =>
    obtain ⟨rfl,J⟩:=hp;have ae:Hid (∃(k':Nat) (q':Option Nat) (s':List UInt8),k'=i+1∧zT r q w q' w3∧yL (l.map (prS d)) k'=some s'∧zy w0 r q' (t++[123,10]++s') w3):=⟨i+1,q3,_,rfl,G.out.trans z,W.out u rfl,by rw [←List.append_assoc];exact J⟩
    clear z J W ab G c0 c1 c2 c3 c4 c5;go_wp2
    obtain ⟨k',q',s',rfl,h1,h2,h3⟩:=ae.out;exact ⟨⟨i+1,q',s',by omega,by go_num,h1,h2,h3⟩,by simp [intOf];omega⟩
  ·obtain rfl:i=m:=by omega
   have ad:¬(i:Int)<(i:Int):=by omega
   have Z:=zx w0 r Q (t++[123,10]++V) [125] wr y (by simp)
   have G:Hid (zT r q w Q wr):=O;have aj:R=some ([123,10]++(V++[125])):=by rw [HR.out,D];rfl
   clear O y D U N;go_wp2_with fail
   refine Z.mono ?_;clear Z;rintro e w3 ⟨q3,z,rfl,J⟩;subst aj;have HP:Hid (zo w0 r q t w (some ([123,10]++(V++[125]))) (.returned (.tuple #[])) w3):=⟨q3,G.out.trans z,rfl,by simpa only [List.append_assoc] using J⟩
   clear z J G HR;go_wp2
   exact bodyPost_ret (v:=.tuple #[]) (by simp [results,Tryz.results112,go_sem]) rfl HP.out
def prT (d:Nat) (f:Sz→Option (List UInt8)) (k:Int) (s:List UInt8) (es:List Ez) (body els:List Sz):Option (List UInt8) :=
  if Ye k s es body.length els.length=true then
   if k=1 then match es with
    | a::_=>zc (some [108,101,116,32]) (zc (tokO 1 0 s) (zc (some [32,61,32]) (zc (prE d a) (some [59,10]))))
    | _=>none
   else if k=2 then match es with
    | a::b::_=>zc (prE d a) (zc (some [32,61,32]) (zc (prE d b) (some [59,10])))
    | _=>none
   else if k=6 then match es with
    | []=>zc (some [114,101,116,117,114,110]) (some [59,10])
    | a::_=>zc (some [114,101,116,117,114,110]) (zc (some [32]) (zc (prE d a) (some [59,10])))
   else if k=7 then match es with
    | a::_=>zc (prE d a) (some [59,10])
    | _=>none
   else if k=4 then match es with
    | a::_=>zc (some [105,102,32]) (zc (prE d a) (zc (some [32]) (zc (blkO f body) (zc (some [32,101,108,115,101,32]) (zc (blkO f els) (some [10]))))))
    | _=>none
   else match es with
    | a::_=>zc (some (if k=5 then [119,104,105,108,101,32] else [105,102,32])) (zc (prE d a) (zc (some [32]) (zc (blkO f body) (some [10]))))
    | _=>none
  else none
theorem vo (d:Nat) (k:Int) (s:List UInt8) (es:List Ez) (body els:List Sz) (line:Int):prS (d+1) (.mk k s es body els line)=prT d (prS d) k s es body els:=rfl
theorem YX {w0:World} {es:List Ez} {be:Option Addr} {me ce:Nat} (h:Zr (QR w0.heap.size w0) 5 w0.heap.size w0 es be me ce) (i:Nat) (x:Ez) (hx:es[i]?=some x):∃b o y D H G A z a7,be=some ⟨b,o,none⟩∧Zy w0.heap.size w0 x (yz y D H G A z a7)∧ZZ w0 b (o+i*5) y D H G A z a7:=by
 obtain ⟨b,o,y,D,H,G,A,z,a7,Q,L,U,I,J,N,T,O,R,_⟩:=h.ez i x hx;exact ⟨b,o,y,D,H,G,A,z,a7,Q,I,⟨L,J,N,T,O,R⟩⟩
theorem ZZ.zero {w0:World} {b o:Nat} {a1:Int} {a2:List UInt8} {a3:Int} {a4:Option Addr} {a5 a6:Nat} {a7:Int} (h:ZZ w0 b (o+0*5) a1 a2 a3 a4 a5 a6 a7):ZZ w0 b o a1 a2 a3 a4 a5 a6 a7:=by
 rw [Nat.zero_mul,Nat.add_zero] at h;exact h
theorem vq {k:Int} {s:List UInt8} {es:List Ez} {mb ml:Nat} (h:Ye k s es mb ml=true) (hk:k=1∨k=3∨k=4∨k=5∨k=7):∃a,es=[a]:=by
 unfold Ye hasX at h
 rw [if_pos hk] at h;simp only [Bool.and_eq_true,beq_iff_eq] at h;exact List.length_eq_one_iff.1 h.1.1.1
theorem zdW {k:Int} {s:List UInt8} {es:List Ez} {mb ml:Nat} (h:Ye k s es mb ml=true):k=1∨k=2∨k=3∨k=4∨k=5∨k=6∨k=7:=by
 unfold Ye hasX at h
 simp only [Bool.and_eq_true] at h;have o:=h.1.1.1
 split at o
 ·omega
 ·split at o
  ·omega
  ·split at o
   ·omega
   ·cases o
theorem za9 (w0:World) (hT:ZE w0) (hl:ZC w0):∀d,d≤24→zh7 w0 d
 | 0,_=>by
  intro fz x c r q t w hx h;obtain ⟨k,s,es,T,ad,line⟩:=x;cases fz with
  | zero=>exact hx.elim
  | succ fz =>
   obtain ⟨be,me,R,O,L,N,bl,J,Q,rfl,_⟩:=hx;exact zfi w0 k s be me R O L N bl J Q line r q t w h
 | d+1,hd=>by
  have hB:zdV w0 d:=Qh w0 d (by omega) (za9 w0 hT hl d (by omega))
  have hX:yN w0 d:=uc w0 hT hl d (by omega)
  intro fz x c r q t w hx h;obtain ⟨k,s,es,T,ad,line⟩:=x;cases fz with
  | zero=>exact hx.elim
  | succ fz =>
  obtain ⟨be,me,R,O,L,N,bl,J,Q,rfl,hs,y,I,aa⟩:=hx;obtain ⟨D,ae⟩:∃D:Int,D=((d+1:Nat):Int):=⟨_,rfl⟩;show Calls _ _ #[_,QT k s be me R O L N bl J Q line,_] _ _
  rw [←ae];have hD:D-1=(d:Int):=by omega
  have G:1≤D:=by omega
  have H:D≤24:=by omega
  rw [vo]
  unfold prT
  rw [←I.1,←aa.1]
  by_cases hst:Ye k s es L J=true
  ·rw [if_pos hst]
   rcases zdW hst with rfl | rfl | rfl | rfl | rfl | rfl | rfl
   ·rw [if_pos rfl]
    obtain ⟨a,rfl⟩:=vq hst (by omega)
    obtain ⟨b,o,Z,W,a3,Y,a5,V,U,rfl,A,z⟩:=YX y 0 a rfl;obtain rfl:me=1:=y.1;exact zh8 w0 d D hD G H hT hX s R O L N bl J Q line b o a Z W a3 Y a5 V U A z [a] y r q t w h hst hs
   ·rw [if_neg (by omega),if_pos rfl]
    obtain ⟨a,c,rfl⟩:∃a c,es=[a,c]:=by
     have h9:=hst
     unfold Ye hasX at h9
     simp only [Bool.and_eq_true] at h9;have h8:=h9.1.1.1;rw [if_neg (by omega),if_pos trivial] at h8
     match es,h8 with
     | [a,c],_=>exact ⟨a,c,rfl⟩
    obtain ⟨b,o,Z,W,a3,Y,a5,V,U,rfl,A,z⟩:=YX y 0 a rfl;obtain ⟨b',o',c1,c2,c3,c4,c5,c6,c7,af,ag,ab⟩:=YX y 1 c rfl;cases af
    obtain rfl:me=2:=y.1;exact zh9 w0 d D hD G H hT hX s R O L N bl J Q line b o a Z W a3 Y a5 V U A z c c1 c2 c3 c4 c5 c6 c7 ag ab [a,c] y r q t w h hst hs
   ·rw [if_neg (by omega),if_neg (by omega),if_neg (by omega),if_neg (by omega),if_neg (by omega)]
    obtain ⟨a,rfl⟩:=vq hst (by omega)
    obtain ⟨b,o,Z,W,a3,Y,a5,V,U,rfl,A,z⟩:=YX y 0 a rfl;obtain rfl:me=1:=y.1;exact zib w0 d D hD G H hT hX s _ 1 R O L N bl J Q line [a] y r q t w h hst _ fun q t w h=>ziR w0 d D hD G H hX hB s R O L N bl J Q line a b o Z W a3 Y a5 V U A z.zero fz T I r q t w h
   ·rw [if_neg (by omega),if_neg (by omega),if_neg (by omega),if_neg (by omega),if_pos rfl]
    obtain ⟨a,rfl⟩:=vq hst (by omega)
    obtain ⟨b,o,Z,W,a3,Y,a5,V,U,rfl,A,z⟩:=YX y 0 a rfl;obtain rfl:me=1:=y.1;exact zic w0 d D hD G H hT hX s _ 1 R O L N bl J Q line [a] y r q t w h hst _ fun q t w h=>ziS w0 d D hD G H hX hB s R O L N bl J Q line a b o Z W a3 Y a5 V U A z.zero fz T I ad aa r q t w h
   ·rw [if_neg (by omega),if_neg (by omega),if_neg (by omega),if_neg (by omega),if_neg (by omega)]
    obtain ⟨a,rfl⟩:=vq hst (by omega)
    obtain ⟨b,o,Z,W,a3,Y,a5,V,U,rfl,A,z⟩:=YX y 0 a rfl;obtain rfl:me=1:=y.1;exact zid w0 d D hD G H hT hX s _ 1 R O L N bl J Q line [a] y r q t w h hst _ fun q t w h=>ziQ w0 d D hD G H hX hB s R O L N bl J Q line a b o Z W a3 Y a5 V U A z.zero fz T I r q t w h
   ·rw [if_neg (by omega),if_neg (by omega),if_pos rfl]
    match es,y with
    | [],y =>
     obtain rfl:me=0:=y.1;exact zgM w0 d D hD G H hT hX s be R O L N bl J Q line [] y r q t w h hst
    | [a],y =>
     obtain ⟨b,o,Z,W,a3,Y,a5,V,U,rfl,A,z⟩:=YX y 0 a rfl;obtain rfl:me=1:=y.1;exact zgN w0 d D hD G H hT hX s R O L N bl J Q line b o a Z W a3 Y a5 V U A z [a] y r q t w h hst
    | _::_::_,_=>exfalso;simp [Ye,hasX] at hst
   ·rw [if_neg (by omega),if_neg (by omega),if_neg (by omega),if_pos rfl]
    obtain ⟨a,rfl⟩:=vq hst (by omega)
    obtain ⟨b,o,Z,W,a3,Y,a5,V,U,rfl,A,z⟩:=YX y 0 a rfl;obtain rfl:me=1:=y.1;exact zia w0 d D hD G H hT hX s R O L N bl J Q line b o a Z W a3 Y a5 V U A z [a] y r q t w h hst hs
  ·rw [if_neg hst]
   exact zie w0 d D hD G H hT hX s be me R O L N bl J Q line es y r q t w h k (by simpa using hst)
theorem zba (w0:World) (hT:ZE w0) (hl:ZC w0) (d:Nat) (hd:d≤24):zdV w0 d:=Qh w0 d hd (za9 w0 hT hl d hd)
theorem Zr.pm {B:Nat} {w:World} {l:List (List UInt8 × List UInt8)} {base:Option Addr} {m cap:Nat} (h:Zr PmZ 2 B w l base m cap):∀i x,l[i]?=some x→∃b o,base=some ⟨b,o,none⟩∧b<B∧x.1.length≤100000000∧x.2.length≤100000000∧w.cell? ⟨b,o+i*2,none⟩=some (.string (zb x.1))∧w.cell? ⟨b,o+i*2+1,none⟩=some (.string (zb x.2)):=by
 intro i x I;obtain ⟨b,o,c,A,z,J,D,⟨rfl,H,G⟩,y⟩:=h.2.2.2 i x I;exact ⟨b,o,A,z,H,G,y 0 _ rfl,y 1 _ rfl⟩
abbrev fzO (s:List UInt8) (b:Option Addr) (m cap:Nat) (u:List UInt8) (b2:Option Addr) (m2 cap2:Nat) (line:Int):Obj:=.cells #[.string (zb s),.slice b m cap,.string (zb u),.slice b2 m2 cap2,.int .i64 line] 72
abbrev fzV (s:List UInt8) (b:Option Addr) (m cap:Nat) (u:List UInt8) (b2:Option Addr) (m2 cap2:Nat) (line:Int):Value:=.agg #[.string (zb s),.slice b m cap,.string (zb u),.slice b2 m2 cap2,.int .i64 line]
theorem Zt {w:World} {N:Nat} {s:List UInt8} {b:Option Addr} {m cap:Nat} {u:List UInt8} {b2:Option Addr} {m2 cap2:Nat} {line:Int} (p:w.heap[N]?=some (fzO s b m cap u b2 m2 cap2 line)):w.cell? ⟨N,0,none⟩=some (.string (zb s))∧w.cell? ⟨N,1,none⟩=some (.slice b m cap)∧w.cell? ⟨N,2,none⟩=some (.string (zb u))∧w.cell? ⟨N,3,none⟩=some (.slice b2 m2 cap2)∧w.cell? ⟨N,4,none⟩=some (.int .i64 line):=by
 refine ⟨?_,?_,?_,?_,?_⟩ <;> (simp only [World.cell?,p];rfl)
theorem zjo (w0:World) (hT:ZE w0) (hl:ZC w0) (s:List UInt8) (l:List (List UInt8 × List UInt8)) (b:Option Addr) (m cap:Nat) (fz:Nat) (body:List Sz) (b2:Option Addr) (m2 cap2:Nat) (line:Int) (hs:s.length≤100000000) (hpm:Zr PmZ 2 w0.heap.size w0 l b m cap) (hbody:Zr (ZW w0.heap.size w0 fz) 6 w0.heap.size w0 body b2 m2 cap2) (r:Nat) (q:Option Nat) (t:List UInt8) (w:World) (h:zy w0 r q t w) :
  Calls Tryz.prog 71 #[.pointer (some ⟨r,0,none⟩),fzV s b m cap [] b2 m2 cap2 line] w (zo w0 r q t w (zc (some [102,110,32]) (zc (tokO 1 0 s) (zc (some [40]) (zc (rowO (l.map parO) l.length) (zc (some [41]) (zc (some [32]) (zc (blkO (prS 24) body) ((some [10])))))))))):=by
 have aH:∀(fn:Fn) (first cap:Array Value) (w:World),(Instr.makeFunc fn first cap).run Tryz.prog w=.ok (.func fn first cap) w:=fun _ _ _ _=>rfl
 obtain ⟨R,hR⟩:∃R,R=zc (some [102,110,32]) (zc (tokO 1 0 s) (zc (some [40]) (zc (rowO (l.map parO) l.length) (zc (some [41]) (zc (some [32]) (zc (blkO (prS 24) body) ((some [10])))))))):=⟨_,rfl⟩;rw [←hR];have ao:Hid (∀(q:Option Nat) (t:List UInt8) (w:World),zy w0 r q t w→Calls Tryz.prog 82 #[.pointer (some ⟨r,0,none⟩),.string (zb s)] w (zo w0 r q t w (tokO 1 0 s))):=fun q t w h=>yx w0 r q t s w hT h hs
 have av:Hid (∀(q:Option Nat) (t:List UInt8) (w:World),zy w0 r q t w→Calls Tryz.prog 109 #[.pointer (some ⟨r,0,none⟩),.slice b m cap,.func (.func 110) #[.pointer (some ⟨r,0,none⟩)] #[]] w (zo w0 r q t w (rowO (l.map parO) l.length))):=fun q t w h=>by rw [hpm.1];exact X9 w0 l b cap r q t w h hpm.2.1 hpm.2.2.1 hpm.pm hT
 have aD:Hid (∀(q:Option Nat) (t:List UInt8) (w:World),zy w0 r q t w→Calls Tryz.prog 112 #[.pointer (some ⟨r,0,none⟩),.slice b2 m2 cap2,.int .i64 24] w (zo w0 r q t w (blkO (prS 24) body))):=fun q t w h=>zba w0 hT hl 24 (Nat.le_refl _) fz body b2 m2 cap2 r q t w hbody h
 obtain ⟨w1,I⟩:∃w1,w1=w.alloc (fzO s b m cap [] b2 m2 cap2 line):=⟨_,rfl⟩;have ae:Below w.heap.size w w1:=by rw [I];exact (Below.refl _ w).alloc (Nat.le_refl _) _
 have p1:w1.heap[w.heap.size]?=some (fzO s b m cap [] b2 m2 cap2 line):=by rw [I];exact World.alloc_heap_new w _
 have aF:w1.heap.size=w.heap.size+1:=by rw [I];simp
 have aj:Hid (zr r q w w1 q w1):=zr.start h ae;have an:Hid (zy w0 r q t w1):=h.below ae;have y:Hid (w1.heap[w.heap.size]?=some (fzO s b m cap [] b2 m2 cap2 line)):=p1;have aG:=I.symm;obtain ⟨A,c1,c2,D,z⟩:=Zt p1;generalize tokO 1 0 s=X0 at *;generalize rowO (l.map parO) l.length=X1 at *;generalize blkO (prS 24) body=X2 at *;have HR:Hid (R=zc (some [102,110,32]) (zc X0 (zc (some [40]) (zc X1 (zc (some [41]) (zc (some [32]) (zc X2 ((some [10]))))))))):=hR;clear hR p1 I ae h hT hl hpm hbody
 go_enter Tryz.func71,Tryz.ntmps71
 have o:=zx w0 r q (t) [102,110,32] w1 an.out (by simp)
 go_wp2_with fail
 refine o.mono ?_;clear o A c1 c2 D z;rintro e w2 ⟨q2,V,rfl,af⟩;have L:Hid (zr r q w w1 q2 w2):=aj.out.step V;have ax:Hid (zy w0 r q2 (t++[102,110,32]) w2):=af;clear V af;obtain ⟨A,c1,c2,D,z⟩:=Zt ((L.out.block _ (Nat.le_refl _) (by omega)).trans y.out)
 have o:=ao.out q2 (t++[102,110,32]) w2 ax.out;go_wp2_with fail
 refine o.mono ?_;clear o A c1 c2 D z;rintro e w3 ⟨q3,G,ak⟩;cases X0 with
 | none=>subst ak;obtain rfl:R=none:=HR.out;exact ⟨rfl,q3,(L.out.step G).unto,rfl⟩
 | some u0 =>
 obtain ⟨rfl,al⟩:=ak;have Z:Hid (zr r q w w1 q3 w3):=L.out.step G;have aB:Hid (zy w0 r q3 (t++[102,110,32]++u0) w3):=al;clear G al;obtain ⟨A,c1,c2,D,z⟩:=Zt ((Z.out.block _ (Nat.le_refl _) (by omega)).trans y.out)
 have o:=zx w0 r q3 (t++[102,110,32]++u0) [40] w3 aB.out (by simp)
 go_wp2_with fail
 refine o.mono ?_;clear o A c1 c2 D z;rintro e w4 ⟨q4,U,rfl,ar⟩;have N:Hid (zr r q w w1 q4 w4):=Z.out.step U;have au:Hid (zy w0 r q4 (t++[102,110,32]++u0++[40]) w4):=ar;clear U ar;obtain ⟨A,c1,c2,D,z⟩:=Zt ((N.out.block _ (Nat.le_refl _) (by omega)).trans y.out)
 have o:=av.out q4 (t++[102,110,32]++u0++[40]) w4 au.out;go_wp2_with fail
 refine o.mono ?_;clear o A c1 c2 D z;rintro e w5 ⟨q5,J,aA⟩;cases X1 with
 | none=>subst aA;obtain rfl:R=none:=HR.out;exact ⟨rfl,q5,(N.out.step J).unto,rfl⟩
 | some u1 =>
 obtain ⟨rfl,aC⟩:=aA;have ab:Hid (zr r q w w1 q5 w5):=N.out.step J;have ap:Hid (zy w0 r q5 (t++[102,110,32]++u0++[40]++u1) w5):=aC;clear J aC;obtain ⟨A,c1,c2,D,z⟩:=Zt ((ab.out.block _ (Nat.le_refl _) (by omega)).trans y.out)
 have o:=zx w0 r q5 (t++[102,110,32]++u0++[40]++u1) [41] w5 ap.out (by simp)
 go_wp2_with fail
 refine o.mono ?_;clear o A c1 c2 D z;rintro e w6 ⟨q6,T,rfl,aE⟩;have ad:Hid (zr r q w w1 q6 w6):=ab.out.step T;have ah:Hid (zy w0 r q6 (t++[102,110,32]++u0++[40]++u1++[41]) w6):=aE;clear T aE;obtain ⟨A,c1,c2,D,z⟩:=Zt ((ad.out.block _ (Nat.le_refl _) (by omega)).trans y.out)
 have o:=zx w0 r q6 (t++[102,110,32]++u0++[40]++u1++[41]) [32] w6 ah.out (by simp)
 go_wp2_with fail
 refine o.mono ?_;clear o A c1 c2 D z;rintro e w7 ⟨q7,W,rfl,ag⟩;have O:Hid (zr r q w w1 q7 w7):=ad.out.step W;have ai:Hid (zy w0 r q7 (t++[102,110,32]++u0++[40]++u1++[41]++[32]) w7):=ag;clear W ag;obtain ⟨A,c1,c2,D,z⟩:=Zt ((O.out.block _ (Nat.le_refl _) (by omega)).trans y.out)
 have o:=aD.out q7 (t++[102,110,32]++u0++[40]++u1++[41]++[32]) w7 ai.out;go_wp2_with fail
 refine o.mono ?_;clear o A c1 c2 D z;rintro e w8 ⟨q8,H,aw⟩;cases X2 with
 | none=>subst aw;obtain rfl:R=none:=HR.out;exact ⟨rfl,q8,(O.out.step H).unto,rfl⟩
 | some u2 =>
 obtain ⟨rfl,ay⟩:=aw;have Y:Hid (zr r q w w1 q8 w8):=O.out.step H;have aq:Hid (zy w0 r q8 (t++[102,110,32]++u0++[40]++u1++[41]++[32]++u2) w8):=ay;clear H ay;obtain ⟨A,c1,c2,D,z⟩:=Zt ((Y.out.block _ (Nat.le_refl _) (by omega)).trans y.out)
 have o:=zx w0 r q8 (t++[102,110,32]++u0++[40]++u1++[41]++[32]++u2) [10] w8 aq.out (by simp)
 go_wp2_with fail
 refine o.mono ?_;clear o A c1 c2 D z;rintro e w9 ⟨q9,Q,rfl,az⟩;have aa:Hid (zr r q w w1 q9 w9):=Y.out.step Q;have am:Hid (zy w0 r q9 (t++[102,110,32]++u0++[40]++u1++[41]++[32]++u2++[10]) w9):=az;clear Q az;obtain ⟨A,c1,c2,D,z⟩:=Zt ((aa.out.block _ (Nat.le_refl _) (by omega)).trans y.out)
 obtain rfl:R=some ([102,110,32]++(u0++([40]++(u1++([41]++([32]++(u2++([10])))))))):=HR.out;have HP:Hid (zo w0 r q t w (some ([102,110,32]++(u0++([40]++(u1++([41]++([32]++(u2++([10]))))))))) (.returned (.tuple #[])) w9):=⟨q9,aa.out.unto,rfl,by have:=am.out;simpa only [List.append_assoc] using this⟩
 clear aj an L ax Z aB N au ab ap ad ah O ai Y aq aa am A c1 c2 D z ao av aD HR y;go_wp2
 exact bodyPost_ret (v:=.tuple #[]) (by simp [results,Tryz.results71,go_sem]) rfl HP.out
theorem zjp (w0:World) (hT:ZE w0) (hl:ZC w0) (s:List UInt8) (l:List (List UInt8 × List UInt8)) (b:Option Addr) (m cap:Nat) (u:List UInt8) (hu:u.length≤100000000) (hne:u≠[]) (fz:Nat) (body:List Sz) (b2:Option Addr) (m2 cap2:Nat) (line:Int) (hs:s.length≤100000000) (hpm:Zr PmZ 2 w0.heap.size w0 l b m cap) (hbody:Zr (ZW w0.heap.size w0 fz) 6 w0.heap.size w0 body b2 m2 cap2) (r:Nat) (q:Option Nat) (t:List UInt8) (w:World) (h:zy w0 r q t w) :
  Calls Tryz.prog 71 #[.pointer (some ⟨r,0,none⟩),fzV s b m cap u b2 m2 cap2 line] w (zo w0 r q t w (zc (some [102,110,32]) (zc (tokO 1 0 s) (zc (some [40]) (zc (rowO (l.map parO) l.length) (zc (some [41]) (zc (some [58,32]) (zc (typeO u) (zc (some [32]) (zc (blkO (prS 24) body) ((some [10])))))))))))):=by
 have aW:∀(fn:Fn) (first cap:Array Value) (w:World),(Instr.makeFunc fn first cap).run Tryz.prog w=.ok (.func fn first cap) w:=fun _ _ _ _=>rfl
 obtain ⟨R,hR⟩:∃R,R=zc (some [102,110,32]) (zc (tokO 1 0 s) (zc (some [40]) (zc (rowO (l.map parO) l.length) (zc (some [41]) (zc (some [58,32]) (zc (typeO u) (zc (some [32]) (zc (blkO (prS 24) body) ((some [10])))))))))):=⟨_,rfl⟩;rw [←hR];have aD:Hid (∀(q:Option Nat) (t:List UInt8) (w:World),zy w0 r q t w→Calls Tryz.prog 82 #[.pointer (some ⟨r,0,none⟩),.string (zb s)] w (zo w0 r q t w (tokO 1 0 s))):=fun q t w h=>yx w0 r q t s w hT h hs
 have aJ:Hid (∀(q:Option Nat) (t:List UInt8) (w:World),zy w0 r q t w→Calls Tryz.prog 109 #[.pointer (some ⟨r,0,none⟩),.slice b m cap,.func (.func 110) #[.pointer (some ⟨r,0,none⟩)] #[]] w (zo w0 r q t w (rowO (l.map parO) l.length))):=fun q t w h=>by rw [hpm.1];exact X9 w0 l b cap r q t w h hpm.2.1 hpm.2.2.1 hpm.pm hT
 have aR:Hid (∀(q:Option Nat) (t:List UInt8) (w:World),zy w0 r q t w→Calls Tryz.prog 111 #[.pointer (some ⟨r,0,none⟩),.string (zb u)] w (zo w0 r q t w (typeO u))):=fun q t w h=>qZ w0 r q t u w hT h hu
 have aH:Hid (∀(q:Option Nat) (t:List UInt8) (w:World),zy w0 r q t w→Calls Tryz.prog 112 #[.pointer (some ⟨r,0,none⟩),.slice b2 m2 cap2,.int .i64 24] w (zo w0 r q t w (blkO (prS 24) body))):=fun q t w h=>zba w0 hT hl 24 (Nat.le_refl _) fz body b2 m2 cap2 r q t w hbody h
 obtain ⟨w1,L⟩:∃w1,w1=w.alloc (fzO s b m cap u b2 m2 cap2 line):=⟨_,rfl⟩;have aq:Below w.heap.size w w1:=by rw [L];exact (Below.refl _ w).alloc (Nat.le_refl _) _
 have p1:w1.heap[w.heap.size]?=some (fzO s b m cap u b2 m2 cap2 line):=by rw [L];exact World.alloc_heap_new w _
 have aU:w1.heap.size=w.heap.size+1:=by rw [L];simp
 have ay:Hid (zr r q w w1 q w1):=zr.start h aq;have aC:Hid (zy w0 r q t w1):=h.below aq;have y:Hid (w1.heap[w.heap.size]?=some (fzO s b m cap u b2 m2 cap2 line)):=p1;have aV:=L.symm;obtain ⟨A,c1,c2,D,z⟩:=Zt p1;have aT:(u==[])=false:=by simpa using hne
 generalize tokO 1 0 s=X0 at *;generalize rowO (l.map parO) l.length=X1 at *;generalize typeO u=X2 at *;generalize blkO (prS 24) body=X3 at *;have HR:Hid (R=zc (some [102,110,32]) (zc X0 (zc (some [40]) (zc X1 (zc (some [41]) (zc (some [58,32]) (zc X2 (zc (some [32]) (zc X3 ((some [10]))))))))))):=hR;clear hR p1 L aq h hT hl hpm hbody hne
 go_enter Tryz.func71,Tryz.ntmps71
 have o:=zx w0 r q (t) [102,110,32] w1 aC.out (by simp)
 go_wp2_with fail
 refine o.mono ?_;clear o A c1 c2 D z;rintro e w2 ⟨q2,ai,rfl,au⟩;have V:Hid (zr r q w w1 q2 w2):=ay.out.step ai;have aL:Hid (zy w0 r q2 (t++[102,110,32]) w2):=au;clear ai au;obtain ⟨A,c1,c2,D,z⟩:=Zt ((V.out.block _ (Nat.le_refl _) (by omega)).trans y.out)
 have o:=aD.out q2 (t++[102,110,32]) w2 aL.out;go_wp2_with fail
 refine o.mono ?_;clear o A c1 c2 D z;rintro e w3 ⟨q3,H,az⟩;cases X0 with
 | none=>subst az;obtain rfl:R=none:=HR.out;exact ⟨rfl,q3,(V.out.step H).unto,rfl⟩
 | some u0 =>
 obtain ⟨rfl,aA⟩:=az;have am:Hid (zr r q w w1 q3 w3):=V.out.step H;have aP:Hid (zy w0 r q3 (t++[102,110,32]++u0) w3):=aA;clear H aA;obtain ⟨A,c1,c2,D,z⟩:=Zt ((am.out.block _ (Nat.le_refl _) (by omega)).trans y.out)
 have o:=zx w0 r q3 (t++[102,110,32]++u0) [40] w3 aP.out (by simp)
 go_wp2_with fail
 refine o.mono ?_;clear o A c1 c2 D z;rintro e w4 ⟨q4,ab,rfl,aG⟩;have W:Hid (zr r q w w1 q4 w4):=am.out.step ab;have aI:Hid (zy w0 r q4 (t++[102,110,32]++u0++[40]) w4):=aG;clear ab aG;obtain ⟨A,c1,c2,D,z⟩:=Zt ((W.out.block _ (Nat.le_refl _) (by omega)).trans y.out)
 have o:=aJ.out q4 (t++[102,110,32]++u0++[40]) w4 aI.out;go_wp2_with fail
 refine o.mono ?_;clear o A c1 c2 D z;rintro e w5 ⟨q5,O,aO⟩;cases X1 with
 | none=>subst aO;obtain rfl:R=none:=HR.out;exact ⟨rfl,q5,(W.out.step O).unto,rfl⟩
 | some u1 =>
 obtain ⟨rfl,aQ⟩:=aO;have an:Hid (zr r q w w1 q5 w5):=W.out.step O;have aE:Hid (zy w0 r q5 (t++[102,110,32]++u0++[40]++u1) w5):=aQ;clear O aQ;obtain ⟨A,c1,c2,D,z⟩:=Zt ((an.out.block _ (Nat.le_refl _) (by omega)).trans y.out)
 have o:=zx w0 r q5 (t++[102,110,32]++u0++[40]++u1) [41] w5 aE.out (by simp)
 go_wp2_with fail
 refine o.mono ?_;clear o A c1 c2 D z;rintro e w6 ⟨q6,aa,rfl,aS⟩;have ao:Hid (zr r q w w1 q6 w6):=an.out.step aa;have aw:Hid (zy w0 r q6 (t++[102,110,32]++u0++[40]++u1++[41]) w6):=aS;clear aa aS;obtain ⟨A,c1,c2,D,z⟩:=Zt ((ao.out.block _ (Nat.le_refl _) (by omega)).trans y.out)
 have o:=zx w0 r q6 (t++[102,110,32]++u0++[40]++u1++[41]) [58,32] w6 aw.out (by simp)
 go_wp2_with fail
 refine o.mono ?_;clear o A c1 c2 D z;rintro e w7 ⟨q7,aj,rfl,av⟩;have Y:Hid (zr r q w w1 q7 w7):=ao.out.step aj;have ax:Hid (zy w0 r q7 (t++[102,110,32]++u0++[40]++u1++[41]++[58,32]) w7):=av;clear aj av;obtain ⟨A,c1,c2,D,z⟩:=Zt ((Y.out.block _ (Nat.le_refl _) (by omega)).trans y.out)
 have o:=aR.out q7 (t++[102,110,32]++u0++[40]++u1++[41]++[58,32]) w7 ax.out;go_wp2_with fail
 refine o.mono ?_;clear o A c1 c2 D z;rintro e w8 ⟨q8,I,aK⟩;cases X2 with
 | none=>subst aK;obtain rfl:R=none:=HR.out;exact ⟨rfl,q8,(Y.out.step I).unto,rfl⟩
 | some u2 =>
 obtain ⟨rfl,aM⟩:=aK;have al:Hid (zr r q w w1 q8 w8):=Y.out.step I;have aF:Hid (zy w0 r q8 (t++[102,110,32]++u0++[40]++u1++[41]++[58,32]++u2) w8):=aM;clear I aM;obtain ⟨A,c1,c2,D,z⟩:=Zt ((al.out.block _ (Nat.le_refl _) (by omega)).trans y.out)
 have o:=zx w0 r q8 (t++[102,110,32]++u0++[40]++u1++[41]++[58,32]++u2) [32] w8 aF.out (by simp)
 go_wp2_with fail
 refine o.mono ?_;clear o A c1 c2 D z;rintro e w9 ⟨q9,Z,rfl,aN⟩;have U:Hid (zr r q w w1 q9 w9):=al.out.step Z;have aB:Hid (zy w0 r q9 (t++[102,110,32]++u0++[40]++u1++[41]++[58,32]++u2++[32]) w9):=aN;clear Z aN;obtain ⟨A,c1,c2,D,z⟩:=Zt ((U.out.block _ (Nat.le_refl _) (by omega)).trans y.out)
 have o:=aH.out q9 (t++[102,110,32]++u0++[40]++u1++[41]++[58,32]++u2++[32]) w9 aB.out;go_wp2_with fail
 refine o.mono ?_;clear o A c1 c2 D z;rintro e ap ⟨T,G,ah⟩;cases X3 with
 | none=>subst ah;obtain rfl:R=none:=HR.out;exact ⟨rfl,T,(U.out.step G).unto,rfl⟩
 | some u3 =>
 obtain ⟨rfl,ae⟩:=ah;have Q:Hid (zr r q w w1 T ap):=U.out.step G;have ag:Hid (zy w0 r T (t++[102,110,32]++u0++[40]++u1++[41]++[58,32]++u2++[32]++u3) ap):=ae;clear G ae;obtain ⟨A,c1,c2,D,z⟩:=Zt ((Q.out.block _ (Nat.le_refl _) (by omega)).trans y.out)
 have o:=zx w0 r T (t++[102,110,32]++u0++[40]++u1++[41]++[58,32]++u2++[32]++u3) [10] ap ag.out (by simp)
 go_wp2_with fail
 refine o.mono ?_;clear o A c1 c2 D z;rintro e ar ⟨ak,J,rfl,af⟩;have N:Hid (zr r q w w1 ak ar):=Q.out.step J;have ad:Hid (zy w0 r ak (t++[102,110,32]++u0++[40]++u1++[41]++[58,32]++u2++[32]++u3++[10]) ar):=af;clear J af;obtain ⟨A,c1,c2,D,z⟩:=Zt ((N.out.block _ (Nat.le_refl _) (by omega)).trans y.out)
 obtain rfl:R=some ([102,110,32]++(u0++([40]++(u1++([41]++([58,32]++(u2++([32]++(u3++([10])))))))))):=HR.out;have HP:Hid (zo w0 r q t w (some ([102,110,32]++(u0++([40]++(u1++([41]++([58,32]++(u2++([32]++(u3++([10]))))))))))) (.returned (.tuple #[])) ar):=⟨ak,N.out.unto,rfl,by have:=ad.out;simpa only [List.append_assoc] using this⟩
 clear ay aC V aL am aP W aI an aE ao aw Y ax al aF U aB Q ag N ad A c1 c2 D z aD aJ aR aH HR y;go_wp2
 exact bodyPost_ret (v:=.tuple #[]) (by simp [results,Tryz.results71,go_sem]) rfl HP.out
theorem qB (w0:World) (hT:ZE w0) (hl:ZC w0) (fz:Nat) (x:Fz) (c:List Value) (hx:Xl w0.heap.size w0 fz x c) (r:Nat) (q:Option Nat) (t:List UInt8) (w:World) (h:zy w0 r q t w) :
  Calls Tryz.prog 71 #[.pointer (some ⟨r,0,none⟩),.agg c.toArray] w (zo w0 r q t w (funO x)):=by
 obtain ⟨s,l,u,z,line⟩:=x;obtain ⟨b,m,A,G,H,o,rfl,I,J,D,y⟩:=hx;show Calls _ _ #[_,fzV s b m A u G H o line] _ _
 unfold funO
 by_cases hne:u=[]
 ·subst hne
  have:=zjo w0 hT hl s l b m A fz z G H o line I D y r q t w h
  rw [if_pos rfl,zbZ];exact this
 ·have:=zjp w0 hT hl s l b m A u J hne fz z G H o line I D y r q t w h
  simp only [if_neg hne,uF];exact this
end Go.Proofs.YtpejpbbdgblbeaaGreatDoor
