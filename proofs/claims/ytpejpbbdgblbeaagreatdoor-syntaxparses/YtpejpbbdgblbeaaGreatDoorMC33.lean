import Derived.Test.YtpejpbbdgblbeaaGreatDoorSWStmK
namespace Go.Proofs.YtpejpbbdgblbeaaGreatDoor
open Go.RowKit Go.Shelf
set_option maxHeartbeats 16000000
set_option maxRecDepth 100000
theorem ZB.sz {B fz:Nat} {w:World} {l:List Sz} {base:Option Addr} {m cap:Nat} (h:ZB (ZT B w fz) 6 B w l base m cap):∀i x,l[i]?=some x→∃b o k s be me ce bb mb cb bl ml cl line,base=some ⟨b,o,none⟩∧b<B∧b<w.heap.size∧ZT B w fz x [.int .i64 k,.string (za s),.slice be me ce,.slice bb mb cb,.slice bl ml cl,.int .i64 line] ∧
   w.cell? ⟨b,o+i*6,none⟩=some (.int .i64 k)∧w.cell? ⟨b,o+i*6+1,none⟩=some (.string (za s))∧w.cell? ⟨b,o+i*6+2,none⟩=some (.slice be me ce)∧w.cell? ⟨b,o+i*6+3,none⟩=some (.slice bb mb cb)∧w.cell? ⟨b,o+i*6+4,none⟩=some (.slice bl ml cl)∧w.cell? ⟨b,o+i*6+5,none⟩=some (.int .i64 line):=by
 intro i x hx;obtain ⟨b,o,c,hb1,hb2,hb3,hlen,hxx,hcell⟩:=h.2.2.2 i x hx;cases fz with
 | zero=>exact hxx.elim
 | succ fz =>
  obtain ⟨k,s,es,body,els,line⟩:=x;have hxx':=hxx;obtain ⟨be,me,ce,bb,mb,cb,bl,ml,cl,rfl,_⟩:=hxx';exact ⟨b,o,k,s,be,me,ce,bb,mb,cb,bl,ml,cl,line,hb1,hb2,hb3,hxx,hcell 0 _ rfl,hcell 1 _ rfl,hcell 2 _ rfl,hcell 3 _ rfl,hcell 4 _ rfl,hcell 5 _ rfl⟩
theorem Q8 (w0:World) (d:Nat) (_hd:d≤24) (hS:zh2 w0 d):zeJ w0 d:=by
 intro fz l base m cap r q t w hrow h;obtain ⟨n,hn⟩:∃n,n=l.length:=⟨_,rfl⟩;have hmn:m=n:=by rw [hn];exact hrow.1
 subst hmn;have hlen:m≤9223372036854775807:=by have h1:=hrow.2.1;have h2:=hrow.2.2.1;unfold maxLen at h2;omega
 obtain ⟨R,hR⟩:∃R,R=blkO (prS d) l:=⟨_,rfl⟩;rw [←hR];have HR:Hid (R=zd (some [123,10]) (zd (xx (l.map (prS d)) m) (some [125]))):=show _=_ by rw [hR,hn];rfl
 have HN:Hid (m=l.length):=hn;have HCl:Hid (ZB (ZT w0.heap.size w0 fz) 6 w0.heap.size w0 l base m cap):=hrow;have HONE:Hid (zh2 w0 d):=hS;have hrl:=h.lt.1;have cp:=zE w0 r q t [123,10] w h (by simp)
 clear hrow hS h hn hR
 go_enter Tryz.func112,Tryz.ntmps112
 go_wp2_with fail
 refine cp.mono ?_;clear cp;rintro e w1 ⟨q1,hto1,rfl,hw1⟩;have HT1:Hid (zX r q w q1 w1):=hto1;have HW1:Hid (zH w0 r q1 (t++[123,10]) w1):=hw1;clear hto1 hw1;go_wp2_with fail
 go_loopw [12] (fun i wr=>∃(k:Nat) (q2:Option Nat) (s:List UInt8),k≤m∧i=.int .i64 k∧zX r q w q2 wr∧xx (l.map (prS d)) k=some s∧zH w0 r q2 (t++[123,10]++s) wr) (fun i _=>m-(intOf i).toNat)
 case atStart=>exact ⟨0,q1,[],Nat.zero_le _,rfl,HT1.out,rfl,by rw [List.append_nil];exact HW1.out⟩
 case round =>
  obtain ⟨i,q2,s0,hk,rfl,hto,hcat,hwr⟩:=hrel;clear HT1 HW1
  by_cases hlt:i<m
  ·obtain ⟨x,hx⟩:∃x,l[i]?=some x:=⟨l[i]'(by rw [←HN.out];exact hlt),List.getElem?_eq_getElem (by rw [←HN.out];exact hlt)⟩
   obtain ⟨b,o,k,s,be,me,ce,bb,mb,cb,bl,ml,cl,line,rfl,hb1,-,hxx,m0,m1,m2,m3,m4,m5⟩:=HCl.out.sz i x hx;have n0:=(hwr.env.cell (p:=⟨b,o+i*6,none⟩) hb1).trans m0;have n1:=(hwr.env.cell (p:=⟨b,o+i*6+1,none⟩) hb1).trans m1;have n2:=(hwr.env.cell (p:=⟨b,o+i*6+2,none⟩) hb1).trans m2;have n3:=(hwr.env.cell (p:=⟨b,o+i*6+3,none⟩) hb1).trans m3;have n4:=(hwr.env.cell (p:=⟨b,o+i*6+4,none⟩) hb1).trans m4;have n5:=(hwr.env.cell (p:=⟨b,o+i*6+5,none⟩) hb1).trans m5;clear m0 m1 m2 m3 m4 m5;have hlt':(i:Int)<(m:Int):=by omega
   obtain ⟨w2,hw2⟩:∃w2,w2=wr.alloc (VC k s be me ce bb mb cb bl ml cl line):=⟨_,rfl⟩;have p2:w2.heap[wr.heap.size]?=some (VC k s be me ce bb mb cb bl ml cl line):=by rw [hw2];exact World.alloc_heap_new wr _
   have HT2:Hid (zX r q w q2 w2):=show zX _ _ _ _ _ by rw [hw2];exact hto.alloc _
   have hW2:zH w0 r q2 (t++[123,10]++s0) w2:=by rw [hw2];exact hwr.alloc _
   have hget:((l.map (prS d))[i]?).getD none=prS d x:=by rw [List.getElem?_map,hx];rfl
   have HST:Hid (prS d x=none→R=none):=fun h9=>by
    rw [HR.out,u6 _ hlt (by rw [hget,h9])];rfl
   have HNX:Hid (∀u,prS d x=some u→xx (l.map (prS d)) (i+1)=some (s0++u)):=fun u h9=>by
    rw [xx,hcat,hget,h9];rfl
   have c:=HONE.out fz x _ r q2 (t++[123,10]++s0) w2 hxx hW2;obtain ⟨c0,c1,c2,c3,c4,c5⟩:=zF p2;have hw2':=hw2.symm;clear hget hxx hto hwr hcat HCl HONE hw2 p2 hW2 hx;generalize prS d x=X at *;go_wp2_with fail
   refine c.mono ?_;clear c;rintro e w3 ⟨q3,hto3,hp⟩;cases X with
   | none=>subst hp;obtain rfl:=HST.out rfl;exact ⟨rfl,q3,HT2.out.trans hto3,rfl⟩
   | some u =>
    obtain ⟨rfl,hw3⟩:=hp;have HNXT:Hid (∃(k':Nat) (q':Option Nat) (s':List UInt8),k'=i+1∧zX r q w q' w3∧xx (l.map (prS d)) k'=some s'∧zH w0 r q' (t++[123,10]++s') w3):=⟨i+1,q3,_,rfl,HT2.out.trans hto3,HNX.out u rfl,by rw [←List.append_assoc];exact hw3⟩
    clear hto3 hw3 HNX HST HT2 c0 c1 c2 c3 c4 c5;go_wp2
    obtain ⟨k',q',s',rfl,h1,h2,h3⟩:=HNXT.out;exact ⟨⟨i+1,q',s',by omega,by go_num,h1,h2,h3⟩,by simp [intOf];omega⟩
  ·obtain rfl:i=m:=by omega
   have hlt':¬(i:Int)<(i:Int):=by omega
   have cp:=zE w0 r q2 (t++[123,10]++s0) [125] wr hwr (by simp)
   have HT2:Hid (zX r q w q2 wr):=hto;have hRR:R=some ([123,10]++(s0++[125])):=by rw [HR.out,hcat];rfl
   clear hto hwr hcat HCl HONE;go_wp2_with fail
   refine cp.mono ?_;clear cp;rintro e w3 ⟨q3,hto3,rfl,hw3⟩;subst hRR;have HP:Hid (zr w0 r q t w (some ([123,10]++(s0++[125]))) (.returned (.tuple #[])) w3):=⟨q3,HT2.out.trans hto3,rfl,by simpa only [List.append_assoc] using hw3⟩
   clear hto3 hw3 HT2 HR;go_wp2
   exact bodyPost_ret (v:=.tuple #[]) (by simp [results,Tryz.results112,go_sem]) rfl HP.out
def prT (d:Nat) (f:Sz→Option (List UInt8)) (k:Int) (s:List UInt8) (es:List Ez) (body els:List Sz):Option (List UInt8) :=
  if XT k s es body.length els.length=true then
   if k=1 then match es with
    | a::_=>zd (some [108,101,116,32]) (zd (tokO 1 0 s) (zd (some [32,61,32]) (zd (prE d a) (some [59,10]))))
    | _=>none
   else if k=2 then match es with
    | a::b::_=>zd (prE d a) (zd (some [32,61,32]) (zd (prE d b) (some [59,10])))
    | _=>none
   else if k=6 then match es with
    | []=>zd (some [114,101,116,117,114,110]) (some [59,10])
    | a::_=>zd (some [114,101,116,117,114,110]) (zd (some [32]) (zd (prE d a) (some [59,10])))
   else if k=7 then match es with
    | a::_=>zd (prE d a) (some [59,10])
    | _=>none
   else if k=4 then match es with
    | a::_=>zd (some [105,102,32]) (zd (prE d a) (zd (some [32]) (zd (blkO f body) (zd (some [32,101,108,115,101,32]) (zd (blkO f els) (some [10]))))))
    | _=>none
   else match es with
    | a::_=>zd (some (if k=5 then [119,104,105,108,101,32] else [105,102,32])) (zd (prE d a) (zd (some [32]) (zd (blkO f body) (some [10]))))
    | _=>none
  else none
theorem zf9 (d:Nat) (k:Int) (s:List UInt8) (es:List Ez) (body els:List Sz) (line:Int):prS (d+1) (.mk k s es body els line)=prT d (prS d) k s es body els:=rfl
theorem xP {w0:World} {es:List Ez} {be:Option Addr} {me ce:Nat} (h:ZB (EzC w0.heap.size w0) 5 w0.heap.size w0 es be me ce) (i:Nat) (x:Ez) (hx:es[i]?=some x):∃b o a1 a2 a3 a4 a5 a6 a7,be=some ⟨b,o,none⟩∧ZJ w0.heap.size w0 x (Ye a1 a2 a3 a4 a5 a6 a7)∧yI w0 b (o+i*5) a1 a2 a3 a4 a5 a6 a7:=by
 obtain ⟨b,o,a1,a2,a3,a4,a5,a6,a7,h1,h2,h3,h4,m0,m1,m2,m3,m4,_⟩:=h.ez i x hx;exact ⟨b,o,a1,a2,a3,a4,a5,a6,a7,h1,h4,⟨h2,m0,m1,m2,m3,m4⟩⟩
theorem yI.zero {w0:World} {b o:Nat} {a1:Int} {a2:List UInt8} {a3:Int} {a4:Option Addr} {a5 a6:Nat} {a7:Int} (h:yI w0 b (o+0*5) a1 a2 a3 a4 a5 a6 a7):yI w0 b o a1 a2 a3 a4 a5 a6 a7:=by
 rw [Nat.zero_mul,Nat.add_zero] at h;exact h
theorem Va {k:Int} {s:List UInt8} {es:List Ez} {mb ml:Nat} (h:XT k s es mb ml=true) (hk:k=1∨k=3∨k=4∨k=5∨k=7):∃a,es=[a]:=by
 unfold XT hasX at h
 rw [if_pos hk] at h;simp only [Bool.and_eq_true,beq_iff_eq] at h;exact List.length_eq_one_iff.1 h.1.1.1
theorem zeK {k:Int} {s:List UInt8} {es:List Ez} {mb ml:Nat} (h:XT k s es mb ml=true):k=1∨k=2∨k=3∨k=4∨k=5∨k=6∨k=7:=by
 unfold XT hasX at h
 simp only [Bool.and_eq_true] at h;have h1:=h.1.1.1
 split at h1
 ·omega
 ·split at h1
  ·omega
  ·split at h1
   ·omega
   ·cases h1
theorem zb2 (w0:World) (hT:ZV w0) (hl:ZS w0):∀d,d≤24→zh2 w0 d
 | 0,_=>by
  intro fz x c r q t w hx h;obtain ⟨k,s,es,body,els,line⟩:=x;cases fz with
  | zero=>exact hx.elim
  | succ fz =>
   obtain ⟨be,me,ce,bb,mb,cb,bl,ml,cl,rfl,_⟩:=hx;exact zf8 w0 k s be me ce bb mb cb bl ml cl line r q t w h
 | d+1,hd=>by
  have hB:zeJ w0 d:=Q8 w0 d (by omega) (zb2 w0 hT hl d (by omega))
  have hX:Yx w0 d:=uY w0 hT hl d (by omega)
  intro fz x c r q t w hx h;obtain ⟨k,s,es,body,els,line⟩:=x;cases fz with
  | zero=>exact hx.elim
  | succ fz =>
  obtain ⟨be,me,ce,bb,mb,cb,bl,ml,cl,rfl,hs,hes,hbody,hels⟩:=hx;obtain ⟨D,hDD⟩:∃D:Int,D=((d+1:Nat):Int):=⟨_,rfl⟩;show Calls _ _ #[_,QX k s be me ce bb mb cb bl ml cl line,_] _ _
  rw [←hDD];have hD:D-1=(d:Int):=by omega
  have hD1:1≤D:=by omega
  have hD2:D≤24:=by omega
  rw [zf9]
  unfold prT
  rw [←hbody.1,←hels.1]
  by_cases hst:XT k s es mb ml=true
  ·rw [if_pos hst]
   rcases zeK hst with rfl | rfl | rfl | rfl | rfl | rfl | rfl
   ·rw [if_pos rfl]
    obtain ⟨a,rfl⟩:=Va hst (by omega)
    obtain ⟨b,o,a1,a2,a3,a4,a5,a6,a7,rfl,hxa,hkid⟩:=xP hes 0 a rfl;obtain rfl:me=1:=hes.1;exact zh3 w0 d D hD hD1 hD2 hT hX s ce bb mb cb bl ml cl line b o a a1 a2 a3 a4 a5 a6 a7 hxa hkid [a] hes r q t w h hst hs
   ·rw [if_neg (by omega),if_pos rfl]
    obtain ⟨a,c,rfl⟩:∃a c,es=[a,c]:=by
     have h9:=hst
     unfold XT hasX at h9
     simp only [Bool.and_eq_true] at h9;have h8:=h9.1.1.1;rw [if_neg (by omega),if_pos trivial] at h8
     match es,h8 with
     | [a,c],_=>exact ⟨a,c,rfl⟩
    obtain ⟨b,o,a1,a2,a3,a4,a5,a6,a7,rfl,hxa,hkid⟩:=xP hes 0 a rfl;obtain ⟨b',o',c1,c2,c3,c4,c5,c6,c7,hbb,hxc,hkid1⟩:=xP hes 1 c rfl;cases hbb
    obtain rfl:me=2:=hes.1;exact zh4 w0 d D hD hD1 hD2 hT hX s ce bb mb cb bl ml cl line b o a a1 a2 a3 a4 a5 a6 a7 hxa hkid c c1 c2 c3 c4 c5 c6 c7 hxc hkid1 [a,c] hes r q t w h hst hs
   ·rw [if_neg (by omega),if_neg (by omega),if_neg (by omega),if_neg (by omega),if_neg (by omega)]
    obtain ⟨a,rfl⟩:=Va hst (by omega)
    obtain ⟨b,o,a1,a2,a3,a4,a5,a6,a7,rfl,hxa,hkid⟩:=xP hes 0 a rfl;obtain rfl:me=1:=hes.1;exact zh6 w0 d D hD hD1 hD2 hT hX s _ 1 ce bb mb cb bl ml cl line [a] hes r q t w h hst _ fun q t w h=>ziJ w0 d D hD hD1 hD2 hX hB s ce bb mb cb bl ml cl line a b o a1 a2 a3 a4 a5 a6 a7 hxa hkid.zero fz body hbody r q t w h
   ·rw [if_neg (by omega),if_neg (by omega),if_neg (by omega),if_neg (by omega),if_pos rfl]
    obtain ⟨a,rfl⟩:=Va hst (by omega)
    obtain ⟨b,o,a1,a2,a3,a4,a5,a6,a7,rfl,hxa,hkid⟩:=xP hes 0 a rfl;obtain rfl:me=1:=hes.1;exact zh7 w0 d D hD hD1 hD2 hT hX s _ 1 ce bb mb cb bl ml cl line [a] hes r q t w h hst _ fun q t w h=>ziK w0 d D hD hD1 hD2 hX hB s ce bb mb cb bl ml cl line a b o a1 a2 a3 a4 a5 a6 a7 hxa hkid.zero fz body hbody els hels r q t w h
   ·rw [if_neg (by omega),if_neg (by omega),if_neg (by omega),if_neg (by omega),if_neg (by omega)]
    obtain ⟨a,rfl⟩:=Va hst (by omega)
    obtain ⟨b,o,a1,a2,a3,a4,a5,a6,a7,rfl,hxa,hkid⟩:=xP hes 0 a rfl;obtain rfl:me=1:=hes.1;exact zh8 w0 d D hD hD1 hD2 hT hX s _ 1 ce bb mb cb bl ml cl line [a] hes r q t w h hst _ fun q t w h=>ziI w0 d D hD hD1 hD2 hX hB s ce bb mb cb bl ml cl line a b o a1 a2 a3 a4 a5 a6 a7 hxa hkid.zero fz body hbody r q t w h
   ·rw [if_neg (by omega),if_neg (by omega),if_pos rfl]
    match es,hes with
    | [],hes =>
     obtain rfl:me=0:=hes.1;exact zg4 w0 d D hD hD1 hD2 hT hX s be ce bb mb cb bl ml cl line [] hes r q t w h hst
    | [a],hes =>
     obtain ⟨b,o,a1,a2,a3,a4,a5,a6,a7,rfl,hxa,hkid⟩:=xP hes 0 a rfl;obtain rfl:me=1:=hes.1;exact zg5 w0 d D hD hD1 hD2 hT hX s ce bb mb cb bl ml cl line b o a a1 a2 a3 a4 a5 a6 a7 hxa hkid [a] hes r q t w h hst
    | _::_::_,_=>exfalso;simp [XT,hasX] at hst
   ·rw [if_neg (by omega),if_neg (by omega),if_neg (by omega),if_pos rfl]
    obtain ⟨a,rfl⟩:=Va hst (by omega)
    obtain ⟨b,o,a1,a2,a3,a4,a5,a6,a7,rfl,hxa,hkid⟩:=xP hes 0 a rfl;obtain rfl:me=1:=hes.1;exact zh5 w0 d D hD hD1 hD2 hT hX s ce bb mb cb bl ml cl line b o a a1 a2 a3 a4 a5 a6 a7 hxa hkid [a] hes r q t w h hst hs
  ·rw [if_neg hst]
   exact zh9 w0 d D hD hD1 hD2 hT hX s be me ce bb mb cb bl ml cl line es hes r q t w h k (by simpa using hst)
theorem zb3 (w0:World) (hT:ZV w0) (hl:ZS w0) (d:Nat) (hd:d≤24):zeJ w0 d:=Q8 w0 d hd (zb2 w0 hT hl d hd)
theorem ZB.pm {B:Nat} {w:World} {l:List (List UInt8 × List UInt8)} {base:Option Addr} {m cap:Nat} (h:ZB PmZ 2 B w l base m cap):∀i x,l[i]?=some x→∃b o,base=some ⟨b,o,none⟩∧b<B∧x.1.length≤100000000∧x.2.length≤100000000∧w.cell? ⟨b,o+i*2,none⟩=some (.string (za x.1))∧w.cell? ⟨b,o+i*2+1,none⟩=some (.string (za x.2)):=by
 intro i x hx;obtain ⟨b,o,c,hb1,hb2,hb3,hlen,⟨rfl,h1,h2⟩,hcell⟩:=h.2.2.2 i x hx;exact ⟨b,o,hb1,hb2,h1,h2,hcell 0 _ rfl,hcell 1 _ rfl⟩
abbrev fzO (s:List UInt8) (b:Option Addr) (m cap:Nat) (u:List UInt8) (b2:Option Addr) (m2 cap2:Nat) (line:Int):Obj:=.cells #[.string (za s),.slice b m cap,.string (za u),.slice b2 m2 cap2,.int .i64 line] 72
abbrev fzV (s:List UInt8) (b:Option Addr) (m cap:Nat) (u:List UInt8) (b2:Option Addr) (m2 cap2:Nat) (line:Int):Value:=.agg #[.string (za s),.slice b m cap,.string (za u),.slice b2 m2 cap2,.int .i64 line]
theorem ZG {w:World} {N:Nat} {s:List UInt8} {b:Option Addr} {m cap:Nat} {u:List UInt8} {b2:Option Addr} {m2 cap2:Nat} {line:Int} (p:w.heap[N]?=some (fzO s b m cap u b2 m2 cap2 line)):w.cell? ⟨N,0,none⟩=some (.string (za s))∧w.cell? ⟨N,1,none⟩=some (.slice b m cap)∧w.cell? ⟨N,2,none⟩=some (.string (za u))∧w.cell? ⟨N,3,none⟩=some (.slice b2 m2 cap2)∧w.cell? ⟨N,4,none⟩=some (.int .i64 line):=by
 refine ⟨?_,?_,?_,?_,?_⟩ <;> (simp only [World.cell?,p];rfl)
theorem zi8 (w0:World) (hT:ZV w0) (hl:ZS w0) (s:List UInt8) (l:List (List UInt8 × List UInt8)) (b:Option Addr) (m cap:Nat) (fz:Nat) (body:List Sz) (b2:Option Addr) (m2 cap2:Nat) (line:Int) (hs:s.length≤100000000) (hpm:ZB PmZ 2 w0.heap.size w0 l b m cap) (hbody:ZB (ZT w0.heap.size w0 fz) 6 w0.heap.size w0 body b2 m2 cap2) (r:Nat) (q:Option Nat) (t:List UInt8) (w:World) (h:zH w0 r q t w) :
  Calls Tryz.prog 71 #[.pointer (some ⟨r,0,none⟩),fzV s b m cap [] b2 m2 cap2 line] w (zr w0 r q t w (zd (some [102,110,32]) (zd (tokO 1 0 s) (zd (some [40]) (zd (rowO (l.map parO) l.length) (zd (some [41]) (zd (some [32]) (zd (blkO (prS 24) body) ((some [10])))))))))):=by
 have hmf:∀(fn:Fn) (first cap:Array Value) (w:World),(Instr.makeFunc fn first cap).run Tryz.prog w=.ok (.func fn first cap) w:=fun _ _ _ _=>rfl
 obtain ⟨R,hR⟩:∃R,R=zd (some [102,110,32]) (zd (tokO 1 0 s) (zd (some [40]) (zd (rowO (l.map parO) l.length) (zd (some [41]) (zd (some [32]) (zd (blkO (prS 24) body) ((some [10])))))))):=⟨_,rfl⟩;rw [←hR];have HK0:Hid (∀(q:Option Nat) (t:List UInt8) (w:World),zH w0 r q t w→Calls Tryz.prog 82 #[.pointer (some ⟨r,0,none⟩),.string (za s)] w (zr w0 r q t w (tokO 1 0 s))):=fun q t w h=>Yb w0 r q t s w hT h hs
 have HK1:Hid (∀(q:Option Nat) (t:List UInt8) (w:World),zH w0 r q t w→Calls Tryz.prog 109 #[.pointer (some ⟨r,0,none⟩),.slice b m cap,.func (.func 110) #[.pointer (some ⟨r,0,none⟩)] #[]] w (zr w0 r q t w (rowO (l.map parO) l.length))):=fun q t w h=>by rw [hpm.1];exact vX w0 l b cap r q t w h hpm.2.1 hpm.2.2.1 hpm.pm hT
 have HK2:Hid (∀(q:Option Nat) (t:List UInt8) (w:World),zH w0 r q t w→Calls Tryz.prog 112 #[.pointer (some ⟨r,0,none⟩),.slice b2 m2 cap2,.int .i64 24] w (zr w0 r q t w (blkO (prS 24) body))):=fun q t w h=>zb3 w0 hT hl 24 (Nat.le_refl _) fz body b2 m2 cap2 r q t w hbody h
 obtain ⟨w1,hw1⟩:∃w1,w1=w.alloc (fzO s b m cap [] b2 m2 cap2 line):=⟨_,rfl⟩;have hb1:Below w.heap.size w w1:=by rw [hw1];exact (Below.refl _ w).alloc (Nat.le_refl _) _
 have p1:w1.heap[w.heap.size]?=some (fzO s b m cap [] b2 m2 cap2 line):=by rw [hw1];exact World.alloc_heap_new w _
 have hsz1:w1.heap.size=w.heap.size+1:=by rw [hw1];simp
 have HL1:Hid (zu r q w w1 q w1):=zu.start h hb1;have HW1:Hid (zH w0 r q t w1):=h.below hb1;have HP1:Hid (w1.heap[w.heap.size]?=some (fzO s b m cap [] b2 m2 cap2 line)):=p1;have hw1':=hw1.symm;obtain ⟨c0,c1,c2,c3,c4⟩:=ZG p1;generalize tokO 1 0 s=X0 at *;generalize rowO (l.map parO) l.length=X1 at *;generalize blkO (prS 24) body=X2 at *;have HR:Hid (R=zd (some [102,110,32]) (zd X0 (zd (some [40]) (zd X1 (zd (some [41]) (zd (some [32]) (zd X2 ((some [10]))))))))):=hR;clear hR p1 hw1 hb1 h hT hl hpm hbody
 go_enter Tryz.func71,Tryz.ntmps71
 have cp:=zE w0 r q (t) [102,110,32] w1 HW1.out (by simp)
 go_wp2_with fail
 refine cp.mono ?_;clear cp c0 c1 c2 c3 c4;rintro e w2 ⟨q2,hto2,rfl,hw2⟩;have HL2:Hid (zu r q w w1 q2 w2):=HL1.out.step hto2;have HW2:Hid (zH w0 r q2 (t++[102,110,32]) w2):=hw2;clear hto2 hw2;obtain ⟨c0,c1,c2,c3,c4⟩:=ZG ((HL2.out.block _ (Nat.le_refl _) (by omega)).trans HP1.out)
 have cp:=HK0.out q2 (t++[102,110,32]) w2 HW2.out;go_wp2_with fail
 refine cp.mono ?_;clear cp c0 c1 c2 c3 c4;rintro e w3 ⟨q3,hto3,hp3⟩;cases X0 with
 | none=>subst hp3;obtain rfl:R=none:=HR.out;exact ⟨rfl,q3,(HL2.out.step hto3).unto,rfl⟩
 | some u0 =>
 obtain ⟨rfl,hw3⟩:=hp3;have HL3:Hid (zu r q w w1 q3 w3):=HL2.out.step hto3;have HW3:Hid (zH w0 r q3 (t++[102,110,32]++u0) w3):=hw3;clear hto3 hw3;obtain ⟨c0,c1,c2,c3,c4⟩:=ZG ((HL3.out.block _ (Nat.le_refl _) (by omega)).trans HP1.out)
 have cp:=zE w0 r q3 (t++[102,110,32]++u0) [40] w3 HW3.out (by simp)
 go_wp2_with fail
 refine cp.mono ?_;clear cp c0 c1 c2 c3 c4;rintro e w4 ⟨q4,hto4,rfl,hw4⟩;have HL4:Hid (zu r q w w1 q4 w4):=HL3.out.step hto4;have HW4:Hid (zH w0 r q4 (t++[102,110,32]++u0++[40]) w4):=hw4;clear hto4 hw4;obtain ⟨c0,c1,c2,c3,c4⟩:=ZG ((HL4.out.block _ (Nat.le_refl _) (by omega)).trans HP1.out)
 have cp:=HK1.out q4 (t++[102,110,32]++u0++[40]) w4 HW4.out;go_wp2_with fail
 refine cp.mono ?_;clear cp c0 c1 c2 c3 c4;rintro e w5 ⟨q5,hto5,hp5⟩;cases X1 with
 | none=>subst hp5;obtain rfl:R=none:=HR.out;exact ⟨rfl,q5,(HL4.out.step hto5).unto,rfl⟩
 | some u1 =>
 obtain ⟨rfl,hw5⟩:=hp5;have HL5:Hid (zu r q w w1 q5 w5):=HL4.out.step hto5;have HW5:Hid (zH w0 r q5 (t++[102,110,32]++u0++[40]++u1) w5):=hw5;clear hto5 hw5;obtain ⟨c0,c1,c2,c3,c4⟩:=ZG ((HL5.out.block _ (Nat.le_refl _) (by omega)).trans HP1.out)
 have cp:=zE w0 r q5 (t++[102,110,32]++u0++[40]++u1) [41] w5 HW5.out (by simp)
 go_wp2_with fail
 refine cp.mono ?_;clear cp c0 c1 c2 c3 c4;rintro e w6 ⟨q6,hto6,rfl,hw6⟩;have HL6:Hid (zu r q w w1 q6 w6):=HL5.out.step hto6;have HW6:Hid (zH w0 r q6 (t++[102,110,32]++u0++[40]++u1++[41]) w6):=hw6;clear hto6 hw6;obtain ⟨c0,c1,c2,c3,c4⟩:=ZG ((HL6.out.block _ (Nat.le_refl _) (by omega)).trans HP1.out)
 have cp:=zE w0 r q6 (t++[102,110,32]++u0++[40]++u1++[41]) [32] w6 HW6.out (by simp)
 go_wp2_with fail
 refine cp.mono ?_;clear cp c0 c1 c2 c3 c4;rintro e w7 ⟨q7,hto7,rfl,hw7⟩;have HL7:Hid (zu r q w w1 q7 w7):=HL6.out.step hto7;have HW7:Hid (zH w0 r q7 (t++[102,110,32]++u0++[40]++u1++[41]++[32]) w7):=hw7;clear hto7 hw7;obtain ⟨c0,c1,c2,c3,c4⟩:=ZG ((HL7.out.block _ (Nat.le_refl _) (by omega)).trans HP1.out)
 have cp:=HK2.out q7 (t++[102,110,32]++u0++[40]++u1++[41]++[32]) w7 HW7.out;go_wp2_with fail
 refine cp.mono ?_;clear cp c0 c1 c2 c3 c4;rintro e w8 ⟨q8,hto8,hp8⟩;cases X2 with
 | none=>subst hp8;obtain rfl:R=none:=HR.out;exact ⟨rfl,q8,(HL7.out.step hto8).unto,rfl⟩
 | some u2 =>
 obtain ⟨rfl,hw8⟩:=hp8;have HL8:Hid (zu r q w w1 q8 w8):=HL7.out.step hto8;have HW8:Hid (zH w0 r q8 (t++[102,110,32]++u0++[40]++u1++[41]++[32]++u2) w8):=hw8;clear hto8 hw8;obtain ⟨c0,c1,c2,c3,c4⟩:=ZG ((HL8.out.block _ (Nat.le_refl _) (by omega)).trans HP1.out)
 have cp:=zE w0 r q8 (t++[102,110,32]++u0++[40]++u1++[41]++[32]++u2) [10] w8 HW8.out (by simp)
 go_wp2_with fail
 refine cp.mono ?_;clear cp c0 c1 c2 c3 c4;rintro e w9 ⟨q9,hto9,rfl,hw9⟩;have HL9:Hid (zu r q w w1 q9 w9):=HL8.out.step hto9;have HW9:Hid (zH w0 r q9 (t++[102,110,32]++u0++[40]++u1++[41]++[32]++u2++[10]) w9):=hw9;clear hto9 hw9;obtain ⟨c0,c1,c2,c3,c4⟩:=ZG ((HL9.out.block _ (Nat.le_refl _) (by omega)).trans HP1.out)
 obtain rfl:R=some ([102,110,32]++(u0++([40]++(u1++([41]++([32]++(u2++([10])))))))):=HR.out;have HP:Hid (zr w0 r q t w (some ([102,110,32]++(u0++([40]++(u1++([41]++([32]++(u2++([10]))))))))) (.returned (.tuple #[])) w9):=⟨q9,HL9.out.unto,rfl,by have:=HW9.out;simpa only [List.append_assoc] using this⟩
 clear HL1 HW1 HL2 HW2 HL3 HW3 HL4 HW4 HL5 HW5 HL6 HW6 HL7 HW7 HL8 HW8 HL9 HW9 c0 c1 c2 c3 c4 HK0 HK1 HK2 HR HP1;go_wp2
 exact bodyPost_ret (v:=.tuple #[]) (by simp [results,Tryz.results71,go_sem]) rfl HP.out
theorem zi9 (w0:World) (hT:ZV w0) (hl:ZS w0) (s:List UInt8) (l:List (List UInt8 × List UInt8)) (b:Option Addr) (m cap:Nat) (u:List UInt8) (hu:u.length≤100000000) (hne:u≠[]) (fz:Nat) (body:List Sz) (b2:Option Addr) (m2 cap2:Nat) (line:Int) (hs:s.length≤100000000) (hpm:ZB PmZ 2 w0.heap.size w0 l b m cap) (hbody:ZB (ZT w0.heap.size w0 fz) 6 w0.heap.size w0 body b2 m2 cap2) (r:Nat) (q:Option Nat) (t:List UInt8) (w:World) (h:zH w0 r q t w) :
  Calls Tryz.prog 71 #[.pointer (some ⟨r,0,none⟩),fzV s b m cap u b2 m2 cap2 line] w (zr w0 r q t w (zd (some [102,110,32]) (zd (tokO 1 0 s) (zd (some [40]) (zd (rowO (l.map parO) l.length) (zd (some [41]) (zd (some [58,32]) (zd (typeO u) (zd (some [32]) (zd (blkO (prS 24) body) ((some [10])))))))))))):=by
 have hmf:∀(fn:Fn) (first cap:Array Value) (w:World),(Instr.makeFunc fn first cap).run Tryz.prog w=.ok (.func fn first cap) w:=fun _ _ _ _=>rfl
 obtain ⟨R,hR⟩:∃R,R=zd (some [102,110,32]) (zd (tokO 1 0 s) (zd (some [40]) (zd (rowO (l.map parO) l.length) (zd (some [41]) (zd (some [58,32]) (zd (typeO u) (zd (some [32]) (zd (blkO (prS 24) body) ((some [10])))))))))):=⟨_,rfl⟩;rw [←hR];have HK0:Hid (∀(q:Option Nat) (t:List UInt8) (w:World),zH w0 r q t w→Calls Tryz.prog 82 #[.pointer (some ⟨r,0,none⟩),.string (za s)] w (zr w0 r q t w (tokO 1 0 s))):=fun q t w h=>Yb w0 r q t s w hT h hs
 have HK1:Hid (∀(q:Option Nat) (t:List UInt8) (w:World),zH w0 r q t w→Calls Tryz.prog 109 #[.pointer (some ⟨r,0,none⟩),.slice b m cap,.func (.func 110) #[.pointer (some ⟨r,0,none⟩)] #[]] w (zr w0 r q t w (rowO (l.map parO) l.length))):=fun q t w h=>by rw [hpm.1];exact vX w0 l b cap r q t w h hpm.2.1 hpm.2.2.1 hpm.pm hT
 have HK2:Hid (∀(q:Option Nat) (t:List UInt8) (w:World),zH w0 r q t w→Calls Tryz.prog 111 #[.pointer (some ⟨r,0,none⟩),.string (za u)] w (zr w0 r q t w (typeO u))):=fun q t w h=>QQ w0 r q t u w hT h hu
 have HK3:Hid (∀(q:Option Nat) (t:List UInt8) (w:World),zH w0 r q t w→Calls Tryz.prog 112 #[.pointer (some ⟨r,0,none⟩),.slice b2 m2 cap2,.int .i64 24] w (zr w0 r q t w (blkO (prS 24) body))):=fun q t w h=>zb3 w0 hT hl 24 (Nat.le_refl _) fz body b2 m2 cap2 r q t w hbody h
 obtain ⟨w1,hw1⟩:∃w1,w1=w.alloc (fzO s b m cap u b2 m2 cap2 line):=⟨_,rfl⟩;have hb1:Below w.heap.size w w1:=by rw [hw1];exact (Below.refl _ w).alloc (Nat.le_refl _) _
 have p1:w1.heap[w.heap.size]?=some (fzO s b m cap u b2 m2 cap2 line):=by rw [hw1];exact World.alloc_heap_new w _
 have hsz1:w1.heap.size=w.heap.size+1:=by rw [hw1];simp
 have HL1:Hid (zu r q w w1 q w1):=zu.start h hb1;have HW1:Hid (zH w0 r q t w1):=h.below hb1;have HP1:Hid (w1.heap[w.heap.size]?=some (fzO s b m cap u b2 m2 cap2 line)):=p1;have hw1':=hw1.symm;obtain ⟨c0,c1,c2,c3,c4⟩:=ZG p1;have hne1:(u==[])=false:=by simpa using hne
 generalize tokO 1 0 s=X0 at *;generalize rowO (l.map parO) l.length=X1 at *;generalize typeO u=X2 at *;generalize blkO (prS 24) body=X3 at *;have HR:Hid (R=zd (some [102,110,32]) (zd X0 (zd (some [40]) (zd X1 (zd (some [41]) (zd (some [58,32]) (zd X2 (zd (some [32]) (zd X3 ((some [10]))))))))))):=hR;clear hR p1 hw1 hb1 h hT hl hpm hbody hne
 go_enter Tryz.func71,Tryz.ntmps71
 have cp:=zE w0 r q (t) [102,110,32] w1 HW1.out (by simp)
 go_wp2_with fail
 refine cp.mono ?_;clear cp c0 c1 c2 c3 c4;rintro e w2 ⟨q2,hto2,rfl,hw2⟩;have HL2:Hid (zu r q w w1 q2 w2):=HL1.out.step hto2;have HW2:Hid (zH w0 r q2 (t++[102,110,32]) w2):=hw2;clear hto2 hw2;obtain ⟨c0,c1,c2,c3,c4⟩:=ZG ((HL2.out.block _ (Nat.le_refl _) (by omega)).trans HP1.out)
 have cp:=HK0.out q2 (t++[102,110,32]) w2 HW2.out;go_wp2_with fail
 refine cp.mono ?_;clear cp c0 c1 c2 c3 c4;rintro e w3 ⟨q3,hto3,hp3⟩;cases X0 with
 | none=>subst hp3;obtain rfl:R=none:=HR.out;exact ⟨rfl,q3,(HL2.out.step hto3).unto,rfl⟩
 | some u0 =>
 obtain ⟨rfl,hw3⟩:=hp3;have HL3:Hid (zu r q w w1 q3 w3):=HL2.out.step hto3;have HW3:Hid (zH w0 r q3 (t++[102,110,32]++u0) w3):=hw3;clear hto3 hw3;obtain ⟨c0,c1,c2,c3,c4⟩:=ZG ((HL3.out.block _ (Nat.le_refl _) (by omega)).trans HP1.out)
 have cp:=zE w0 r q3 (t++[102,110,32]++u0) [40] w3 HW3.out (by simp)
 go_wp2_with fail
 refine cp.mono ?_;clear cp c0 c1 c2 c3 c4;rintro e w4 ⟨q4,hto4,rfl,hw4⟩;have HL4:Hid (zu r q w w1 q4 w4):=HL3.out.step hto4;have HW4:Hid (zH w0 r q4 (t++[102,110,32]++u0++[40]) w4):=hw4;clear hto4 hw4;obtain ⟨c0,c1,c2,c3,c4⟩:=ZG ((HL4.out.block _ (Nat.le_refl _) (by omega)).trans HP1.out)
 have cp:=HK1.out q4 (t++[102,110,32]++u0++[40]) w4 HW4.out;go_wp2_with fail
 refine cp.mono ?_;clear cp c0 c1 c2 c3 c4;rintro e w5 ⟨q5,hto5,hp5⟩;cases X1 with
 | none=>subst hp5;obtain rfl:R=none:=HR.out;exact ⟨rfl,q5,(HL4.out.step hto5).unto,rfl⟩
 | some u1 =>
 obtain ⟨rfl,hw5⟩:=hp5;have HL5:Hid (zu r q w w1 q5 w5):=HL4.out.step hto5;have HW5:Hid (zH w0 r q5 (t++[102,110,32]++u0++[40]++u1) w5):=hw5;clear hto5 hw5;obtain ⟨c0,c1,c2,c3,c4⟩:=ZG ((HL5.out.block _ (Nat.le_refl _) (by omega)).trans HP1.out)
 have cp:=zE w0 r q5 (t++[102,110,32]++u0++[40]++u1) [41] w5 HW5.out (by simp)
 go_wp2_with fail
 refine cp.mono ?_;clear cp c0 c1 c2 c3 c4;rintro e w6 ⟨q6,hto6,rfl,hw6⟩;have HL6:Hid (zu r q w w1 q6 w6):=HL5.out.step hto6;have HW6:Hid (zH w0 r q6 (t++[102,110,32]++u0++[40]++u1++[41]) w6):=hw6;clear hto6 hw6;obtain ⟨c0,c1,c2,c3,c4⟩:=ZG ((HL6.out.block _ (Nat.le_refl _) (by omega)).trans HP1.out)
 have cp:=zE w0 r q6 (t++[102,110,32]++u0++[40]++u1++[41]) [58,32] w6 HW6.out (by simp)
 go_wp2_with fail
 refine cp.mono ?_;clear cp c0 c1 c2 c3 c4;rintro e w7 ⟨q7,hto7,rfl,hw7⟩;have HL7:Hid (zu r q w w1 q7 w7):=HL6.out.step hto7;have HW7:Hid (zH w0 r q7 (t++[102,110,32]++u0++[40]++u1++[41]++[58,32]) w7):=hw7;clear hto7 hw7;obtain ⟨c0,c1,c2,c3,c4⟩:=ZG ((HL7.out.block _ (Nat.le_refl _) (by omega)).trans HP1.out)
 have cp:=HK2.out q7 (t++[102,110,32]++u0++[40]++u1++[41]++[58,32]) w7 HW7.out;go_wp2_with fail
 refine cp.mono ?_;clear cp c0 c1 c2 c3 c4;rintro e w8 ⟨q8,hto8,hp8⟩;cases X2 with
 | none=>subst hp8;obtain rfl:R=none:=HR.out;exact ⟨rfl,q8,(HL7.out.step hto8).unto,rfl⟩
 | some u2 =>
 obtain ⟨rfl,hw8⟩:=hp8;have HL8:Hid (zu r q w w1 q8 w8):=HL7.out.step hto8;have HW8:Hid (zH w0 r q8 (t++[102,110,32]++u0++[40]++u1++[41]++[58,32]++u2) w8):=hw8;clear hto8 hw8;obtain ⟨c0,c1,c2,c3,c4⟩:=ZG ((HL8.out.block _ (Nat.le_refl _) (by omega)).trans HP1.out)
 have cp:=zE w0 r q8 (t++[102,110,32]++u0++[40]++u1++[41]++[58,32]++u2) [32] w8 HW8.out (by simp)
 go_wp2_with fail
 refine cp.mono ?_;clear cp c0 c1 c2 c3 c4;rintro e w9 ⟨q9,hto9,rfl,hw9⟩;have HL9:Hid (zu r q w w1 q9 w9):=HL8.out.step hto9;have HW9:Hid (zH w0 r q9 (t++[102,110,32]++u0++[40]++u1++[41]++[58,32]++u2++[32]) w9):=hw9;clear hto9 hw9;obtain ⟨c0,c1,c2,c3,c4⟩:=ZG ((HL9.out.block _ (Nat.le_refl _) (by omega)).trans HP1.out)
 have cp:=HK3.out q9 (t++[102,110,32]++u0++[40]++u1++[41]++[58,32]++u2++[32]) w9 HW9.out;go_wp2_with fail
 refine cp.mono ?_;clear cp c0 c1 c2 c3 c4;rintro e w10 ⟨q10,hto10,hp10⟩;cases X3 with
 | none=>subst hp10;obtain rfl:R=none:=HR.out;exact ⟨rfl,q10,(HL9.out.step hto10).unto,rfl⟩
 | some u3 =>
 obtain ⟨rfl,hw10⟩:=hp10;have HL10:Hid (zu r q w w1 q10 w10):=HL9.out.step hto10;have HW10:Hid (zH w0 r q10 (t++[102,110,32]++u0++[40]++u1++[41]++[58,32]++u2++[32]++u3) w10):=hw10;clear hto10 hw10;obtain ⟨c0,c1,c2,c3,c4⟩:=ZG ((HL10.out.block _ (Nat.le_refl _) (by omega)).trans HP1.out)
 have cp:=zE w0 r q10 (t++[102,110,32]++u0++[40]++u1++[41]++[58,32]++u2++[32]++u3) [10] w10 HW10.out (by simp)
 go_wp2_with fail
 refine cp.mono ?_;clear cp c0 c1 c2 c3 c4;rintro e w11 ⟨q11,hto11,rfl,hw11⟩;have HL11:Hid (zu r q w w1 q11 w11):=HL10.out.step hto11;have HW11:Hid (zH w0 r q11 (t++[102,110,32]++u0++[40]++u1++[41]++[58,32]++u2++[32]++u3++[10]) w11):=hw11;clear hto11 hw11;obtain ⟨c0,c1,c2,c3,c4⟩:=ZG ((HL11.out.block _ (Nat.le_refl _) (by omega)).trans HP1.out)
 obtain rfl:R=some ([102,110,32]++(u0++([40]++(u1++([41]++([58,32]++(u2++([32]++(u3++([10])))))))))):=HR.out;have HP:Hid (zr w0 r q t w (some ([102,110,32]++(u0++([40]++(u1++([41]++([58,32]++(u2++([32]++(u3++([10]))))))))))) (.returned (.tuple #[])) w11):=⟨q11,HL11.out.unto,rfl,by have:=HW11.out;simpa only [List.append_assoc] using this⟩
 clear HL1 HW1 HL2 HW2 HL3 HW3 HL4 HW4 HL5 HW5 HL6 HW6 HL7 HW7 HL8 HW8 HL9 HW9 HL10 HW10 HL11 HW11 c0 c1 c2 c3 c4 HK0 HK1 HK2 HK3 HR HP1;go_wp2
 exact bodyPost_ret (v:=.tuple #[]) (by simp [results,Tryz.results71,go_sem]) rfl HP.out
theorem Qt (w0:World) (hT:ZV w0) (hl:ZS w0) (fz:Nat) (x:Fz) (c:List Value) (hx:X9 w0.heap.size w0 fz x c) (r:Nat) (q:Option Nat) (t:List UInt8) (w:World) (h:zH w0 r q t w) :
  Calls Tryz.prog 71 #[.pointer (some ⟨r,0,none⟩),.agg c.toArray] w (zr w0 r q t w (funO x)):=by
 obtain ⟨s,l,u,body,line⟩:=x;obtain ⟨b,m,cap,b2,m2,cap2,rfl,hs,hu,hpm,hbody⟩:=hx;show Calls _ _ #[_,fzV s b m cap u b2 m2 cap2 line] _ _
 unfold funO
 by_cases hne:u=[]
 ·subst hne
  have:=zi8 w0 hT hl s l b m cap fz body b2 m2 cap2 line hs hpm hbody r q t w h
  rw [if_pos rfl,zcJ];exact this
 ·have:=zi9 w0 hT hl s l b m cap u hu hne fz body b2 m2 cap2 line hs hpm hbody r q t w h
  simp only [if_neg hne,Uq];exact this
end Go.Proofs.YtpejpbbdgblbeaaGreatDoor
