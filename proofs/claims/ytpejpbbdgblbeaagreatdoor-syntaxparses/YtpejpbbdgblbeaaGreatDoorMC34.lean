import Derived.Test.YtpejpbbdgblbeaaGreatDoorMC33
import Derived.Test.YtpejpbbdgblbeaaGreatDoorMC31
import Derived.Test.YtpejpbbdgblbeaaGreatDoorMC7
import Derived.LaidHandle
namespace Go.Proofs.YtpejpbbdgblbeaaGreatDoor
open Go.RowKit Go.Shelf
set_option maxHeartbeats 16000000
set_option maxRecDepth 100000
abbrev pzO (b:Option Addr) (m cap:Nat) (b2:Option Addr) (m2 cap2:Nat):Obj:=.cells #[.slice b m cap,.slice b2 m2 cap2] 25
theorem YB {w:World} {N:Nat} {b:Option Addr} {m cap:Nat} {b2:Option Addr} {m2 cap2:Nat} (p:w.heap[N]?=some (pzO b m cap b2 m2 cap2)):w.cell? ⟨N,0,none⟩=some (.slice b m cap)∧w.cell? ⟨N,1,none⟩=some (.slice b2 m2 cap2):=by
 refine ⟨?_,?_⟩ <;> (simp only [World.cell?,p];rfl)
theorem ZB.rz {B:Nat} {w:World} {l:List Rz} {base:Option Addr} {m cap:Nat} (h:ZB (X8 B w) 3 B w l base m cap):∀i x,l[i]?=some x→∃b o s bf mf cf line,base=some ⟨b,o,none⟩∧b<B∧X8 B w x [.string (za s),.slice bf mf cf,.int .i64 line] ∧
   w.cell? ⟨b,o+i*3,none⟩=some (.string (za s))∧w.cell? ⟨b,o+i*3+1,none⟩=some (.slice bf mf cf)∧w.cell? ⟨b,o+i*3+2,none⟩=some (.int .i64 line):=by
 intro i x hx;obtain ⟨b,o,c,hb1,hb2,hb3,hlen,hxx,hcell⟩:=h.2.2.2 i x hx;have hxx':=hxx;obtain ⟨bf,mf,cf,rfl,_⟩:=hxx';exact ⟨b,o,_,bf,mf,cf,_,hb1,hb2,hxx,hcell 0 _ rfl,hcell 1 _ rfl,hcell 2 _ rfl⟩
theorem ZB.fz {B f:Nat} {w:World} {l:List Fz} {base:Option Addr} {m cap:Nat} (h:ZB (X9 B w f) 5 B w l base m cap):∀i x,l[i]?=some x→∃b o s bf mf cf u bg mg cg line,base=some ⟨b,o,none⟩∧b<B∧X9 B w f x [.string (za s),.slice bf mf cf,.string (za u),.slice bg mg cg,.int .i64 line] ∧
   w.cell? ⟨b,o+i*5,none⟩=some (.string (za s))∧w.cell? ⟨b,o+i*5+1,none⟩=some (.slice bf mf cf)∧w.cell? ⟨b,o+i*5+2,none⟩=some (.string (za u))∧w.cell? ⟨b,o+i*5+3,none⟩=some (.slice bg mg cg)∧w.cell? ⟨b,o+i*5+4,none⟩=some (.int .i64 line):=by
 intro i x hx;obtain ⟨b,o,c,hb1,hb2,hb3,hlen,hxx,hcell⟩:=h.2.2.2 i x hx;have hxx':=hxx;obtain ⟨bf,mf,cf,bg,mg,cg,rfl,_⟩:=hxx';exact ⟨b,o,_,bf,mf,cf,_,bg,mg,cg,_,hb1,hb2,hxx,hcell 0 _ rfl,hcell 1 _ rfl,hcell 2 _ rfl,hcell 3 _ rfl,hcell 4 _ rfl⟩
theorem zda (w0:World) (hT:ZV w0) (x:Rz) (c:List Value) (hx:X8 w0.heap.size w0 x c) (r:Nat) (q:Option Nat) (t:List UInt8) (w:World) (h:zH w0 r q t w) :
  Calls Tryz.prog 70 #[.pointer (some ⟨r,0,none⟩),.agg c.toArray] w (zr w0 r q t w (recO x.name x.fields)):=by
 obtain ⟨b,m,cap,rfl,hs,hf⟩:=hx;exact zbC w0 hT x.name x.fields b m cap r x.line q t w h hs hf.1 hf.2.1 hf.2.2.1 hf.pm
theorem zaO (w0:World) (hT:ZV w0) (hl:ZS w0) (f:Nat) (x:Pz) (b:Option Addr) (m cap:Nat) (b2:Option Addr) (m2 cap2:Nat) (h1:ZB (X8 w0.heap.size w0) 3 w0.heap.size w0 x.recs b m cap) (h2:ZB (X9 w0.heap.size w0 f) 5 w0.heap.size w0 x.funs b2 m2 cap2) (r:Nat) (q:Option Nat) (t:List UInt8) (w:World) (h:zH w0 r q t w) :
  Calls Tryz.prog 36 #[.pointer (some ⟨r,0,none⟩),.agg #[.slice b m cap,.slice b2 m2 cap2]] w (zr w0 r q t w (zbD x)):=by
 obtain ⟨rs,fs⟩:=x;have HN:Hid (m=rs.length):=h1.1;have HN2:Hid (m2=fs.length):=h2.1;have hlen:m≤9223372036854775807:=by have h3:=h1.1;have h4:=h1.2.1;have h5:=h1.2.2.1;unfold maxLen at h5;simp only at h3 h4;omega
 have hlen2:m2≤9223372036854775807:=by have h3:=h2.1;have h4:=h2.2.1;have h5:=h2.2.2.1;unfold maxLen at h5;simp only at h3 h4;omega
 obtain ⟨R,hR⟩:∃R,R=zbD ⟨rs,fs⟩:=⟨_,rfl⟩;rw [←hR];have HR:Hid (R=zd (xx (rs.map fun r=>recO r.name r.fields) m) (xx (fs.map funO) m2)):=show _=_ by rw [hR,HN.out,HN2.out];rfl
 have HC1:Hid (ZB (X8 w0.heap.size w0) 3 w0.heap.size w0 rs b m cap):=h1;have HC2:Hid (ZB (X9 w0.heap.size w0 f) 5 w0.heap.size w0 fs b2 m2 cap2):=h2;have HO1:Hid (∀(x:Rz) (c:List Value),X8 w0.heap.size w0 x c→∀(q:Option Nat) (t:List UInt8) (w:World),zH w0 r q t w→Calls Tryz.prog 70 #[.pointer (some ⟨r,0,none⟩),.agg c.toArray] w (zr w0 r q t w (recO x.name x.fields))):=fun x c hx q t w h=>zda w0 hT x c hx r q t w h
 have HO2:Hid (∀(x:Fz) (c:List Value),X9 w0.heap.size w0 f x c→∀(q:Option Nat) (t:List UInt8) (w:World),zH w0 r q t w→Calls Tryz.prog 71 #[.pointer (some ⟨r,0,none⟩),.agg c.toArray] w (zr w0 r q t w (funO x))):=fun x c hx q t w h=>Qt w0 hT hl f x c hx r q t w h
 obtain ⟨w1,hw1⟩:∃w1,w1=w.alloc (pzO b m cap b2 m2 cap2):=⟨_,rfl⟩;have hb1:Below w.heap.size w w1:=by rw [hw1];exact (Below.refl _ w).alloc (Nat.le_refl _) _
 have p1:w1.heap[w.heap.size]?=some (pzO b m cap b2 m2 cap2):=by rw [hw1];exact World.alloc_heap_new w _
 have hsz1:w1.heap.size=w.heap.size+1:=by rw [hw1];simp
 have HL1:Hid (zu r q w w1 q w1):=zu.start h hb1;have HW1:Hid (zH w0 r q t w1):=h.below hb1;have HP1:Hid (w1.heap[w.heap.size]?=some (pzO b m cap b2 m2 cap2)):=p1;have hw1':=hw1.symm;obtain ⟨c0,c1⟩:=YB p1;clear h1 h2 hR hT hl h hb1 p1 hw1
 go_enter Tryz.func36,Tryz.ntmps36
 go_wp2_with fail
 go_loopw [11] (fun i wr=>∃(k:Nat) (q2:Option Nat) (s:List UInt8),k≤m∧i=.int .i64 k∧zu r q w w1 q2 wr∧xx (rs.map fun r=>recO r.name r.fields) k=some s∧zH w0 r q2 (t++s) wr) (fun i _=>m-(intOf i).toNat)
 case atStart=>exact ⟨0,q,[],Nat.zero_le _,rfl,HL1.out,rfl,by rw [List.append_nil];exact HW1.out⟩
 case round =>
  obtain ⟨i,q2,s0,hk,rfl,hL,hcat,hwr⟩:=hrel;clear HL1 HW1 c0 c1
  by_cases hlt:i<m
  ·obtain ⟨x,hx⟩:∃x,rs[i]?=some x:=⟨rs[i]'(by rw [←HN.out];exact hlt),List.getElem?_eq_getElem (by rw [←HN.out];exact hlt)⟩
   obtain ⟨bb,o,s,bf,mf,cf,line,rfl,hbb,hxx,m0,m1,m2'⟩:=HC1.out.rz i x hx;have n0:=(hwr.env.cell (p:=⟨bb,o+i*3,none⟩) hbb).trans m0;have n1:=(hwr.env.cell (p:=⟨bb,o+i*3+1,none⟩) hbb).trans m1;have n2:=(hwr.env.cell (p:=⟨bb,o+i*3+2,none⟩) hbb).trans m2';clear m0 m1 m2';have hlt':(i:Int)<(m:Int):=by omega
   obtain ⟨w2,hw2⟩:∃w2,w2=wr.alloc (rzO s bf mf cf line):=⟨_,rfl⟩;have p2:w2.heap[wr.heap.size]?=some (rzO s bf mf cf line):=by rw [hw2];exact World.alloc_heap_new wr _
   have hb2:Below wr.heap.size wr w2:=by rw [hw2];exact (Below.refl _ wr).alloc (Nat.le_refl _) _
   have HL2:Hid (zu r q w w1 q2 w2):=hL.step (zX.below hb2);have hget:((rs.map fun r=>recO r.name r.fields)[i]?).getD none=recO x.name x.fields:=by rw [List.getElem?_map,hx];rfl
   have HST:Hid (recO x.name x.fields=none→R=none):=fun h9=>by
    rw [HR.out,u6 _ hlt (by rw [hget,h9])];rfl
   have HNX:Hid (∀u,recO x.name x.fields=some u→xx (rs.map fun r=>recO r.name r.fields) (i+1)=some (s0++u)):=fun u h9=>by
    rw [xx,hcat,hget,h9];rfl
   have c:=HO1.out x _ hxx q2 (t++s0) w2 (hwr.below hb2);obtain ⟨c0,c1,c2⟩:=vD p2;have hw2':=hw2.symm;clear hget hxx hL hwr hcat HC1 HC2 HO1 HO2 hw2 p2 hb2 hx;generalize recO x.name x.fields=X at *;go_wp2_with fail
   refine c.mono ?_;clear c;rintro e w3 ⟨q3,hto3,hp⟩;cases X with
   | none=>subst hp;obtain rfl:=HST.out rfl;exact ⟨rfl,q3,(HL2.out.step hto3).unto,rfl⟩
   | some u =>
    obtain ⟨rfl,hw3⟩:=hp;have HNXT:Hid (∃(k':Nat) (q':Option Nat) (s':List UInt8),k'=i+1∧zu r q w w1 q' w3∧xx (rs.map fun r=>recO r.name r.fields) k'=some s'∧zH w0 r q' (t++s') w3):=⟨i+1,q3,_,rfl,HL2.out.step hto3,HNX.out u rfl,by rw [←List.append_assoc];exact hw3⟩
    clear hto3 hw3 HNX HST HL2 c0 c1 c2;go_wp2
    obtain ⟨k',q',s',rfl,h1,h2,h3⟩:=HNXT.out;exact ⟨⟨i+1,q',s',by omega,by go_num,h1,h2,h3⟩,by simp [intOf];omega⟩
  ·obtain rfl:i=m:=by omega
   have hlt':¬(i:Int)<(i:Int):=by omega
   obtain ⟨c0,c1⟩:=YB ((hL.block _ (Nat.le_refl _) (by omega)).trans HP1.out)
   have HL1:Hid (zu r q w w1 q2 wr):=hL;have HW1:Hid (zH w0 r q2 (t++s0) wr):=hwr;have HR2:Hid (R=zd (some s0) (xx (fs.map funO) m2)):=HR.out.trans (by rw [hcat])
   clear hL hwr hcat HC1 HO1 HR;go_wp2_with fail
   go_loopw [22] (fun j wr=>∃(k:Nat) (q2:Option Nat) (s:List UInt8),k≤m2∧j=.int .i64 k∧zu r q w w1 q2 wr∧xx (fs.map funO) k=some s∧zH w0 r q2 (t++s0++s) wr) (fun j _=>m2-(intOf j).toNat)
   case atStart=>exact ⟨0,q2,[],Nat.zero_le _,rfl,HL1.out,rfl,by rw [List.append_nil];exact HW1.out⟩
   case round =>
    obtain ⟨j,q3,s1,hk2,rfl,hL,hcat,hwr⟩:=hrel;clear HL1 HW1 c0 c1
    by_cases hlt2:j<m2
    ·obtain ⟨x,hx⟩:∃x,fs[j]?=some x:=⟨fs[j]'(by rw [←HN2.out];exact hlt2),List.getElem?_eq_getElem (by rw [←HN2.out];exact hlt2)⟩
     obtain ⟨bb,o,s,bf,mf,cf,u,bg,mg,cg,line,rfl,hbb,hxx,m0,m1,m2',m3,m4⟩:=HC2.out.fz j x hx;have n0:=(hwr.env.cell (p:=⟨bb,o+j*5,none⟩) hbb).trans m0;have n1:=(hwr.env.cell (p:=⟨bb,o+j*5+1,none⟩) hbb).trans m1;have n2:=(hwr.env.cell (p:=⟨bb,o+j*5+2,none⟩) hbb).trans m2';have n3:=(hwr.env.cell (p:=⟨bb,o+j*5+3,none⟩) hbb).trans m3;have n4:=(hwr.env.cell (p:=⟨bb,o+j*5+4,none⟩) hbb).trans m4;clear m0 m1 m2' m3 m4;have hlt3:(j:Int)<(m2:Int):=by omega
     obtain ⟨w2,hw2⟩:∃w2,w2=wr.alloc (fzO s bf mf cf u bg mg cg line):=⟨_,rfl⟩;have p2:w2.heap[wr.heap.size]?=some (fzO s bf mf cf u bg mg cg line):=by rw [hw2];exact World.alloc_heap_new wr _
     have hb2:Below wr.heap.size wr w2:=by rw [hw2];exact (Below.refl _ wr).alloc (Nat.le_refl _) _
     have HL2:Hid (zu r q w w1 q3 w2):=hL.step (zX.below hb2);have hget:((fs.map funO)[j]?).getD none=funO x:=by rw [List.getElem?_map,hx];rfl
     have HST:Hid (funO x=none→R=none):=fun h9=>by
      rw [HR2.out,u6 _ hlt2 (by rw [hget,h9])];rfl
     have HNX:Hid (∀u,funO x=some u→xx (fs.map funO) (j+1)=some (s1++u)):=fun u h9=>by
      rw [xx,hcat,hget,h9];rfl
     have c:=HO2.out x _ hxx q3 (t++s0++s1) w2 (hwr.below hb2);obtain ⟨c0,c1,c2,c3,c4⟩:=ZG p2;have hw2':=hw2.symm;clear hget hxx hL hwr hcat HC2 HO2 hw2 p2 hb2 hx;generalize funO x=X at *;go_wp2_with fail
     refine c.mono ?_;clear c;rintro e w3 ⟨q4,hto3,hp⟩;cases X with
     | none=>subst hp;obtain rfl:=HST.out rfl;exact ⟨rfl,q4,(HL2.out.step hto3).unto,rfl⟩
     | some u9 =>
      obtain ⟨rfl,hw3⟩:=hp;have HNXT:Hid (∃(k':Nat) (q':Option Nat) (s':List UInt8),k'=j+1∧zu r q w w1 q' w3∧xx (fs.map funO) k'=some s'∧zH w0 r q' (t++s0++s') w3):=⟨j+1,q4,_,rfl,HL2.out.step hto3,HNX.out u9 rfl,by rw [←List.append_assoc];exact hw3⟩
      clear hto3 hw3 HNX HST HL2 c0 c1 c2 c3 c4;go_wp2
      obtain ⟨k',q',s',rfl,h1,h2,h3⟩:=HNXT.out;exact ⟨⟨j+1,q',s',by omega,by go_num,h1,h2,h3⟩,by simp [intOf];omega⟩
    ·obtain rfl:j=m2:=by omega
     have hlt3:¬(j:Int)<(j:Int):=by omega
     have HP:Hid (zr w0 r q t w R (.returned (.tuple #[])) wr):=show zr _ _ _ _ _ _ _ _ by
      rw [HR2.out,hcat];exact ⟨q3,hL.unto,rfl,by rw [←List.append_assoc];exact hwr⟩
     clear hL hwr hcat HC2 HO2 HR2;go_wp2
     exact bodyPost_ret (v:=.tuple #[]) (by simp [results,Tryz.results36,go_sem]) rfl HP.out
theorem zga (w0:World) (b:Option Addr) (m cap:Nat) (b2:Option Addr) (m2 cap2:Nat) (bx r:Nat) (q:Option Nat) (t:List UInt8) (R:Option (List UInt8)) (w:World) (p:w.heap[bx]?=some (pzO b m cap b2 m2 cap2))
  (cx:Calls Tryz.prog 36 #[.pointer (some ⟨r,0,none⟩),.agg #[.slice b m cap,.slice b2 m2 cap2]] w (zr w0 r q t w R)) :
  Calls Tryz.prog 35 #[.pointer (some ⟨r,0,none⟩),.pointer (some ⟨bx,0,none⟩)] w (zr w0 r q t w R):=by
 obtain ⟨c0,c1⟩:=YB p;clear p
 go_enter Tryz.func35,Tryz.ntmps35
 go_wp2_with fail
 refine cx.mono ?_;clear cx;rintro e w1 ⟨q',hto,hp⟩;cases R with
 | none=>subst hp;exact ⟨rfl,q',hto,rfl⟩
 | some u =>
  obtain ⟨rfl,hw⟩:=hp;have HP:Hid (zr w0 r q t w (some u) (.returned (.tuple #[])) w1):=⟨q',hto,rfl,hw⟩;clear hto hw c0 c1;go_wp2
  exact bodyPost_ret (v:=.tuple #[]) (by simp [results,Tryz.results35,go_sem]) rfl HP.out
theorem zeL (f:Nat) (x:Pz) (v:Value) (w:World) (hx:Xo w.heap.size w f x v) (hT:ZV w) (hl:ZS w) (he:Xh w) :
  Calls Tryz.prog 15 #[v] w fun e w'=>e=.returned (.tuple #[.string (za (prR (zbD x)).1),.int .i64 ((prR (zbD x)).2:Int)])∧Below w.heap.size w w':=by
 have hmf:∀(fn:Fn) (first cap:Array Value) (w:World),(Instr.makeFunc fn first cap).run Tryz.prog w=.ok (.func fn first cap) w:=fun _ _ _ _=>rfl
 have hx0:=hx;obtain ⟨b,m,cap,b2,m2,cap2,rfl,_,_⟩:=hx;obtain ⟨w1,hw1⟩:∃w1,w1=w.alloc (pzO b m cap b2 m2 cap2):=⟨_,rfl⟩;have hb1:Below w.heap.size w w1:=by rw [hw1];exact (Below.refl _ w).alloc (Nat.le_refl _) _
 have p1:w1.heap[w.heap.size]?=some (pzO b m cap b2 m2 cap2):=by rw [hw1];exact World.alloc_heap_new w _
 have hs1:w1.heap.size=w.heap.size+1:=by rw [hw1];simp
 have hx1:Xo w1.heap.size w1 f x (.agg #[.slice b m cap,.slice b2 m2 cap2]):=(hx0.kept hb1).wide (by omega)
 obtain ⟨b',m',cap',b2',m2',cap2',hv,h1,h2⟩:=hx1
 have hv1:[Value.slice b m cap,.slice b2 m2 cap2]=[.slice b' m' cap',.slice b2' m2' cap2']:=by
  have:=congrArg (fun v=>match v with | .agg a=>a.toList | _=>[]) hv
  simpa using this
 simp only [List.cons.injEq,Value.slice.injEq,and_true] at hv1;obtain ⟨⟨rfl,rfl,rfl⟩,rfl,rfl,rfl⟩:=hv1;have ca:=zbw 35 w.heap.size (zbD x) w1 (by unfold Xh;rw [hw1];exact ze he _) (fun _ _=>rfl) fun W hWr=>zga w1 b m cap b2 m2 cap2 w.heap.size _ none [] _ W ((hWr.env.block _ (by omega)).trans p1) (zaO w1 (hT.below hb1 (Nat.le_refl _)) (hl.env hb1) f x b m cap b2 m2 cap2 h1 h2 _ none [] W hWr)
 have HB1:Hid (Below w.heap.size w w1):=hb1;have hw1':=hw1.symm;generalize prR (zbD x)=R at *;clear hx0 h1 h2 hv p1 hb1 hT hl he hw1;obtain ⟨u,er⟩:=R;simp only at ca ⊢
 go_enter Tryz.func15,Tryz.ntmps15
 go_wp2_with fail
 refine ca.mono ?_;clear ca;rintro e w2 ⟨rfl,hb2⟩;have HB2:Hid (Below w.heap.size w w2):=zi HB1.out hb2;clear hb2;go_wp2
 exact bodyPost_ret (v:=.tuple #[.string (za u),.int .i64 (er:Int)]) (by simp [results,Tryz.results15,go_sem]) rfl ⟨rfl,HB2.out⟩
def ua (w:World):Prop:=ZV w∧ZS w∧Xh w
theorem ua.below {w w':World} (h:ua w) (hb:Below w.heap.size w w'):ua w':=by
 refine ⟨h.1.below hb (Nat.le_refl _),h.2.1.env hb,?_⟩
 have:=h.2.2
 unfold Xh at this ⊢
 rw [hb.cell (World.block_lt_of_cell? w _ this)];exact this
theorem qP (l want:List UInt8) (y:Ex) (hl:l.length≤4096) (hx:Yq 60 l=(y,0,0)) (hok:UP y=true) (hp:prR (prE 24 (exz y))=(want,0)) (w:World) (hS:ua w) :
  Calls Tryz.prog 31 #[.string (za l),.string (za want)] w fun e w'=>e=.returned (.bool true)∧Below w.heap.size w w':=by
 have cx:=zhk l w hS.1.1 hS.2.1 hS.2.2;have HS:Hid (ua w):=hS;clear hS
 go_enter Tryz.func31,Tryz.ntmps31
 go_wp2_with fail
 refine cx.mono ?_;clear cx;rintro e w1 ⟨x,at0,err,v,rfl,hI,hx1,hb1⟩;have e1:=zbY 60 hl hI (by rw [hx];simp)
 rw [hx] at e1;simp only [Prod.mk.injEq] at e1;obtain ⟨rfl,rfl,rfl⟩:=e1;obtain ⟨a,b,c,d0,d1,d2,k,rfl⟩:=hx1.agg;obtain ⟨w2,hw2⟩:∃w2,w2=w1.alloc (.cells #[.int .i64 a,.string b,.int .i64 c,.slice d0 d1 d2,.int .i64 k] 45):=⟨_,rfl⟩;have hb2:Below w1.heap.size w1 w2:=by rw [hw2];exact (Below.refl _ w1).alloc (Nat.le_refl _) _
 have p2:w2.heap[w1.heap.size]?=some (.cells #[.int .i64 a,.string b,.int .i64 c,.slice d0 d1 d2,.int .i64 k] 45 (0,0)):=by rw [hw2];exact World.alloc_heap_new w1 _
 have hbw:Below w.heap.size w w2:=zi hb1 hb2;have hS2:ua w2:=HS.out.below hbw;have hez:ZJ w2.heap.size w2 (exz y) (.agg #[.int .i64 a,.string b,.int .i64 c,.slice d0 d1 d2,.int .i64 k]):=(hx1.kept hb2.size fun j _ hj=>hb2.block j hj).ez (fun _ _ h=>h) hok
 have cp:=Qk (exz y) _ w2 hez hS2.1 hS2.2.1 hS2.2.2;rw [hp] at cp;have c0:w2.cell? ⟨w1.heap.size,0,none⟩=some (.int .i64 a):=by simp only [World.cell?,p2];rfl
 have c1:w2.cell? ⟨w1.heap.size,1,none⟩=some (.string b):=by simp only [World.cell?,p2];rfl
 have c2:w2.cell? ⟨w1.heap.size,2,none⟩=some (.int .i64 c):=by simp only [World.cell?,p2];rfl
 have c3:w2.cell? ⟨w1.heap.size,3,none⟩=some (.slice d0 d1 d2):=by simp only [World.cell?,p2];rfl
 have c4:w2.cell? ⟨w1.heap.size,4,none⟩=some (.int .i64 k):=by simp only [World.cell?,p2];rfl
 have HB2:Hid (Below w.heap.size w w2):=hbw;have hw2':=hw2.symm;simp only at cp;clear hI hx1 hb1 hw2 hb2 p2 hbw hS2 hez HS hx hok hp;go_wp2_with fail
 refine cp.mono ?_;clear cp c0 c1 c2 c3 c4;rintro e w3 ⟨rfl,hb3⟩;have HB3:Hid (Below w.heap.size w w3):=zi HB2.out hb3;clear hb3 HB2;go_wp2
 exact bodyPost_ret (v:=.bool true) (by simp [results,Tryz.results31,go_sem]) rfl ⟨rfl,HB3.out⟩
theorem ziL (w:World) (hS:ua w):Calls Tryz.prog 19 #[.string ⟨#[49,43]⟩] w fun e w'=>∃(a:Int) (b:ByteArray) (c:Int) (d0:Option Addr) (d1 d2:Nat) (k:Int),e=.returned (.tuple #[.agg #[.int .i64 a,.string b,.int .i64 c,.slice d0 d1 d2,.int .i64 k],.int .i64 2,.int .i64 6])∧Below w.heap.size w w' :=
 (zhk ziH w hS.1.1 hS.2.1 hS.2.2).mono fun e w' ⟨x,at0,err,v,he,hI,hx,hb⟩=>by
  have e1:=zbY 60 (by decide) hI (by rw [cxE];simp)
  rw [cxE] at e1;simp only [Prod.mk.injEq] at e1;obtain ⟨rfl,rfl,rfl⟩:=e1;obtain ⟨a,b,c,d0,d1,d2,k,rfl⟩:=hx.agg;exact ⟨a,b,c,d0,d1,d2,k,he,hb⟩
theorem ziM (w:World) (hS:ua w):Calls Tryz.prog 8 #[.string ⟨#[102,110,32,102,40,41,123,49,61,50,59,125]⟩] w fun e w'=>∃(s0:Option Addr) (s1 s2:Nat) (d0:Option Addr) (d1 d2:Nat),e=.returned (.tuple #[.agg #[.slice s0 s1 s2,.slice d0 d1 d2],.int .i64 8,.int .i64 6])∧Below w.heap.size w w' :=
 (zc7 txF w hS.1.1 hS.2.1 hS.2.2).mono fun e w' ⟨x,at0,err,v,he,hI,hx,hb⟩=>by
  have e1:=zb0 60 (by decide) hI (by rw [cxF];simp)
  rw [cxF] at e1;simp only [Prod.mk.injEq] at e1;obtain ⟨rfl,rfl,rfl⟩:=e1;obtain ⟨s0,s1,s2,d0,d1,d2,rfl⟩:=hx.agg;exact ⟨s0,s1,s2,d0,d1,d2,he,hb⟩
def pgP:Pg:=(uG 60 txP).1
theorem ziN (w:World) (hS:ua w):Calls Tryz.prog 8 #[.string ⟨#[114,101,99,111,114,100,32,80,123,120,58,105,110,116,125,10,102,110,32,102,40,97,58,91,105,110,116,93,41,58,105,110,116,123,114,101,116,117,114,110,32,97,91,48,93,59,125]⟩] w fun e w'=>∃(s0:Option Addr) (s1 s2:Nat) (d0:Option Addr) (d1 d2:Nat),e=.returned (.tuple #[.agg #[.slice s0 s1 s2,.slice d0 d1 d2],.int .i64 0,.int .i64 0])∧YH w.heap.size w' pgP (.agg #[.slice s0 s1 s2,.slice d0 d1 d2])∧Below w.heap.size w w' :=
 (zc7 txP w hS.1.1 hS.2.1 hS.2.2).mono fun e w' ⟨x,at0,err,v,he,hI,hx,hb⟩=>by
  have e1:=zb0 60 (by decide) hI (by rw [cxP.1];simp)
  rw [cxP.1] at e1;simp only [Prod.mk.injEq] at e1;obtain ⟨rfl,rfl,rfl⟩:=e1;obtain ⟨s0,s1,s2,d0,d1,d2,rfl⟩:=hx.agg;exact ⟨s0,s1,s2,d0,d1,d2,he,hx,hb⟩
theorem zb5 (w:World) (hS:ua w) :
  Calls Tryz.prog 13 #[] w fun e w'=>e=.returned (.bool true)∧Below w.heap.size w w':=by
 have HS:Hid (ua w):=hS;have c1:=ziL w hS;clear hS
 go_enter Tryz.func13,Tryz.ntmps13
 go_wp2_with fail
 refine c1.mono ?_;clear c1;rintro e w1 ⟨a,b,c,d0,d1,d2,k,rfl,hb1⟩;obtain ⟨w2,hw2⟩:∃w2,w2=w1.alloc (.cells #[.int .i64 a,.string b,.int .i64 c,.slice d0 d1 d2,.int .i64 k] 45):=⟨_,rfl⟩;have hb2:Below w.heap.size w w2:=by rw [hw2];exact hb1.alloc hb1.size _
 have HB2:Hid (Below w.heap.size w w2):=hb2;have c2:=ziM w2 (HS.out.below hb2);have hw2':=hw2.symm;clear hw2 hb1 hb2;go_wp2_with fail
 refine c2.mono ?_;clear c2;rintro e w3 ⟨s0,s1,s2,e0,e1,e2,rfl,hb3⟩;have hb3':=zi HB2.out hb3;obtain ⟨w4,hw4⟩:∃w4,w4=w3.alloc (.cells #[.slice s0 s1 s2,.slice e0 e1 e2] 25):=⟨_,rfl⟩;have hb4:Below w.heap.size w w4:=by rw [hw4];exact hb3'.alloc hb3'.size _
 have HB4:Hid (Below w.heap.size w w4):=hb4;have c4:=ziN w4 (HS.out.below hb4);have hw4':=hw4.symm;clear hw4 hb3 hb3' hb4 HB2;go_wp2_with fail
 refine c4.mono ?_;clear c4;rintro e w5 ⟨p0,p1,p2,f0,f1,f2,rfl,hx5,hb5⟩;have hb5':=zi HB4.out hb5;obtain ⟨w6,hw6⟩:∃w6,w6=w5.alloc (.cells #[.slice p0 p1 p2,.slice f0 f1 f2] 25):=⟨_,rfl⟩;have hb56:Below w5.heap.size w5 w6:=by rw [hw6];exact (Below.refl _ w5).alloc (Nat.le_refl _) _
 have q6:w6.heap[w5.heap.size]?=some (pzO p0 p1 p2 f0 f1 f2):=by rw [hw6];exact World.alloc_heap_new w5 _
 have hb6:Below w.heap.size w w6:=zi hb5' hb56;have HB6:Hid (Below w.heap.size w w6):=hb6;have hS6:=HS.out.below hb6;have hpz:Xo w6.heap.size w6 (Qs pgP) (pgz pgP) (.agg #[.slice p0 p1 p2,.slice f0 f1 f2]):=xy.pz (xy.kept hx5 hb56.size fun j _ hj=>hb56.block j hj) (fun _ _ h=>h) cxP.2
 have c6:=zeL _ _ _ w6 hpz hS6.1 hS6.2.1 hS6.2.2;have hp:prR (zbD (pgz pgP))=(tyP,0):=cpP;rw [hp] at c6;simp only at c6;obtain ⟨y0,y1⟩:=YB q6;have hw6':=hw6.symm;clear hw6 hx5 hb5 hb5' hb56 q6 hb6 hS6 hpz hp HB4;go_wp2_with fail
 refine c6.mono ?_;clear c6 y0 y1;rintro e w7 ⟨rfl,hb7⟩;have HB7:Hid (Below w.heap.size w w7):=zi HB6.out hb7;clear hb7 HB6;have c7:Calls Tryz.prog 31 #[.string ⟨#[49,45,40,50,45,51,41]⟩,.string ⟨#[49,32,45,32,40,50,32,45,32,51,41]⟩] w7 fun e w'=>e=.returned (.bool true)∧Below w7.heap.size w7 w':=qP tx1 ty1 _ (by decide) cx1.1 cx1.2 cp1 w7 (HS.out.below HB7.out)
 go_wp2_with fail
 refine c7.mono ?_;clear c7;rintro e w8 ⟨rfl,hb8⟩;have HB8:Hid (Below w.heap.size w w8):=zi HB7.out hb8;clear hb8 HB7;have c8:Calls Tryz.prog 31 #[.string ⟨#[40,49,45,50,41,45,51]⟩,.string ⟨#[49,32,45,32,50,32,45,32,51]⟩] w8 fun e w'=>e=.returned (.bool true)∧Below w8.heap.size w8 w':=qP tx2 ty2 _ (by decide) cx2.1 cx2.2 cp2 w8 (HS.out.below HB8.out)
 go_wp2_with fail
 refine c8.mono ?_;clear c8;rintro e w9 ⟨rfl,hb9⟩;have HB9:Hid (Below w.heap.size w w9):=zi HB8.out hb9;clear hb9 HB8;have c9:Calls Tryz.prog 31 #[.string ⟨#[45,97,46,98,91,48,93]⟩,.string ⟨#[45,97,46,98,91,48,93]⟩] w9 fun e w'=>e=.returned (.bool true)∧Below w9.heap.size w9 w':=qP tx3 tx3 _ (by decide) cx3.1 cx3.2 cp3 w9 (HS.out.below HB9.out)
 go_wp2_with fail
 refine c9.mono ?_;clear c9;rintro e w10 ⟨rfl,hb10⟩;have HB10:Hid (Below w.heap.size w w10):=zi HB9.out hb10;clear hb10 HB9;have c10:Calls Tryz.prog 31 #[.string ⟨#[40,45,97,41,46,98]⟩,.string ⟨#[40,45,97,41,46,98]⟩] w10 fun e w'=>e=.returned (.bool true)∧Below w10.heap.size w10 w':=qP tx4 tx4 _ (by decide) cx4.1 cx4.2 cp4 w10 (HS.out.below HB10.out)
 go_wp2_with fail
 refine c10.mono ?_;clear c10;rintro e w11 ⟨rfl,hb11⟩;have HB11:Hid (Below w.heap.size w w11):=zi HB10.out hb11;clear hb11 HB10;have c11:Calls Tryz.prog 31 #[.string ⟨#[33,40,120,38,38,121,41]⟩,.string ⟨#[33,40,120,32,38,38,32,121,41]⟩] w11 fun e w'=>e=.returned (.bool true)∧Below w11.heap.size w11 w':=qP tx5 ty5 _ (by decide) cx5.1 cx5.2 cp5 w11 (HS.out.below HB11.out)
 go_wp2_with fail
 refine c11.mono ?_;clear c11;rintro e w12 ⟨rfl,hb12⟩;have HB12:Hid (Below w.heap.size w w12):=zi HB11.out hb12;clear hb12 HB11 HS;have heq:za tyP=⟨#[114,101,99,111,114,100,32,80,32,123,32,120,58,32,105,110,116,32,125,10,102,110,32,102,40,97,58,32,91,105,110,116,93,41,58,32,105,110,116,32,123,10,114,101,116,117,114,110,32,97,91,48,93,59,10,125,10]⟩:=rfl;rw [heq];clear heq;go_wp2
 exact bodyPost_ret (v:=.bool true) (by simp [results,Tryz.results13,go_sem]) rfl ⟨rfl,HB12.out⟩
end Go.Proofs.YtpejpbbdgblbeaaGreatDoor
namespace Go.Proofs.YtpejpbbdgblbeaaGreatDoor
open Go.ChangeShapes Go.WideShapes Go.RowKit
set_option maxHeartbeats 16000000
set_option maxRecDepth 100000
theorem zdb:∃f0 f1:Field,Tryz.prog.underlying 190=some (.struct #[f0,f1])∧f0.type=9∧f1.type=3∧f0.offset=0∧f1.offset=1:=⟨_,_,Tryz.underlying190,rfl,rfl,rfl,rfl⟩
theorem zdc:Tryz.prog.cellsOf 3=1:=by kernel_rfl
theorem zeM:Tryz.prog.cellsOf 190=2:=by kernel_rfl
theorem zgb {w:World} {m:Nat} {cs:List Value} {a:List UInt8} {b:Int} {p:List MemPlace}
  (h:DataW.trod (fun _=>()) Tryz.prog w 0 (fun _=>true) false m 190 cs=some (.agg [.lit (.string a),.lit (.int .i64 b)],p)):cs[0]?=some (.string (za a))∧cs[1]?=some (.int .i64 b):=by
 obtain ⟨f0,f1,hu,t0,t1,o0,o1⟩:=zdb;obtain ⟨xs,n,-,ex,-,hl,hel⟩:=DataW.trod_struct hu h;have e1:=DataW.agg.inj (Prod.mk.inj ex).1;have h0:=hel 0 f0 rfl;have h1:=hel 1 f1 rfl;rw [t0,o0,uO] at h0;rw [t1,o1,zdc] at h1
 match xs,hl with
 | [x0,x1],_ =>
  simp only [List.map_cons,List.map_nil,List.cons.injEq,and_true] at e1;obtain ⟨s,a0,b0,-⟩:=DataW.trod_string Tryz.underlying9 h0;obtain ⟨z1,a1,b1,-⟩:=DataW.trod_int Tryz.underlying3 h1;rw [b0,b1] at e1;simp only [DataW.lit.injEq,Lit.int.injEq,Lit.string.injEq,true_and] at e1;obtain ⟨rfl,rfl⟩:=e1;have q0:=congrArg (fun l=>l[0]?) a0
  have q1:=congrArg (fun l=>l[0]?) a1
  simp only [List.getElem?_take,List.getElem?_drop] at q0 q1;rw [zdA];exact ⟨by simpa using q0,by simpa using q1⟩
theorem zgc:(Rows.laid_hindcast_syntax_levels:DataW Unit)=.agg (levelsL.map fun p=>.agg [.lit (.string p.1),.lit (.int .i64 p.2)]):=rfl
theorem zdd:∀(j:Nat) (v:Value),vz[j]?=some v→∃(h:j / 2<levelsL.length),v=if j % 2=0 then .string (za (levelsL[j / 2]'h).1) else .int .i64 (levelsL[j / 2]'h).2:=by
 intro j v hj;have hlt:j<26:=(List.getElem?_eq_some_iff.1 hj).1
 have key:∀j (h:j<26),vz[j]?=some (if j % 2=0 then .string (za (levelsL[j / 2]'(by show j / 2<13;omega)).1) else .int .i64 (levelsL[j / 2]'(by show j / 2<13;omega)).2):=by
  intro j h;have hc:j=0∨j=1∨j=2∨j=3∨j=4∨j=5∨j=6∨j=7∨j=8∨j=9∨j=10∨j=11∨j=12∨j=13∨j=14∨j=15∨j=16∨j=17∨j=18∨j=19∨j=20∨j=21∨j=22∨j=23∨j=24∨j=25:=by omega
  rcases hc with rfl | rfl | rfl | rfl | rfl | rfl | rfl | rfl | rfl | rfl | rfl | rfl | rfl | rfl | rfl | rfl | rfl | rfl | rfl | rfl | rfl | rfl | rfl | rfl | rfl | rfl <;> rfl
 exact ⟨by show j / 2<13;omega,Option.some.inj (hj.symm.trans (key j hlt))⟩
theorem zeN {W : World} {laid : List (String × DataW Unit)} (h : laidMet Tryz.prog laid W) (hm : ("hindcast/syntax.levels", Rows.laid_hindcast_syntax_levels) ∈ laid) : ZS W := by
 obtain ⟨ps,hv,-⟩:=h;obtain ⟨g, t, cs, fuel, p, hg, ht, hvar, hd⟩ := Xk (n := "hindcast/syntax.levels") (d := Rows.laid_hindcast_syntax_levels) hv hm;obtain rfl := Option.some.inj ((show Tryz.prog.globalNamed "hindcast/syntax.levels" = some 1 by kernel_rfl).symm.trans hg)
 obtain rfl:=Option.some.inj ((show (Tryz.prog.globals[1]?).map (·.type)=some 191 by kernel_rfl).symm.trans ht)
 rw [zgc] at hd;obtain ⟨xs,m,-,ex,-,hl,hel⟩:=DataW.trod_array Tryz.underlying191 hd;have e1:=DataW.agg.inj (Prod.mk.inj ex).1;intro j v hj;obtain ⟨hlt,rfl⟩:=zdd j v hj;have hlt':j / 2<13:=hlt;have h0:=hel (j / 2) (by omega)
 rw [zeM] at h0;have hxj:j / 2<xs.length:=by omega
 rw [List.getElem?_eq_getElem hxj] at h0;have e2:(levelsL.map fun p=>(DataW.agg [.lit (.string p.1),.lit (.int .i64 p.2)]:DataW Unit))[j / 2]?=(xs.map (·.1))[j / 2]?:=by rw [e1]
 rw [List.getElem?_map,List.getElem?_map,List.getElem?_eq_getElem hlt,List.getElem?_eq_getElem hxj] at e2;simp only [Option.map_some,Option.some.injEq] at e2;obtain ⟨q0,q1⟩:=zgb (a:=(levelsL[j / 2]'hlt).1) (b:=(levelsL[j / 2]'hlt).2) (p:=(xs[j / 2]).2) (h0.trans (by rw [e2]))
 simp only [List.getElem?_take,List.getElem?_drop] at q0 q1;show W.cell? ⟨_,0+j,none⟩=_
 rw [Nat.zero_add,World.var?_cell hg hvar j];rcases Nat.mod_two_eq_zero_or_one j with h9 | h9
 ·rw [if_pos h9]
  rw [if_pos (by omega)] at q0
  rw [show j / 2*2+0=j by omega] at q0
  simpa using q0
 ·rw [if_neg (by omega)]
  rw [if_pos (by omega)] at q1
  rw [show j / 2*2+1=j by omega] at q1
  simpa using q1
def zb6 : List (String × DataW Unit) := [("math/bits.deBruijn32tab", Rows.laid_math_bits_deBruijn32tab), ("math/bits.deBruijn64tab", Rows.laid_math_bits_deBruijn64tab), ("internal/strconv.uint64pow10", Rows.laid_internal_strconv_uint64pow10), ("errors.errorType", Rows.laid_errors_errorType), ("strconv.ErrRange", Rows.laid_strconv_ErrRange), ("strconv.ErrSyntax", Rows.laid_strconv_ErrSyntax), ("hindcast/lex.words", Rows.laid_hindcast_lex_words), ("hindcast/lex.signs", Rows.laid_hindcast_lex_signs), ("hindcast/lex.escapes", Rows.laid_hindcast_lex_escapes), ("hindcast/syntax.levels", Rows.laid_hindcast_syntax_levels)]
def VH:List (String × DataW Unit):=zb6.filter fun x=>x.2.handleName?.isNone
theorem zb7 : VH = [("math/bits.deBruijn32tab", Rows.laid_math_bits_deBruijn32tab), ("math/bits.deBruijn64tab", Rows.laid_math_bits_deBruijn64tab), ("internal/strconv.uint64pow10", Rows.laid_internal_strconv_uint64pow10), ("strconv.ErrRange", Rows.laid_strconv_ErrRange), ("strconv.ErrSyntax", Rows.laid_strconv_ErrSyntax), ("hindcast/lex.words", Rows.laid_hindcast_lex_words), ("hindcast/lex.signs", Rows.laid_hindcast_lex_signs), ("hindcast/lex.escapes", Rows.laid_hindcast_lex_escapes), ("hindcast/syntax.levels", Rows.laid_hindcast_syntax_levels)] := rfl
theorem ziO : Tryz.prog.globalNamed "errors.errorType" = some 0 := by kernel_rfl
theorem ziP : (Tryz.prog.cutTypes.find? (·.1 == "internal/reflectlite.rtype")).map (·.2) = some 196 := by kernel_rfl
theorem zia:((List.range Tryz.prog.types.size).filter fun t=>Tryz.prog.rowNamed t [101,114,114,111,114])=[142]:=by kernel_rfl
theorem zeO {W:World} (h:laidMetH Tryz.prog zb6 W):ua W:=by
 have h':laidMet Tryz.prog VH W∧handlesMet Tryz.prog (zb6.filter fun x=>x.2.handleName?.isSome) W:=h
 have hp:ZS W:=zeN h'.1 (by rw [zb7];simp)
 refine ⟨zcA h'.1 (by rw [zb7];unfold laidX;simp),hp,?_⟩
 obtain ⟨name, u, ty, e1, e2, e3, e4, e5⟩ := h'.2 ("errors.errorType", Rows.laid_errors_errorType) (by simp only [zb6]; exact List.mem_filter.2 ⟨by simp, rfl⟩)
 have en:name=[101,114,114,111,114]:=(Option.some.inj e1).symm;subst en;obtain rfl:=Option.some.inj (ziP.symm.trans e2);have hm:ty∈(List.range Tryz.prog.types.size).filter fun t=>Tryz.prog.rowNamed t [101,114,114,111,114]:=List.mem_filter.2 ⟨List.mem_range.2 e3,e4⟩
 rw [zia] at hm;obtain rfl:=List.mem_singleton.1 hm;have hh:typeHandle Tryz.prog 142=.pointer (some ⟨11,142,none⟩):=by kernel_rfl
 rw [hh] at e5
 unfold Xh
 simpa using World.var?_cell ziO e5 0
noncomputable def zhn (os:Os):World :=
 let w0:=World.holding Tryz.prog os ⟨#[],#[],[]⟩
 { w0 with heap:=w0.heap.modify 0 fun
   | .cells _ t frozen=>.cells #[.iface 196 (.agg #[.pointer (some ⟨11,142,none⟩)])] t frozen
   | o=>o }
noncomputable def zg6 (os:Os):World:=(zhn os).layVars Tryz.prog VH
theorem zg7 (os:Os):(zg6 os).os=os:=World.layVars_os _ _ _
theorem zgd (os:Os) (args:Array Value):laidMetH Tryz.prog zb6 ((zg6 os).forCall (fun _ _=>0) ⟨#[],args,[]⟩).memory:=by
 refine laidMetH_of_parts ?_ (by kernel_rfl)
 have e1:(VH.filter fun x=>(VH.map (·.1)).contains x.1)=VH:=List.filter_eq_self.2 fun x hx=>List.contains_iff_mem.2 (List.mem_map.2 ⟨x,hx,rfl⟩)
 have e2:(VH.filter fun x=>!(VH.map (·.1)).contains x.1)=[]:=List.filter_eq_nil_iff.2 fun x hx=>by rw [List.contains_iff_mem.2 (List.mem_map.2 ⟨x,hx,rfl⟩)];simp
 have h:laidMet Tryz.prog VH (zg6 os):=laidMet_layVars (w0:=zhn os) (VH.map (·.1)) [] (by rw [e1];rfl) (by rw [e1];kernel_rfl) (by rw [e1];kernel_rfl) (by rw [e2];exact LaidIn.none)
 exact h.of_heap (by simp [World.memory,World.forCall,Input.heap])
end Go.Proofs.YtpejpbbdgblbeaaGreatDoor
