import Derived.Test.YtpejpbbdgblbeaaGreatDoorMC20
import Derived.Test.YtpejpbbdgblbeaaGreatDoorMC29
import Derived.Test.YtpejpbbdgblbeaaGreatDoorMC6
import Derived.Test.YtpejpbbdgblbeaaGreatDoorMC13
namespace Go.Proofs.YtpejpbbdgblbeaaGreatDoor
open Go.RowKit Go.Shelf
set_option maxHeartbeats 16000000
set_option maxRecDepth 100000
abbrev XH:Ex:=.mk 0 [] 0 [] 0
def YB (l:List UInt8) (x:Ex) (at0 err:Nat):Prop :=
 if (zW l).2.2≠0 then x=XH∧at0=(zW l).2.1∧err=(zW l).2.2 else
 ∃f res,zf f 1 (zW l).1=some res∧match Yk res with
  | .error a=>x=XH∧at0=a∧err=6
  | .ok y=>if 24<zO y then x=XH∧at0=0∧err=7 else x=y∧at0=0∧err=0
theorem Qg (l:List UInt8):∀(f line a:Nat),(scanS l f line a).1.length≤f
 | 0,_,_=>by simp [scanS]
 | f+1,line,a=>by
  have h:=Qg l f (yj l line a) (zP l a+(zQ l a).sz);rw [scanS]
  split
  ·simp
  ·split
   ·simp
   ·split
    ·simp
    ·simp only [List.length_cons];omega
theorem vL (l:List UInt8):(zW l).1.length≤4097:=by
 unfold zW
 split
 ·simp
 ·have:=Qg l (l.length+1) 1 0
  omega
theorem zc0 {w:World} {B e sz n:Nat} {v:Value} {xs:List Value} (h:w.ownsRow B e sz v n xs) (hn:1≤n):∃g o,v=.slice (some ⟨g,0,none⟩) n o∧B≤g∧g<w.heap.size∧n≤o∧o≤maxLen∧∀j u,xs[j]?=some u→w.cell? ⟨g,j,none⟩=some u:=by
 obtain ⟨g,o,rfl,H,A,D,G⟩:=zdv h hn;refine ⟨g,o,rfl,H,A,D,?_,G⟩;rcases h.2 with ⟨y,_⟩ | ⟨L,z,J,y,_,_,_,I,_⟩
 ·cases y
 ·cases y;exact I
abbrev rdW (w:World) (v:Value):World:=(w.alloc (.cells #[v] 100)).alloc (.cells #[.pointer (some ⟨w.heap.size,0,none⟩)] 56)
theorem zgL (ts:List Tk) (g cap B0 B2 f:Nat) (w0 w2:World) (res:PR Ex) (hE:zi ts) (hlen:ts.length≤4097) (hp:zf f 1 ts=some res) (hgl:g<w2.heap.size) (hcap:ts.length≤cap) (hmax:cap≤maxLen) (hcell:∀j u,(ZG ts)[j]?=some u→w2.cell? ⟨g,j,none⟩=some u)
  (hb:Below w0.heap.size w0 w2) (hl:ZC w0) (he:xp w0) (hB0:w0.heap.size≤B0) (hB2:w0.heap.size≤B2) (hB2g:B2≠g)
  (b0:w2.heap[B0]?=some (.cells #[.func (.func 44) #[] #[]] 93 (0,0))) (b2:w2.heap[B2]?=some Zz) :
  Calls Tryz.prog 48 #[.func (.func 85) #[] #[.pointer (some ⟨B0,0,none⟩),.pointer (some ⟨w2.heap.size+1,0,none⟩),.pointer (some ⟨B2,0,none⟩)]] (rdW w2 (.slice (some ⟨g,0,none⟩) ts.length cap)) fun e w' =>
   ∃J,Below (w2.heap.size+1+1) J w'∧Y5 w2.heap.size B2 w2 J∧match Yk res with
    | .error a=>e=.returned (.tuple #[.int .i64 a,.int .i64 6])
    | .ok x=>e=.returned (.tuple #[.int .i64 0,.int .i64 0])∧∃(a:Int) (b:ByteArray) (c:Int) (d0:Option Addr) (Y Z:Nat) (l:Int),J.heap[B2]?=some (.cells #[.int .i64 a,.string b,.int .i64 c,.slice d0 Y Z,.int .i64 l] 45 (0,0))∧ZL (w2.heap.size+1+1) w' x (.agg #[.int .i64 a,.string b,.int .i64 c,.slice d0 Y Z,.int .i64 l]):=by
 obtain ⟨U,A,rfl⟩:=hE.cons;have hs:w0.heap.size≤w2.heap.size:=hb.size;have ag:1<w0.heap.size:=World.block_lt_of_cell? w0 _ (hl 0 _ rfl);have ae:0<w0.heap.size:=World.block_lt_of_cell? w0 _ he;have V:B0<w2.heap.size:=(Array.getElem?_eq_some_iff.1 b0).1;have O:B2<w2.heap.size:=(Array.getElem?_eq_some_iff.1 b2).1;obtain ⟨w3,y⟩:∃w3,w3=rdW w2 (.slice (some ⟨g,0,none⟩) (U::A).length cap):=⟨_,rfl⟩;have I:w3.heap.size=w2.heap.size+1+1:=by rw [y];simp
 obtain ⟨W,D⟩:∃W,W=zgl w3:=⟨_,rfl⟩;have ah:W.heap.size=w2.heap.size+1+1+1+1:=by rw [D];simp [I]
 have H:∀k,k<w3.heap.size→W.heap[k]?=w3.heap[k]?:=fun k hk=>by rw [D,Below.heap_alloc _ _ _ (by simp;omega),Below.heap_alloc _ _ _ hk]
 have ab:∀k,k<w2.heap.size→w3.heap[k]?=w2.heap[k]?:=fun k hk=>by rw [y,Below.heap_alloc _ _ _ (by simp;omega),Below.heap_alloc _ _ _ hk]
 have z:∀k,k<w2.heap.size→W.heap[k]?=w2.heap[k]?:=fun k hk=>(H k (by omega)).trans (ab k hk)
 have pr:W.heap[w2.heap.size]?=some (.cells #[.slice (some ⟨g,0,none⟩) (U::A).length cap] 100 (0,0)):=by
  rw [H _ (by omega),y,Below.heap_alloc _ _ _ (by simp)];exact World.alloc_heap_new _ _
 have p1:W.heap[w2.heap.size+1]?=some (.cells #[.pointer (some ⟨w2.heap.size,0,none⟩)] 56 (0,0)):=by
  rw [H _ (by omega),y]
  have:=World.alloc_heap_new (w2.alloc (.cells #[.slice (some ⟨g,0,none⟩) (U::A).length cap] 100)) (.cells #[.pointer (some ⟨w2.heap.size,0,none⟩)] 56)
  simpa using this
 have pa:W.heap[w3.heap.size]?=some (.cells #[.int .i64 0] 3 (0,0)):=by
  rw [D,Below.heap_alloc _ _ _ (by simp)];exact World.alloc_heap_new _ _
 have pb:W.heap[w3.heap.size+1]?=some (.cells #[.int .i64 0] 26 (0,0)):=by
  rw [D]
  have:=World.alloc_heap_new (w3.alloc (.cells #[.int .i64 0] 3)) (.cells #[.int .i64 0] 26)
  simpa using this
 have af:zg w2.heap.size g 0 cap (U::A) W :=
  { cell:=by simp only [World.cell?,pr];rfl
    soft:=by simp only [World.frozen?,pr];simp
    hcap:=hcap
    hmax:=hmax
    other:=by omega
    toks:=fun j u hj=>by rw [Nat.zero_add,World.cell?_of_block (z g hgl)];exact hcell j u hj
    few:=by omega }
 have T:ZC W:=fun j v hj=>by
  rw [World.cell?_of_block ((z 1 (by omega)).trans (hb.block _ ag))];exact hl j v hj
 have ad:=zh6 w2.heap.size g 0 cap B0 (w2.heap.size+1) B2 f _ _ (U::A) W res af hE T (by omega) hp ((z _ V).trans b0) p1 ((z _ O).trans b2) (by omega) (by omega) hB2g (by omega)
 rw [←y];refine (xZ 85 #[.pointer (some ⟨B0,0,none⟩),.pointer (some ⟨w2.heap.size+1,0,none⟩),.pointer (some ⟨B2,0,none⟩)] w3 (fun w'=>Qf w2.heap.size B2 W (Yk res) (.returned (.tuple #[])) w') (fun Q at0 w'=>Q=6∧∃a:Nat,at0=(a:Int)∧Yk res=.error a∧Y5 w2.heap.size B2 W w') (fun _=>rfl) ?_).mono ?_
 ·rw [←D]
  refine ad.mono fun e w' o=>⟨(o.1.block _ (by omega) (by omega) (by omega)).trans pa,(o.1.block _ (by omega) (by omega) (by omega)).trans pb,?_,?_⟩
  ·unfold xp
   rw [World.cell?_of_block ((o.1.block 0 (by omega) (by omega) (by omega)).trans ((z 0 (by omega)).trans (hb.block _ ae)))];exact he
  ·have R:=o
   unfold Qf at o
   cases G:Yk res with
   | error a=>rw [G] at o;exact .inr ⟨6,a,o.2,rfl,a,rfl,rfl,o.1⟩
   | ok x=>rw [G] at o R;have:=o.2.1;subst this;exact .inl ⟨rfl,R⟩
 ·have N:∀w',Y5 w2.heap.size B2 W w'→Y5 w2.heap.size B2 w2 w':=fun w' h=>⟨by rw [h.os,D,y];rfl,by rw [h.tape,D,y];rfl,by rw [h.output,D,y];rfl,by have:=h.size;omega,fun k hk hr hb'=>(h.block k (by omega) hr hb').trans (z k hk)⟩
  rintro e w' (⟨J,rfl,o,L,aa⟩ | ⟨Q,at0,J,rfl,⟨rfl,a,rfl,G,hK⟩,L⟩)
  ·rw [I] at L
   refine ⟨J,L,N _ o.1,?_⟩
   unfold Qf at o
   cases G:Yk res with
   | error a=>rw [G] at o;exact absurd o.2 (by simp [ZI])
   | ok x =>
    rw [G] at o;obtain ⟨-,-,a,b,c,d0,Y,Z,l,h1,h2⟩:=o;exact ⟨rfl,a,b,c,d0,Y,Z,l,h1,ZL.mono (ZL.kept h2 L.size fun k hk _=>aa k (by omega) (by omega)) (by omega)⟩
  ·rw [I] at L
   refine ⟨J,L,N _ hK,?_⟩;rw [G]
theorem ziO (l:List UInt8) (w:World) (ht:yI w) (hl:ZC w) (he:xp w) :
  Calls Tryz.prog 43 #[.string (zb l),.func (.func 44) #[] #[],.func (.func 45) #[] #[]] w fun e w' =>
   ∃(x:Ex) (at0 err:Nat) (v:Value),e=.returned (.tuple #[v,.int .i64 at0,.int .i64 err])∧YB l x at0 err∧ZL w.heap.size w' x v∧Below w.heap.size w w':=by
 obtain ⟨w1,L⟩:∃w1,w1=(((w.alloc (.cells #[.func (.func 44) #[] #[]] 93)).alloc Zz).alloc Zz).alloc Zz:=⟨_,rfl⟩;have aG:w1.heap.size=w.heap.size+1+1+1+1:=by rw [L];simp
 have am:Below w.heap.size w w1:=by
  rw [L];exact ((((Below.refl w.heap.size w).alloc (Nat.le_refl _) _).alloc (by simp) _).alloc (by simp <;> omega) _).alloc (by simp <;> omega) _
 have m0:w1.heap[w.heap.size]?=some (.cells #[.func (.func 44) #[] #[]] 93 (0,0)):=by
  rw [L,Below.heap_alloc _ _ _ (by simp <;> omega),Below.heap_alloc _ _ _ (by simp <;> omega),Below.heap_alloc _ _ _ (by simp)];exact World.alloc_heap_new _ _
 have m1:w1.heap[w.heap.size+1]?=some Zz:=by
  rw [L,Below.heap_alloc _ _ _ (by simp <;> omega),Below.heap_alloc _ _ _ (by simp)]
  have:=World.alloc_heap_new (w.alloc (.cells #[.func (.func 44) #[] #[]] 93)) Zz
  simpa using this
 have m2:w1.heap[w.heap.size+1+1]?=some Zz:=by
  rw [L,Below.heap_alloc _ _ _ (by simp)]
  have:=World.alloc_heap_new ((w.alloc (.cells #[.func (.func 44) #[] #[]] 93)).alloc Zz) Zz
  simpa using this
 have m3:w1.heap[w.heap.size+1+1+1]?=some Zz:=by
  rw [L]
  have:=World.alloc_heap_new (((w.alloc (.cells #[.func (.func 44) #[] #[]] 93)).alloc Zz).alloc Zz) Zz
  simpa using this
 have cs:=zat l w1 (ht.below am (Nat.le_refl _));have au:Hid (w1=(((w.alloc (.cells #[.func (.func 44) #[] #[]] 93)).alloc Zz).alloc Zz).alloc Zz):=L;have ak:Hid (Below w.heap.size w w1):=am;have HL:Hid (ZC w):=hl;have HE:Hid (xp w):=he;have HM:Hid (w1.heap[w.heap.size]?=some (.cells #[.func (.func 44) #[] #[]] 93 (0,0))∧w1.heap[w.heap.size+1]?=some Zz∧w1.heap[w.heap.size+1+1]?=some Zz∧w1.heap[w.heap.size+1+1+1]?=some Zz):=⟨m0,m1,m2,m3⟩;clear L am hl he m0 m1 m2 m3 ht
 go_enter Tryz.func43,Tryz.ntmps43
 go_wp2_with fail
 rw [←au.out];refine cs.mono ?_;clear cs au;rintro e w2 ⟨v,rfl,ab,aa⟩;have G:∀k,k<w1.heap.size→w2.heap[k]?=w1.heap[k]?:=fun k hk=>aa.block k hk
 have p0:=(G _ (by omega)).trans HM.out.1
 have p1:=(G _ (by omega)).trans HM.out.2.1
 have p2:=(G _ (by omega)).trans HM.out.2.2.1
 have p3:=(G _ (by omega)).trans HM.out.2.2.2
 have o:Below w.heap.size w w2:=ak.out.trans (aa.mono (by omega))
 have ao:Hid (Below w.heap.size w w2):=o;obtain ⟨a0,a1,a2,a3,a4,af⟩:=zU p1;obtain ⟨c0,c1,c2,c3,c4,-⟩:=zU p2;have aE:=aa.size
 by_cases herr:(zW l).2.2≠0
 ·have HI:Hid (YB l XH (zW l).2.1 (zW l).2.2):=show YB _ _ _ _ by unfold YB;rw [if_pos herr];exact ⟨rfl,rfl,rfl⟩
  have ae:¬((zW l).2.2:Int)=0:=by omega
  generalize (zW l).2.1=A at *;generalize (zW l).2.2=E at *;have h1:((E:Int)==0)=false:=by rw [beq_eq_false_iff_ne];exact ae
  have h2:((E:Int) != 0)=true:=by simp [bne,h1]
  have h3:decide ((E:Int)=0)=false:=by rw [decide_eq_false_iff_not];exact ae
  have h4:(E==0)=false:=by rw [beq_eq_false_iff_ne];exact herr
  have h5:decide (E=0)=false:=by rw [decide_eq_false_iff_not];exact herr
  have h6:(E != 0)=true:=by simp [bne,h4]
  obtain ⟨z0,z1,z2,z3,z4⟩:=zX p1 (.int .i64 0) (.string ⟨#[]⟩) (.int .i64 0) (.slice none 0 0) (.int .i64 0)
  have ap:Below w.heap.size w (set5 w2 (w.heap.size+1) (.int .i64 0) (.string ⟨#[]⟩) (.int .i64 0) (.slice none 0 0) (.int .i64 0)) :=
   ((((o.setCell (p:=⟨w.heap.size+1,0,none⟩) (by simp) _).setCell (p:=⟨w.heap.size+1,1,none⟩) (by simp) _).setCell (p:=⟨w.heap.size+1,2,none⟩) (by simp) _).setCell (p:=⟨w.heap.size+1,3,none⟩) (by simp) _).setCell (p:=⟨w.heap.size+1,4,none⟩) (by simp) _
  have O:Hid (Below w.heap.size w (set5 w2 (w.heap.size+1) (.int .i64 0) (.string ⟨#[]⟩) (.int .i64 0) (.slice none 0 0) (.int .i64 0))):=ap;clear ap o aa ab G p0 p1 p2 p3 HM ao HL HE ak;go_wp2
  refine bodyPost_ret (v:=.tuple #[.agg #[.int .i64 0,.string ⟨#[]⟩,.int .i64 0,.slice none 0 0,.int .i64 0],.int .i64 A,.int .i64 E]) (by simp [results,Tryz.results43,go_sem,z0,z1,z2,z3,z4]) rfl ⟨XH,A,E,_,rfl,HI.out,.leaf 0 [] 0 0,O.out⟩
 ·have ad:(zW l).2.2=0:=by simpa using herr
  have hE:=XG l ad;obtain ⟨t0,aB,aw⟩:=hE.cons;obtain ⟨g,J,rfl,hg,az,ax,av,Z⟩:∃g J,v=.slice (some ⟨g,0,none⟩) (zW l).1.length J∧w1.heap.size≤g∧g<w2.heap.size∧(zW l).1.length≤J∧J≤maxLen∧∀j u,(ZG (zW l).1)[j]?=some u→w2.cell? ⟨g,j,none⟩=some u:=zc0 ab (by rw [aw];simp)
  have ar:=vL l;obtain ⟨f,res,hf,-⟩:=(XY (zW l).1.length (zW l).1 (Nat.le_refl _)).1 1;have hp:zf f 1 (zW l).1=some res:=hf 0;have ca:=zgL (zW l).1 g J w.heap.size (w.heap.size+1+1+1) f w w2 res hE ar hp az ax av Z o HL.out HE.out (Nat.le_refl _) (by omega) (by omega) p0 p3
  have aD:∀(fn:Fn) (first J:Array Value) (w:World),(Instr.makeFunc fn first J).run Tryz.prog w=.ok (.func fn first J) w:=fun _ _ _ _=>rfl
  have ah:∀x us,res=.ok (x,us)→zO x≤4097:=fun x us h=>by
   subst h
   have:=(uI f).1 _ _ _ _ hp
   omega
  have HI:Hid (∀x at0 err,(match Yk res with | .error a=>x=XH∧at0=a∧err=6 | .ok y=>if 24<zO y then x=XH∧at0=0∧err=7 else x=y∧at0=0∧err=0)→YB l x at0 err):=fun x at0 err h=>by
   unfold YB
   rw [if_neg herr];exact ⟨f,res,hp,h⟩
  have R:Hid (∀k,k≤w.heap.size+1+1→∀w5 z,Below (w2.heap.size+1+1) w5 z→Y5 w2.heap.size (w.heap.size+1+1+1) w2 w5→z.heap[k]?=w2.heap[k]?):=fun k hk w5 z h5 h6 =>
   (h5.block k (by omega)).trans (h6.block k (by omega) (by omega) (by omega))
  have an:Hid (∀w5 z,Below (w2.heap.size+1+1) w5 z→Y5 w2.heap.size (w.heap.size+1+1+1) w2 w5→Below w.heap.size w z):=fun w5 z h5 h6 =>
   ⟨h5.os.trans (h6.os.trans o.os),h5.tape.trans (h6.tape.trans o.tape),h5.output.trans (h6.output.trans o.output),by have:=h5.size;have:=h6.size;have:=o.size;omega,fun k hk=>(h5.block k (by omega)).trans ((h6.block k (by omega) (by omega) (by omega)).trans (o.block k hk))⟩
  have ag:Hid (w2.heap[w.heap.size+1]?=some Zz∧w2.heap[w.heap.size+1+1]?=some Zz):=⟨p1,p2⟩;rw [ad];generalize (zW l).2.1=A at *;clear o aa ab G p0 p1 p2 p3 HM ao HL HE ak Z hp hf hE aw a0 a1 a2 a3 a4 af c0 c1 c2 c3 c4;go_wp2_with fail
  refine ca.mono ?_;clear ca;rintro e z ⟨w5,N,Y,H⟩;have q1:=(R.out (w.heap.size+1) (by omega) w5 z N Y).trans ag.out.1
  have q2:=(R.out (w.heap.size+1+1) (by omega) w5 z N Y).trans ag.out.2
  have Q:=an.out w5 z N Y;obtain ⟨a0,a1,a2,a3,a4,af⟩:=zU q1;obtain ⟨c0,c1,c2,c3,c4,-⟩:=zU q2
  have U:∀W,Below w.heap.size w W→∀v0 v1 v2 v3 v4,Below w.heap.size w (set5 W (w.heap.size+1) v0 v1 v2 v3 v4):=fun W hW v0 v1 v2 v3 v4 =>
   ((((hW.setCell (p:=⟨w.heap.size+1,0,none⟩) (by simp) _).setCell (p:=⟨w.heap.size+1,1,none⟩) (by simp) _).setCell (p:=⟨w.heap.size+1,2,none⟩) (by simp) _).setCell (p:=⟨w.heap.size+1,3,none⟩) (by simp) _).setCell (p:=⟨w.heap.size+1,4,none⟩) (by simp) _
  cases hR:Yk res with
  | error a =>
   rw [hR] at H;obtain rfl:=H;have V:Hid (YB l XH a 6):=HI.out XH a 6 (by rw [hR];exact ⟨rfl,rfl,rfl⟩)
   obtain ⟨z0,z1,z2,z3,z4⟩:=zX q1 (.int .i64 0) (.string ⟨#[]⟩) (.int .i64 0) (.slice none 0 0) (.int .i64 0);have O:Hid (Below w.heap.size w (set5 z (w.heap.size+1) (.int .i64 0) (.string ⟨#[]⟩) (.int .i64 0) (.slice none 0 0) (.int .i64 0))):=U z Q _ _ _ _ _;clear U Q q1 q2 N Y HI R an ag;go_wp2
   refine bodyPost_ret (v:=.tuple #[.agg #[.int .i64 0,.string ⟨#[]⟩,.int .i64 0,.slice none 0 0,.int .i64 0],.int .i64 a,.int .i64 6]) (by simp [results,Tryz.results43,go_sem,z0,z1,z2,z3,z4]) rfl ⟨XH,a,6,_,rfl,V.out,.leaf 0 [] 0 0,O.out⟩
  | ok x =>
   rw [hR] at H;obtain ⟨rfl,xa,xb,xc,x0,x1,x2,xl,aq,hx⟩:=H
   have aA:zO x≤4097:=by
    rcases res with a | ⟨y,us⟩
    ·cases hR
    ·unfold Yk at hR
     simp only at hR
     split at hR
     ·cases hR;exact ah _ us rfl
     ·cases hR
   have aC:=N.size;have aF:=Y.size;have qx:=(N.block (w.heap.size+1+1+1) (by omega)).trans aq
   obtain ⟨e0,e1,e2,e3,e4,-⟩:=zU qx;have cd:=vU (fun k=>w2.heap.size+1+1≤k) (zO x) z x _ z (Nat.le_refl _) (by omega) (Below.refl _ _) hx
   have HX:Hid (ZL (w2.heap.size+1+1) z x (.agg #[.int .i64 xa,.string xb,.int .i64 xc,.slice x0 x1 x2,.int .i64 xl])):=hx;have HQ:Hid (z.heap[w.heap.size+1]?=some Zz∧z.heap[w.heap.size+1+1]?=some Zz∧z.heap[w.heap.size+1+1+1]?=some (.cells #[.int .i64 xa,.string xb,.int .i64 xc,.slice x0 x1 x2,.int .i64 xl] 45 (0,0))):=⟨q1,q2,qx⟩;have al:Hid (Below w.heap.size w z):=Q;have HS:Hid (∀W,Below w.heap.size w W→∀v0 v1 v2 v3 v4,Below w.heap.size w (set5 W (w.heap.size+1) v0 v1 v2 v3 v4)):=U;have V:Hid (∀y at0 err,(if 24<zO x then y=XH∧at0=0∧err=7 else y=x∧at0=0∧err=0)→YB l y at0 err):=fun y at0 err h=>HI.out y at0 err (by rw [hR];exact h)
   generalize hD:zO x=D at *;clear U Q q1 q2 qx N Y HI R an ag hx aq ah;go_wp2_with fail
   refine cd.mono ?_;clear cd a0 a1 a2 a3 a4 af c0 c1 c2 c3 c4 e0 e1 e2 e3 e4;rintro e w7 ⟨rfl,I⟩;have r1:=(I.block _ (by omega)).trans HQ.out.1
   have r2:=(I.block _ (by omega)).trans HQ.out.2.1
   have r3:=(I.block _ (by omega)).trans HQ.out.2.2
   have T:Below w.heap.size w w7:=al.out.trans (I.mono (by omega))
   have ai:ZL (w2.heap.size+1+1) w7 x (.agg #[.int .i64 xa,.string xb,.int .i64 xc,.slice x0 x1 x2,.int .i64 xl]):=ZL.kept HX.out I.size fun k _ hlt=>I.block k hlt
   obtain ⟨a0,a1,a2,a3,a4,af⟩:=zU r1
   by_cases hdeep:24<D
   ·obtain ⟨c0,c1,c2,c3,c4,-⟩:=zU r2
    obtain ⟨z0,z1,z2,z3,z4⟩:=zX r1 (.int .i64 0) (.string ⟨#[]⟩) (.int .i64 0) (.slice none 0 0) (.int .i64 0);have aj:Hid (YB l XH 0 7):=V.out XH 0 7 (by rw [if_pos hdeep];exact ⟨rfl,rfl,rfl⟩)
    have O:Hid (Below w.heap.size w (set5 w7 (w.heap.size+1) (.int .i64 0) (.string ⟨#[]⟩) (.int .i64 0) (.slice none 0 0) (.int .i64 0))):=HS.out w7 T _ _ _ _ _;have h1:(24:Int)<(D:Int):=by omega
    clear T ai r1 r2 r3 I HQ HX al HS V;go_wp2
    refine bodyPost_ret (v:=.tuple #[.agg #[.int .i64 0,.string ⟨#[]⟩,.int .i64 0,.slice none 0 0,.int .i64 0],.int .i64 0,.int .i64 7]) (by simp [results,Tryz.results43,go_sem,z0,z1,z2,z3,z4]) rfl ⟨XH,0,7,_,rfl,aj.out,.leaf 0 [] 0 0,O.out⟩
   ·obtain ⟨c0,c1,c2,c3,c4,-⟩:=zU r3
    obtain ⟨z0,z1,z2,z3,z4⟩:=zX r1 (.int .i64 xa) (.string xb) (.int .i64 xc) (.slice x0 x1 x2) (.int .i64 xl);have aj:Hid (YB l x 0 0):=V.out x 0 0 (by rw [if_neg hdeep];exact ⟨rfl,rfl,rfl⟩)
    have O:Hid (Below w.heap.size w (set5 w7 (w.heap.size+1) (.int .i64 xa) (.string xb) (.int .i64 xc) (.slice x0 x1 x2) (.int .i64 xl))):=HS.out w7 T _ _ _ _ _;have ay:Hid (ZL w.heap.size (set5 w7 (w.heap.size+1) (.int .i64 xa) (.string xb) (.int .i64 xc) (.slice x0 x1 x2) (.int .i64 xl)) x (.agg #[.int .i64 xa,.string xb,.int .i64 xc,.slice x0 x1 x2,.int .i64 xl])):=ZL.mono (ZL.kept ai (w':=set5 w7 (w.heap.size+1) (.int .i64 xa) (.string xb) (.int .i64 xc) (.slice x0 x1 x2) (.int .i64 xl)) (by simp) fun k hk _=>zu _ _ _ _ _ _ _ (by omega)) (by omega)
    have h1:¬(24:Int)<(D:Int):=by omega
    clear T ai r1 r2 r3 I HQ HX al HS V;go_wp2
    refine bodyPost_ret (v:=.tuple #[.agg #[.int .i64 xa,.string xb,.int .i64 xc,.slice x0 x1 x2,.int .i64 xl],.int .i64 0,.int .i64 0]) (by simp [results,Tryz.results43,go_sem,z0,z1,z2,z3,z4]) rfl ⟨x,0,0,_,rfl,aj.out,ay.out,O.out⟩
def Z2 (l:List UInt8) (x:Pg) (at0 err:Nat):Prop :=
 if (zW l).2.2≠0 then x=YA∧at0=(zW l).2.1∧err=(zW l).2.2 else
 ∃f res,Zm f [] [] (zW l).1=some res∧match yi res with
  | .error a=>x=YA∧at0=a∧err=6
  | .ok y=>if 24<depthFs y.funs then x=YA∧at0=0∧err=7 else x=y∧at0=0∧err=0
theorem zfh (ts:List Tk) (g cap B0 B2 f:Nat) (w0 w2:World) (res:PR Pg) (hE:zi ts) (hlen:ts.length≤4097) (hp:Zm f [] [] ts=some res) (hgl:g<w2.heap.size) (hcap:ts.length≤cap) (hmax:cap≤maxLen) (hcell:∀j u,(ZG ts)[j]?=some u→w2.cell? ⟨g,j,none⟩=some u)
  (hb:Below w0.heap.size w0 w2) (hl:ZC w0) (he:xp w0) (hB0:w0.heap.size≤B0) (hB2:w0.heap.size≤B2) (hB2g:B2≠g)
  (b0:w2.heap[B0]?=some (.cells #[.func (.func 22) #[] #[]] 54 (0,0))) (b2:w2.heap[B2]?=some Xq) :
  Calls Tryz.prog 48 #[.func (.func 49) #[] #[.pointer (some ⟨B0,0,none⟩),.pointer (some ⟨w2.heap.size+1,0,none⟩),.pointer (some ⟨B2,0,none⟩)]] (rdW w2 (.slice (some ⟨g,0,none⟩) ts.length cap)) fun e w' =>
   ∃J,Below (w2.heap.size+1+1) J w'∧Y5 w2.heap.size B2 w2 J∧match yi res with
    | .error a=>e=.returned (.tuple #[.int .i64 a,.int .i64 6])
    | .ok x=>e=.returned (.tuple #[.int .i64 0,.int .i64 0])∧∃(s0:Option Addr) (s1 Y:Nat) (d0:Option Addr) (Z d2:Nat),J.heap[B2]?=some (.cells #[.slice s0 s1 Y,.slice d0 Z d2] 25 (0,0))∧Yl (w2.heap.size+1+1) w' x (.agg #[.slice s0 s1 Y,.slice d0 Z d2]):=by
 obtain ⟨U,A,rfl⟩:=hE.cons;have hs:w0.heap.size≤w2.heap.size:=hb.size;have ag:1<w0.heap.size:=World.block_lt_of_cell? w0 _ (hl 0 _ rfl);have ae:0<w0.heap.size:=World.block_lt_of_cell? w0 _ he;have V:B0<w2.heap.size:=(Array.getElem?_eq_some_iff.1 b0).1;have O:B2<w2.heap.size:=(Array.getElem?_eq_some_iff.1 b2).1;obtain ⟨w3,y⟩:∃w3,w3=rdW w2 (.slice (some ⟨g,0,none⟩) (U::A).length cap):=⟨_,rfl⟩;have I:w3.heap.size=w2.heap.size+1+1:=by rw [y];simp
 obtain ⟨W,D⟩:∃W,W=zgl w3:=⟨_,rfl⟩;have ah:W.heap.size=w2.heap.size+1+1+1+1:=by rw [D];simp [I]
 have H:∀k,k<w3.heap.size→W.heap[k]?=w3.heap[k]?:=fun k hk=>by rw [D,Below.heap_alloc _ _ _ (by simp;omega),Below.heap_alloc _ _ _ hk]
 have ab:∀k,k<w2.heap.size→w3.heap[k]?=w2.heap[k]?:=fun k hk=>by rw [y,Below.heap_alloc _ _ _ (by simp;omega),Below.heap_alloc _ _ _ hk]
 have z:∀k,k<w2.heap.size→W.heap[k]?=w2.heap[k]?:=fun k hk=>(H k (by omega)).trans (ab k hk)
 have pr:W.heap[w2.heap.size]?=some (.cells #[.slice (some ⟨g,0,none⟩) (U::A).length cap] 100 (0,0)):=by
  rw [H _ (by omega),y,Below.heap_alloc _ _ _ (by simp)];exact World.alloc_heap_new _ _
 have p1:W.heap[w2.heap.size+1]?=some (.cells #[.pointer (some ⟨w2.heap.size,0,none⟩)] 56 (0,0)):=by
  rw [H _ (by omega),y]
  have:=World.alloc_heap_new (w2.alloc (.cells #[.slice (some ⟨g,0,none⟩) (U::A).length cap] 100)) (.cells #[.pointer (some ⟨w2.heap.size,0,none⟩)] 56)
  simpa using this
 have pa:W.heap[w3.heap.size]?=some (.cells #[.int .i64 0] 3 (0,0)):=by
  rw [D,Below.heap_alloc _ _ _ (by simp)];exact World.alloc_heap_new _ _
 have pb:W.heap[w3.heap.size+1]?=some (.cells #[.int .i64 0] 26 (0,0)):=by
  rw [D]
  have:=World.alloc_heap_new (w3.alloc (.cells #[.int .i64 0] 3)) (.cells #[.int .i64 0] 26)
  simpa using this
 have af:zg w2.heap.size g 0 cap (U::A) W :=
  { cell:=by simp only [World.cell?,pr];rfl
    soft:=by simp only [World.frozen?,pr];simp
    hcap:=hcap
    hmax:=hmax
    other:=by omega
    toks:=fun j u hj=>by rw [Nat.zero_add,World.cell?_of_block (z g hgl)];exact hcell j u hj
    few:=by omega }
 have T:ZC W:=fun j v hj=>by
  rw [World.cell?_of_block ((z 1 (by omega)).trans (hb.block _ ag))];exact hl j v hj
 have ad:=zgK w2.heap.size g 0 cap B0 (w2.heap.size+1) B2 f _ _ (U::A) W res af hE T (by omega) hp ((z _ V).trans b0) p1 ((z _ O).trans b2) (by omega) (by omega) hB2g (by omega)
 rw [←y];refine (xZ 49 #[.pointer (some ⟨B0,0,none⟩),.pointer (some ⟨w2.heap.size+1,0,none⟩),.pointer (some ⟨B2,0,none⟩)] w3 (fun w'=>ui w2.heap.size B2 W (yi res) (.returned (.tuple #[])) w') (fun Q at0 w'=>Q=6∧∃a:Nat,at0=(a:Int)∧yi res=.error a∧Y5 w2.heap.size B2 W w') (fun _=>rfl) ?_).mono ?_
 ·rw [←D]
  refine ad.mono fun e w' o=>⟨(o.1.block _ (by omega) (by omega) (by omega)).trans pa,(o.1.block _ (by omega) (by omega) (by omega)).trans pb,?_,?_⟩
  ·unfold xp
   rw [World.cell?_of_block ((o.1.block 0 (by omega) (by omega) (by omega)).trans ((z 0 (by omega)).trans (hb.block _ ae)))];exact he
  ·have R:=o
   unfold ui at o
   cases G:yi res with
   | error a=>rw [G] at o;exact .inr ⟨6,a,o.2,rfl,a,rfl,rfl,o.1⟩
   | ok x=>rw [G] at o R;have:=o.2.1;subst this;exact .inl ⟨rfl,R⟩
 ·have N:∀w',Y5 w2.heap.size B2 W w'→Y5 w2.heap.size B2 w2 w':=fun w' h=>⟨by rw [h.os,D,y];rfl,by rw [h.tape,D,y];rfl,by rw [h.output,D,y];rfl,by have:=h.size;omega,fun k hk hr hb'=>(h.block k (by omega) hr hb').trans (z k hk)⟩
  rintro e w' (⟨J,rfl,o,L,aa⟩ | ⟨Q,at0,J,rfl,⟨rfl,a,rfl,G,hK⟩,L⟩)
  ·rw [I] at L
   refine ⟨J,L,N _ o.1,?_⟩
   unfold ui at o
   cases G:yi res with
   | error a=>rw [G] at o;exact absurd o.2 (by simp [ZI])
   | ok x =>
    rw [G] at o;obtain ⟨-,-,s0,s1,Y,d0,Z,d2,h1,h2⟩:=o;exact ⟨rfl,s0,s1,Y,d0,Z,d2,h1,Yl.mono (Yl.kept h2 L.size fun k hk _=>aa k (by omega) (by omega)) (by omega)⟩
  ·rw [I] at L
   refine ⟨J,L,N _ hK,?_⟩;rw [G]
theorem ziP (l:List UInt8) (w:World) (ht:yI w) (hl:ZC w) (he:xp w) :
  Calls Tryz.prog 21 #[.string (zb l),.func (.func 22) #[] #[],.func (.func 23) #[] #[]] w fun e w' =>
   ∃(x:Pg) (at0 err:Nat) (v:Value),e=.returned (.tuple #[v,.int .i64 at0,.int .i64 err])∧Z2 l x at0 err∧Yl w.heap.size w' x v∧Below w.heap.size w w':=by
 obtain ⟨w1,L⟩:∃w1,w1=(((w.alloc (.cells #[.func (.func 22) #[] #[]] 54)).alloc Xq).alloc Xq).alloc Xq:=⟨_,rfl⟩;have aG:w1.heap.size=w.heap.size+1+1+1+1:=by rw [L];simp
 have am:Below w.heap.size w w1:=by
  rw [L];exact ((((Below.refl w.heap.size w).alloc (Nat.le_refl _) _).alloc (by simp) _).alloc (by simp <;> omega) _).alloc (by simp <;> omega) _
 have m0:w1.heap[w.heap.size]?=some (.cells #[.func (.func 22) #[] #[]] 54 (0,0)):=by
  rw [L,Below.heap_alloc _ _ _ (by simp <;> omega),Below.heap_alloc _ _ _ (by simp <;> omega),Below.heap_alloc _ _ _ (by simp)];exact World.alloc_heap_new _ _
 have m1:w1.heap[w.heap.size+1]?=some Xq:=by
  rw [L,Below.heap_alloc _ _ _ (by simp <;> omega),Below.heap_alloc _ _ _ (by simp)]
  have:=World.alloc_heap_new (w.alloc (.cells #[.func (.func 22) #[] #[]] 54)) Xq
  simpa using this
 have m2:w1.heap[w.heap.size+1+1]?=some Xq:=by
  rw [L,Below.heap_alloc _ _ _ (by simp)]
  have:=World.alloc_heap_new ((w.alloc (.cells #[.func (.func 22) #[] #[]] 54)).alloc Xq) Xq
  simpa using this
 have m3:w1.heap[w.heap.size+1+1+1]?=some Xq:=by
  rw [L]
  have:=World.alloc_heap_new (((w.alloc (.cells #[.func (.func 22) #[] #[]] 54)).alloc Xq).alloc Xq) Xq
  simpa using this
 have cs:=zat l w1 (ht.below am (Nat.le_refl _));have au:Hid (w1=(((w.alloc (.cells #[.func (.func 22) #[] #[]] 54)).alloc Xq).alloc Xq).alloc Xq):=L;have ak:Hid (Below w.heap.size w w1):=am;have HL:Hid (ZC w):=hl;have HE:Hid (xp w):=he;have HM:Hid (w1.heap[w.heap.size]?=some (.cells #[.func (.func 22) #[] #[]] 54 (0,0))∧w1.heap[w.heap.size+1]?=some Xq∧w1.heap[w.heap.size+1+1]?=some Xq∧w1.heap[w.heap.size+1+1+1]?=some Xq):=⟨m0,m1,m2,m3⟩;clear L am hl he m0 m1 m2 m3 ht
 go_enter Tryz.func21,Tryz.ntmps21
 go_wp2_with fail
 rw [←au.out];refine cs.mono ?_;clear cs au;rintro e w2 ⟨v,rfl,ab,aa⟩;have z:∀k,k<w1.heap.size→w2.heap[k]?=w1.heap[k]?:=fun k hk=>aa.block k hk
 have p0:=(z _ (by omega)).trans HM.out.1
 have p1:=(z _ (by omega)).trans HM.out.2.1
 have p2:=(z _ (by omega)).trans HM.out.2.2.1
 have p3:=(z _ (by omega)).trans HM.out.2.2.2
 have o:Below w.heap.size w w2:=ak.out.trans (aa.mono (by omega))
 have ao:Hid (Below w.heap.size w w2):=o;obtain ⟨a0,a1,af⟩:=ZA p1;obtain ⟨c0,c1,-⟩:=ZA p2;have aE:=aa.size
 by_cases herr:(zW l).2.2≠0
 ·have HI:Hid (Z2 l YA (zW l).2.1 (zW l).2.2):=show Z2 _ _ _ _ by unfold Z2;rw [if_pos herr];exact ⟨rfl,rfl,rfl⟩
  have ae:¬((zW l).2.2:Int)=0:=by omega
  generalize (zW l).2.1=A at *;generalize (zW l).2.2=E at *;have h1:((E:Int)==0)=false:=by rw [beq_eq_false_iff_ne];exact ae
  have h2:((E:Int) != 0)=true:=by simp [bne,h1]
  have h3:decide ((E:Int)=0)=false:=by rw [decide_eq_false_iff_not];exact ae
  have h4:(E==0)=false:=by rw [beq_eq_false_iff_ne];exact herr
  have h5:decide (E=0)=false:=by rw [decide_eq_false_iff_not];exact herr
  have h6:(E != 0)=true:=by simp [bne,h4]
  obtain ⟨z0,z1⟩:=xD p1 (.slice none 0 0) (.slice none 0 0)
  have ap:Below w.heap.size w (vk w2 (w.heap.size+1) (.slice none 0 0) (.slice none 0 0)) :=
   (o.setCell (p:=⟨w.heap.size+1,0,none⟩) (by simp) _).setCell (p:=⟨w.heap.size+1,1,none⟩) (by simp) _
  have O:Hid (Below w.heap.size w (vk w2 (w.heap.size+1) (.slice none 0 0) (.slice none 0 0))):=ap;clear ap o aa ab z p0 p1 p2 p3 HM ao HL HE ak;go_wp2
  refine bodyPost_ret (v:=.tuple #[.agg #[.slice none 0 0,.slice none 0 0],.int .i64 A,.int .i64 E]) (by simp [results,Tryz.results21,go_sem,z0,z1]) rfl ⟨YA,A,E,_,rfl,HI.out,zfg _ _,O.out⟩
 ·have ad:(zW l).2.2=0:=by simpa using herr
  have hE:=XG l ad;obtain ⟨t0,aB,aw⟩:=hE.cons;obtain ⟨g,J,rfl,hg,az,ax,av,Z⟩:∃g J,v=.slice (some ⟨g,0,none⟩) (zW l).1.length J∧w1.heap.size≤g∧g<w2.heap.size∧(zW l).1.length≤J∧J≤maxLen∧∀j u,(ZG (zW l).1)[j]?=some u→w2.cell? ⟨g,j,none⟩=some u:=zc0 ab (by rw [aw];simp)
  have ar:=vL l;obtain ⟨f,res,hf,-⟩:=zb7 (zW l).1.length (zW l).1 (Nat.le_refl _) hE [] [];have hp:Zm f [] [] (zW l).1=some res:=hf 0;have ca:=zfh (zW l).1 g J w.heap.size (w.heap.size+1+1+1) f w w2 res hE ar hp az ax av Z o HL.out HE.out (Nat.le_refl _) (by omega) (by omega) p0 p3
  have aD:∀(fn:Fn) (first J:Array Value) (w:World),(Instr.makeFunc fn first J).run Tryz.prog w=.ok (.func fn first J) w:=fun _ _ _ _=>rfl
  have ah:∀x us,res=.ok (x,us)→depthFs x.funs≤4097:=fun x us h=>by
   subst h
   have:=Vq (zW l).1.length f [] [] _ us x hp hE (by simp [depthFs])
   omega
  have HI:Hid (∀x at0 err,(match yi res with | .error a=>x=YA∧at0=a∧err=6 | .ok y=>if 24<depthFs y.funs then x=YA∧at0=0∧err=7 else x=y∧at0=0∧err=0)→Z2 l x at0 err):=fun x at0 err h=>by
   unfold Z2
   rw [if_neg herr];exact ⟨f,res,hp,h⟩
  have R:Hid (∀k,k≤w.heap.size+1+1→∀w5 G,Below (w2.heap.size+1+1) w5 G→Y5 w2.heap.size (w.heap.size+1+1+1) w2 w5→G.heap[k]?=w2.heap[k]?):=fun k hk w5 G h5 h6 =>
   (h5.block k (by omega)).trans (h6.block k (by omega) (by omega) (by omega))
  have an:Hid (∀w5 G,Below (w2.heap.size+1+1) w5 G→Y5 w2.heap.size (w.heap.size+1+1+1) w2 w5→Below w.heap.size w G):=fun w5 G h5 h6 =>
   ⟨h5.os.trans (h6.os.trans o.os),h5.tape.trans (h6.tape.trans o.tape),h5.output.trans (h6.output.trans o.output),by have:=h5.size;have:=h6.size;have:=o.size;omega,fun k hk=>(h5.block k (by omega)).trans ((h6.block k (by omega) (by omega) (by omega)).trans (o.block k hk))⟩
  have ag:Hid (w2.heap[w.heap.size+1]?=some Xq∧w2.heap[w.heap.size+1+1]?=some Xq):=⟨p1,p2⟩;rw [ad];generalize (zW l).2.1=A at *;clear o aa ab z p0 p1 p2 p3 HM ao HL HE ak Z hp hf hE aw a0 a1 af c0 c1;go_wp2_with fail
  refine ca.mono ?_;clear ca;rintro e G ⟨w5,N,Y,H⟩;have q1:=(R.out (w.heap.size+1) (by omega) w5 G N Y).trans ag.out.1
  have q2:=(R.out (w.heap.size+1+1) (by omega) w5 G N Y).trans ag.out.2
  have Q:=an.out w5 G N Y;obtain ⟨a0,a1,af⟩:=ZA q1;obtain ⟨c0,c1,-⟩:=ZA q2
  have U:∀W,Below w.heap.size w W→∀v0 v1,Below w.heap.size w (vk W (w.heap.size+1) v0 v1):=fun W hW v0 v1 =>
   (hW.setCell (p:=⟨w.heap.size+1,0,none⟩) (by simp) _).setCell (p:=⟨w.heap.size+1,1,none⟩) (by simp) _
  cases hR:yi res with
  | error a =>
   rw [hR] at H;obtain rfl:=H;have V:Hid (Z2 l YA a 6):=HI.out YA a 6 (by rw [hR];exact ⟨rfl,rfl,rfl⟩)
   obtain ⟨z0,z1⟩:=xD q1 (.slice none 0 0) (.slice none 0 0);have O:Hid (Below w.heap.size w (vk G (w.heap.size+1) (.slice none 0 0) (.slice none 0 0))):=U G Q _ _;clear U Q q1 q2 N Y HI R an ag;go_wp2
   refine bodyPost_ret (v:=.tuple #[.agg #[.slice none 0 0,.slice none 0 0],.int .i64 a,.int .i64 6]) (by simp [results,Tryz.results21,go_sem,z0,z1]) rfl ⟨YA,a,6,_,rfl,V.out,zfg _ _,O.out⟩
  | ok x =>
   rw [hR] at H;obtain ⟨rfl,y0,y1,y2,x0,x1,x2,aq,hx⟩:=H
   have aA:depthFs x.funs≤4097:=by
    rcases res with a | ⟨y,us⟩
    ·cases hR
    ·unfold yi at hR
     simp only at hR
     split at hR
     ·cases hR;exact ah _ us rfl
     ·cases hR
   have aC:=N.size;have aF:=Y.size;have qx:=(N.block (w.heap.size+1+1+1) (by omega)).trans aq
   obtain ⟨e0,e1,-⟩:=ZA qx;have cd:=uf (fun k=>w2.heap.size+1+1≤k) G x _ hx (by omega)
   have HX:Hid (Yl (w2.heap.size+1+1) G x (.agg #[.slice y0 y1 y2,.slice x0 x1 x2])):=hx;have HQ:Hid (G.heap[w.heap.size+1]?=some Xq∧G.heap[w.heap.size+1+1]?=some Xq∧G.heap[w.heap.size+1+1+1]?=some (.cells #[.slice y0 y1 y2,.slice x0 x1 x2] 25 (0,0))):=⟨q1,q2,qx⟩;have al:Hid (Below w.heap.size w G):=Q;have HS:Hid (∀W,Below w.heap.size w W→∀v0 v1,Below w.heap.size w (vk W (w.heap.size+1) v0 v1)):=U;have V:Hid (∀y at0 err,(if 24<depthFs x.funs then y=YA∧at0=0∧err=7 else y=x∧at0=0∧err=0)→Z2 l y at0 err):=fun y at0 err h=>HI.out y at0 err (by rw [hR];exact h)
   generalize hD:depthFs x.funs=D at *;clear U Q q1 q2 qx N Y HI R an ag hx aq ah;go_wp2_with fail
   refine cd.mono ?_;clear cd a0 a1 af c0 c1 e0 e1;rintro e w7 ⟨rfl,I⟩;have r1:=(I.block _ (by omega)).trans HQ.out.1
   have r2:=(I.block _ (by omega)).trans HQ.out.2.1
   have r3:=(I.block _ (by omega)).trans HQ.out.2.2
   have T:Below w.heap.size w w7:=al.out.trans (I.mono (by omega))
   have ai:Yl (w2.heap.size+1+1) w7 x (.agg #[.slice y0 y1 y2,.slice x0 x1 x2]):=Yl.kept HX.out I.size fun k _ hlt=>I.block k hlt
   obtain ⟨a0,a1,af⟩:=ZA r1
   by_cases hdeep:24<D
   ·obtain ⟨c0,c1,-⟩:=ZA r2
    obtain ⟨z0,z1⟩:=xD r1 (.slice none 0 0) (.slice none 0 0);have aj:Hid (Z2 l YA 0 7):=V.out YA 0 7 (by rw [if_pos hdeep];exact ⟨rfl,rfl,rfl⟩)
    have O:Hid (Below w.heap.size w (vk w7 (w.heap.size+1) (.slice none 0 0) (.slice none 0 0))):=HS.out w7 T _ _;have h1:(24:Int)<(D:Int):=by omega
    clear T ai r1 r2 r3 I HQ HX al HS V;go_wp2
    refine bodyPost_ret (v:=.tuple #[.agg #[.slice none 0 0,.slice none 0 0],.int .i64 0,.int .i64 7]) (by simp [results,Tryz.results21,go_sem,z0,z1]) rfl ⟨YA,0,7,_,rfl,aj.out,zfg _ _,O.out⟩
   ·obtain ⟨c0,c1,-⟩:=ZA r3
    obtain ⟨z0,z1⟩:=xD r1 (.slice y0 y1 y2) (.slice x0 x1 x2);have aj:Hid (Z2 l x 0 0):=V.out x 0 0 (by rw [if_neg hdeep];exact ⟨rfl,rfl,rfl⟩)
    have O:Hid (Below w.heap.size w (vk w7 (w.heap.size+1) (.slice y0 y1 y2) (.slice x0 x1 x2))):=HS.out w7 T _ _;have ay:Hid (Yl w.heap.size (vk w7 (w.heap.size+1) (.slice y0 y1 y2) (.slice x0 x1 x2)) x (.agg #[.slice y0 y1 y2,.slice x0 x1 x2])):=Yl.mono (Yl.kept ai (w':=vk w7 (w.heap.size+1) (.slice y0 y1 y2) (.slice x0 x1 x2)) (by simp) fun k hk _=>uh _ _ _ _ (by omega)) (by omega)
    have h1:¬(24:Int)<(D:Int):=by omega
    clear T ai r1 r2 r3 I HQ HX al HS V;go_wp2
    refine bodyPost_ret (v:=.tuple #[.agg #[.slice y0 y1 y2,.slice x0 x1 x2],.int .i64 0,.int .i64 0]) (by simp [results,Tryz.results21,go_sem,z0,z1]) rfl ⟨x,0,0,_,rfl,aj.out,ay.out,O.out⟩
end Go.Proofs.YtpejpbbdgblbeaaGreatDoor
