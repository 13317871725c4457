import Derived.Test.YtpejpbbdgblbeaaGreatDoorMC20
import Derived.Test.YtpejpbbdgblbeaaGreatDoorMC29
import Derived.Test.YtpejpbbdgblbeaaGreatDoorMC6
import Derived.Test.YtpejpbbdgblbeaaGreatDoorMC13
namespace Go.Proofs.YtpejpbbdgblbeaaGreatDoor
open Go.RowKit Go.Shelf
set_option maxHeartbeats 16000000
set_option maxRecDepth 100000
abbrev Xl:Ex:=.mk 0 [] 0 [] 0
def Yo (l:List UInt8) (x:Ex) (at0 err:Nat):Prop :=
 if (zM l).2.2≠0 then x=Xl∧at0=(zM l).2.1∧err=(zM l).2.2 else
 ∃f res,zh f 1 (zM l).1=some res∧match y9 res with
  | .error a=>x=Xl∧at0=a∧err=6
  | .ok y=>if 24<zN y then x=Xl∧at0=0∧err=7 else x=y∧at0=0∧err=0
theorem U9 (l:List UInt8):∀(f line a:Nat),(scanS l f line a).1.length≤f
 | 0,_,_=>by simp [scanS]
 | f+1,line,a=>by
  have h:=U9 l f (ZF l line a) (zC l a+(zG l a).sz);rw [scanS]
  split
  ·simp
  ·split
   ·simp
   ·split
    ·simp
    ·simp only [List.length_cons];omega
theorem Y5 (l:List UInt8):(zM l).1.length≤4097:=by
 unfold zM
 split
 ·simp
 ·have:=U9 l (l.length+1) 1 0
  omega
theorem Va {w:World} {B e sz n:Nat} {v:Value} {xs:List Value} (h:w.ownsRow B e sz v n xs) (hn:1≤n):∃g o,v=.slice (some ⟨g,0,none⟩) n o∧B≤g∧g<w.heap.size∧n≤o∧o≤maxLen∧∀j u,xs[j]?=some u→w.cell? ⟨g,j,none⟩=some u:=by
 obtain ⟨g,o,rfl,G,I,H,z⟩:=zb5 h hn;refine ⟨g,o,rfl,G,I,H,?_,z⟩;rcases h.2 with ⟨s,_⟩ | ⟨J,y,A,s,_,_,_,D,_⟩
 ·cases s
 ·cases s;exact D
abbrev rdW (w:World) (v:Value):World:=(w.alloc (.cells #[v] 100)).alloc (.cells #[.pointer (some ⟨w.heap.size,0,none⟩)] 56)
theorem zeS (ts:List Tk) (g cap B0 B2 f:Nat) (w0 w2:World) (res:PR Ex) (hE:zg ts) (hlen:ts.length≤4097) (hp:zh f 1 ts=some res) (hgl:g<w2.heap.size) (hcap:ts.length≤cap) (hmax:cap≤maxLen) (hcell:∀j u,(ZE ts)[j]?=some u→w2.cell? ⟨g,j,none⟩=some u)
  (hb:Below w0.heap.size w0 w2) (hl:Zz w0) (he:Y7 w0) (hB0:w0.heap.size≤B0) (hB2:w0.heap.size≤B2) (hB2g:B2≠g)
  (b0:w2.heap[B0]?=some (.cells #[.func (.func 44) #[] #[]] 93 (0,0))) (b2:w2.heap[B2]?=some Zu) :
  Calls Tryz.prog 48 #[.func (.func 85) #[] #[.pointer (some ⟨B0,0,none⟩),.pointer (some ⟨w2.heap.size+1,0,none⟩),.pointer (some ⟨B2,0,none⟩)]] (rdW w2 (.slice (some ⟨g,0,none⟩) ts.length cap)) fun e w' =>
   ∃I,Below (w2.heap.size+1+1) I w'∧YQ w2.heap.size B2 w2 I∧match y9 res with
    | .error a=>e=.returned (.tuple #[.int .i64 a,.int .i64 6])
    | .ok x=>e=.returned (.tuple #[.int .i64 0,.int .i64 0])∧∃(a:Int) (b:ByteArray) (c:Int) (V:Option Addr) (U Y:Nat) (l:Int),I.heap[B2]?=some (.cells #[.int .i64 a,.string b,.int .i64 c,.slice V U Y,.int .i64 l] 45 (0,0))∧ZL (w2.heap.size+1+1) w' x (.agg #[.int .i64 a,.string b,.int .i64 c,.slice V U Y,.int .i64 l]):=by
 obtain ⟨L,z,rfl⟩:=hE.cons;have hs:w0.heap.size≤w2.heap.size:=hb.size;have af:1<w0.heap.size:=World.block_lt_of_cell? w0 _ (hl 0 _ rfl);have ad:0<w0.heap.size:=World.block_lt_of_cell? w0 _ he;have T:B0<w2.heap.size:=(Array.getElem?_eq_some_iff.1 b0).1;have N:B2<w2.heap.size:=(Array.getElem?_eq_some_iff.1 b2).1;obtain ⟨w3,o⟩:∃w3,w3=rdW w2 (.slice (some ⟨g,0,none⟩) (L::z).length cap):=⟨_,rfl⟩;have D:w3.heap.size=w2.heap.size+1+1:=by rw [o];simp
 obtain ⟨W,A⟩:∃W,W=zeu w3:=⟨_,rfl⟩;have ag:W.heap.size=w2.heap.size+1+1+1+1:=by rw [A];simp [D]
 have G:∀k,k<w3.heap.size→W.heap[k]?=w3.heap[k]?:=fun k hk=>by rw [A,Below.heap_alloc _ _ _ (by simp;omega),Below.heap_alloc _ _ _ hk]
 have ab:∀k,k<w2.heap.size→w3.heap[k]?=w2.heap[k]?:=fun k hk=>by rw [o,Below.heap_alloc _ _ _ (by simp;omega),Below.heap_alloc _ _ _ hk]
 have y:∀k,k<w2.heap.size→W.heap[k]?=w2.heap[k]?:=fun k hk=>(G k (by omega)).trans (ab k hk)
 have pr:W.heap[w2.heap.size]?=some (.cells #[.slice (some ⟨g,0,none⟩) (L::z).length cap] 100 (0,0)):=by
  rw [G _ (by omega),o,Below.heap_alloc _ _ _ (by simp)];exact World.alloc_heap_new _ _
 have p1:W.heap[w2.heap.size+1]?=some (.cells #[.pointer (some ⟨w2.heap.size,0,none⟩)] 56 (0,0)):=by
  rw [G _ (by omega),o]
  have:=World.alloc_heap_new (w2.alloc (.cells #[.slice (some ⟨g,0,none⟩) (L::z).length cap] 100)) (.cells #[.pointer (some ⟨w2.heap.size,0,none⟩)] 56)
  simpa using this
 have pa:W.heap[w3.heap.size]?=some (.cells #[.int .i64 0] 3 (0,0)):=by
  rw [A,Below.heap_alloc _ _ _ (by simp)];exact World.alloc_heap_new _ _
 have pb:W.heap[w3.heap.size+1]?=some (.cells #[.int .i64 0] 26 (0,0)):=by
  rw [A]
  have:=World.alloc_heap_new (w3.alloc (.cells #[.int .i64 0] 3)) (.cells #[.int .i64 0] 26)
  simpa using this
 have Z:zf w2.heap.size g 0 cap (L::z) W :=
  { cell:=by simp only [World.cell?,pr];rfl
    soft:=by simp only [World.frozen?,pr];simp
    hcap:=hcap
    hmax:=hmax
    other:=by omega
    toks:=fun j u hj=>by rw [Nat.zero_add,World.cell?_of_block (y g hgl)];exact hcell j u hj
    few:=by omega }
 have O:Zz W:=fun j v hj=>by
  rw [World.cell?_of_block ((y 1 (by omega)).trans (hb.block _ af))];exact hl j v hj
 have ae:=zf1 w2.heap.size g 0 cap B0 (w2.heap.size+1) B2 f _ _ (L::z) W res Z hE O (by omega) hp ((y _ T).trans b0) p1 ((y _ N).trans b2) (by omega) (by omega) hB2g (by omega)
 rw [←o];refine (xL 85 #[.pointer (some ⟨B0,0,none⟩),.pointer (some ⟨w2.heap.size+1,0,none⟩),.pointer (some ⟨B2,0,none⟩)] w3 (fun w'=>U8 w2.heap.size B2 W (y9 res) (.returned (.tuple #[])) w') (fun R at0 w'=>R=6∧∃a:Nat,at0=(a:Int)∧y9 res=.error a∧YQ w2.heap.size B2 W w') (fun _=>rfl) ?_).mono ?_
 ·rw [←A]
  refine ae.mono fun e w' s=>⟨(s.1.block _ (by omega) (by omega) (by omega)).trans pa,(s.1.block _ (by omega) (by omega) (by omega)).trans pb,?_,?_⟩
  ·unfold Y7
   rw [World.cell?_of_block ((s.1.block 0 (by omega) (by omega) (by omega)).trans ((y 0 (by omega)).trans (hb.block _ ad)))];exact he
  ·have K:=s
   unfold U8 at s
   cases H:y9 res with
   | error a=>rw [H] at s;exact .inr ⟨6,a,s.2,rfl,a,rfl,rfl,s.1⟩
   | ok x=>rw [H] at s K;have:=s.2.1;subst this;exact .inl ⟨rfl,K⟩
 ·have Q:∀w',YQ w2.heap.size B2 W w'→YQ w2.heap.size B2 w2 w':=fun w' h=>⟨by rw [h.os,A,o];rfl,by rw [h.tape,A,o];rfl,by rw [h.output,A,o];rfl,by have:=h.size;omega,fun k hk hr hb'=>(h.block k (by omega) hr hb').trans (y k hk)⟩
  rintro e w' (⟨I,rfl,s,J,aa⟩ | ⟨R,at0,I,rfl,⟨rfl,a,rfl,H,hK⟩,J⟩)
  ·rw [D] at J
   refine ⟨I,J,Q _ s.1,?_⟩
   unfold U8 at s
   cases H:y9 res with
   | error a=>rw [H] at s;exact absurd s.2 (by simp [ZH])
   | ok x =>
    rw [H] at s;obtain ⟨-,-,a,b,c,V,U,Y,l,h1,h2⟩:=s;exact ⟨rfl,a,b,c,V,U,Y,l,h1,ZL.mono (ZL.kept h2 J.size fun k hk _=>aa k (by omega) (by omega)) (by omega)⟩
  ·rw [D] at J
   refine ⟨I,J,Q _ hK,?_⟩;rw [H]
theorem zgE (l:List UInt8) (w:World) (ht:yz w) (hl:Zz w) (he:Y7 w) :
  Calls Tryz.prog 43 #[.string (zb l),.func (.func 44) #[] #[],.func (.func 45) #[] #[]] w fun e w' =>
   ∃(x:Ex) (at0 err:Nat) (v:Value),e=.returned (.tuple #[v,.int .i64 at0,.int .i64 err])∧Yo l x at0 err∧ZL w.heap.size w' x v∧Below w.heap.size w w':=by
 obtain ⟨w1,H⟩:∃w1,w1=(((w.alloc (.cells #[.func (.func 44) #[] #[]] 93)).alloc Zu).alloc Zu).alloc Zu:=⟨_,rfl⟩;have aF:w1.heap.size=w.heap.size+1+1+1+1:=by rw [H];simp
 have ai:Below w.heap.size w w1:=by
  rw [H];exact ((((Below.refl w.heap.size w).alloc (Nat.le_refl _) _).alloc (by simp) _).alloc (by simp <;> omega) _).alloc (by simp <;> omega) _
 have m0:w1.heap[w.heap.size]?=some (.cells #[.func (.func 44) #[] #[]] 93 (0,0)):=by
  rw [H,Below.heap_alloc _ _ _ (by simp <;> omega),Below.heap_alloc _ _ _ (by simp <;> omega),Below.heap_alloc _ _ _ (by simp)];exact World.alloc_heap_new _ _
 have m1:w1.heap[w.heap.size+1]?=some Zu:=by
  rw [H,Below.heap_alloc _ _ _ (by simp <;> omega),Below.heap_alloc _ _ _ (by simp)]
  have:=World.alloc_heap_new (w.alloc (.cells #[.func (.func 44) #[] #[]] 93)) Zu
  simpa using this
 have m2:w1.heap[w.heap.size+1+1]?=some Zu:=by
  rw [H,Below.heap_alloc _ _ _ (by simp)]
  have:=World.alloc_heap_new ((w.alloc (.cells #[.func (.func 44) #[] #[]] 93)).alloc Zu) Zu
  simpa using this
 have m3:w1.heap[w.heap.size+1+1+1]?=some Zu:=by
  rw [H]
  have:=World.alloc_heap_new (((w.alloc (.cells #[.func (.func 44) #[] #[]] 93)).alloc Zu).alloc Zu) Zu
  simpa using this
 have cs:=Qk l w1 (ht.below ai (Nat.le_refl _));have aw:Hid (w1=(((w.alloc (.cells #[.func (.func 44) #[] #[]] 93)).alloc Zu).alloc Zu).alloc Zu):=H;have al:Hid (Below w.heap.size w w1):=ai;have HL:Hid (Zz w):=hl;have HE:Hid (Y7 w):=he;have HM:Hid (w1.heap[w.heap.size]?=some (.cells #[.func (.func 44) #[] #[]] 93 (0,0))∧w1.heap[w.heap.size+1]?=some Zu∧w1.heap[w.heap.size+1+1]?=some Zu∧w1.heap[w.heap.size+1+1+1]?=some Zu):=⟨m0,m1,m2,m3⟩;clear H ai hl he m0 m1 m2 m3 ht
 go_enter Tryz.func43,Tryz.ntmps43
 go_wp2_with fail
 rw [←aw.out];refine cs.mono ?_;clear cs aw;rintro e w2 ⟨v,rfl,ad,Z⟩;have z:∀k,k<w1.heap.size→w2.heap[k]?=w1.heap[k]?:=fun k hk=>Z.block k hk
 have p0:=(z _ (by omega)).trans HM.out.1
 have p1:=(z _ (by omega)).trans HM.out.2.1
 have p2:=(z _ (by omega)).trans HM.out.2.2.1
 have p3:=(z _ (by omega)).trans HM.out.2.2.2
 have o:Below w.heap.size w w2:=al.out.trans (Z.mono (by omega))
 have av:Hid (Below w.heap.size w w2):=o;obtain ⟨a0,a1,a2,a3,a4,af⟩:=zR p1;obtain ⟨c0,c1,c2,c3,c4,-⟩:=zR p2;have aB:=Z.size
 by_cases herr:(zM l).2.2≠0
 ·have HI:Hid (Yo l Xl (zM l).2.1 (zM l).2.2):=show Yo _ _ _ _ by unfold Yo;rw [if_pos herr];exact ⟨rfl,rfl,rfl⟩
  have V:¬((zM l).2.2:Int)=0:=by omega
  generalize (zM l).2.1=A at *;generalize (zM l).2.2=E at *;have h1:((E:Int)==0)=false:=by rw [beq_eq_false_iff_ne];exact V
  have h2:((E:Int) != 0)=true:=by simp [bne,h1]
  have h3:decide ((E:Int)=0)=false:=by rw [decide_eq_false_iff_not];exact V
  have h4:(E==0)=false:=by rw [beq_eq_false_iff_ne];exact herr
  have h5:decide (E=0)=false:=by rw [decide_eq_false_iff_not];exact herr
  have h6:(E != 0)=true:=by simp [bne,h4]
  obtain ⟨z0,z1,z2,z3,z4⟩:=zT p1 (.int .i64 0) (.string ⟨#[]⟩) (.int .i64 0) (.slice none 0 0) (.int .i64 0)
  have aq:Below w.heap.size w (set5 w2 (w.heap.size+1) (.int .i64 0) (.string ⟨#[]⟩) (.int .i64 0) (.slice none 0 0) (.int .i64 0)) :=
   ((((o.setCell (p:=⟨w.heap.size+1,0,none⟩) (by simp) _).setCell (p:=⟨w.heap.size+1,1,none⟩) (by simp) _).setCell (p:=⟨w.heap.size+1,2,none⟩) (by simp) _).setCell (p:=⟨w.heap.size+1,3,none⟩) (by simp) _).setCell (p:=⟨w.heap.size+1,4,none⟩) (by simp) _
  have L:Hid (Below w.heap.size w (set5 w2 (w.heap.size+1) (.int .i64 0) (.string ⟨#[]⟩) (.int .i64 0) (.slice none 0 0) (.int .i64 0))):=aq;clear aq o Z ad z p0 p1 p2 p3 HM av HL HE al;go_wp2
  refine bodyPost_ret (v:=.tuple #[.agg #[.int .i64 0,.string ⟨#[]⟩,.int .i64 0,.slice none 0 0,.int .i64 0],.int .i64 A,.int .i64 E]) (by simp [results,Tryz.results43,go_sem,z0,z1,z2,z3,z4]) rfl ⟨Xl,A,E,_,rfl,HI.out,.leaf 0 [] 0 0,L.out⟩
 ·have ab:(zM l).2.2=0:=by simpa using herr
  have hE:=xm l ab;obtain ⟨t0,aA,ap⟩:=hE.cons;obtain ⟨g,I,rfl,hg,ax,au,ao,aa⟩:∃g I,v=.slice (some ⟨g,0,none⟩) (zM l).1.length I∧w1.heap.size≤g∧g<w2.heap.size∧(zM l).1.length≤I∧I≤maxLen∧∀j u,(ZE (zM l).1)[j]?=some u→w2.cell? ⟨g,j,none⟩=some u:=Va ad (by rw [ap];simp)
  have ar:=Y5 l;obtain ⟨f,res,hf,-⟩:=(Xz (zM l).1.length (zM l).1 (Nat.le_refl _)).1 1;have hp:zh f 1 (zM l).1=some res:=hf 0;have ca:=zeS (zM l).1 g I w.heap.size (w.heap.size+1+1+1) f w w2 res hE ar hp ax au ao aa o HL.out HE.out (Nat.le_refl _) (by omega) (by omega) p0 p3
  have aC:∀(fn:Fn) (first I:Array Value) (w:World),(Instr.makeFunc fn first I).run Tryz.prog w=.ok (.func fn first I) w:=fun _ _ _ _=>rfl
  have ag:∀x us,res=.ok (x,us)→zN x≤4097:=fun x us h=>by
   subst h
   have:=(VX f).1 _ _ _ _ hp
   omega
  have HI:Hid (∀x at0 err,(match y9 res with | .error a=>x=Xl∧at0=a∧err=6 | .ok y=>if 24<zN y then x=Xl∧at0=0∧err=7 else x=y∧at0=0∧err=0)→Yo l x at0 err):=fun x at0 err h=>by
   unfold Yo
   rw [if_neg herr];exact ⟨f,res,hp,h⟩
  have R:Hid (∀k,k≤w.heap.size+1+1→∀Y s,Below (w2.heap.size+1+1) Y s→YQ w2.heap.size (w.heap.size+1+1+1) w2 Y→s.heap[k]?=w2.heap[k]?):=fun k hk Y s h5 h6 =>
   (h5.block k (by omega)).trans (h6.block k (by omega) (by omega) (by omega))
  have ah:Hid (∀Y s,Below (w2.heap.size+1+1) Y s→YQ w2.heap.size (w.heap.size+1+1+1) w2 Y→Below w.heap.size w s):=fun Y s h5 h6 =>
   ⟨h5.os.trans (h6.os.trans o.os),h5.tape.trans (h6.tape.trans o.tape),h5.output.trans (h6.output.trans o.output),by have:=h5.size;have:=h6.size;have:=o.size;omega,fun k hk=>(h5.block k (by omega)).trans ((h6.block k (by omega) (by omega) (by omega)).trans (o.block k hk))⟩
  have ae:Hid (w2.heap[w.heap.size+1]?=some Zu∧w2.heap[w.heap.size+1+1]?=some Zu):=⟨p1,p2⟩;rw [ab];generalize (zM l).2.1=A at *;clear o Z ad z p0 p1 p2 p3 HM av HL HE al aa hp hf hE ap a0 a1 a2 a3 a4 af c0 c1 c2 c3 c4;go_wp2_with fail
  refine ca.mono ?_;clear ca;rintro e s ⟨Y,K,T,G⟩;have q1:=(R.out (w.heap.size+1) (by omega) Y s K T).trans ae.out.1
  have q2:=(R.out (w.heap.size+1+1) (by omega) Y s K T).trans ae.out.2
  have Q:=ah.out Y s K T;obtain ⟨a0,a1,a2,a3,a4,af⟩:=zR q1;obtain ⟨c0,c1,c2,c3,c4,-⟩:=zR q2
  have O:∀W,Below w.heap.size w W→∀v0 v1 v2 v3 v4,Below w.heap.size w (set5 W (w.heap.size+1) v0 v1 v2 v3 v4):=fun W hW v0 v1 v2 v3 v4 =>
   ((((hW.setCell (p:=⟨w.heap.size+1,0,none⟩) (by simp) _).setCell (p:=⟨w.heap.size+1,1,none⟩) (by simp) _).setCell (p:=⟨w.heap.size+1,2,none⟩) (by simp) _).setCell (p:=⟨w.heap.size+1,3,none⟩) (by simp) _).setCell (p:=⟨w.heap.size+1,4,none⟩) (by simp) _
  cases hR:y9 res with
  | error a =>
   rw [hR] at G;obtain rfl:=G;have U:Hid (Yo l Xl a 6):=HI.out Xl a 6 (by rw [hR];exact ⟨rfl,rfl,rfl⟩)
   obtain ⟨z0,z1,z2,z3,z4⟩:=zT q1 (.int .i64 0) (.string ⟨#[]⟩) (.int .i64 0) (.slice none 0 0) (.int .i64 0);have L:Hid (Below w.heap.size w (set5 s (w.heap.size+1) (.int .i64 0) (.string ⟨#[]⟩) (.int .i64 0) (.slice none 0 0) (.int .i64 0))):=O s Q _ _ _ _ _;clear O Q q1 q2 K T HI R ah ae;go_wp2
   refine bodyPost_ret (v:=.tuple #[.agg #[.int .i64 0,.string ⟨#[]⟩,.int .i64 0,.slice none 0 0,.int .i64 0],.int .i64 a,.int .i64 6]) (by simp [results,Tryz.results43,go_sem,z0,z1,z2,z3,z4]) rfl ⟨Xl,a,6,_,rfl,U.out,.leaf 0 [] 0 0,L.out⟩
  | ok x =>
   rw [hR] at G;obtain ⟨rfl,xa,xb,xc,x0,x1,x2,xl,an,hx⟩:=G
   have aE:zN x≤4097:=by
    rcases res with a | ⟨y,us⟩
    ·cases hR
    ·unfold y9 at hR
     simp only at hR
     split at hR
     ·cases hR;exact ag _ us rfl
     ·cases hR
   have aD:=K.size;have az:=T.size;have qx:=(K.block (w.heap.size+1+1+1) (by omega)).trans an
   obtain ⟨e0,e1,e2,e3,e4,-⟩:=zR qx;have cd:=X7 (fun k=>w2.heap.size+1+1≤k) (zN x) s x _ s (Nat.le_refl _) (by omega) (Below.refl _ _) hx
   have HX:Hid (ZL (w2.heap.size+1+1) s x (.agg #[.int .i64 xa,.string xb,.int .i64 xc,.slice x0 x1 x2,.int .i64 xl])):=hx;have HQ:Hid (s.heap[w.heap.size+1]?=some Zu∧s.heap[w.heap.size+1+1]?=some Zu∧s.heap[w.heap.size+1+1+1]?=some (.cells #[.int .i64 xa,.string xb,.int .i64 xc,.slice x0 x1 x2,.int .i64 xl] 45 (0,0))):=⟨q1,q2,qx⟩;have am:Hid (Below w.heap.size w s):=Q;have HS:Hid (∀W,Below w.heap.size w W→∀v0 v1 v2 v3 v4,Below w.heap.size w (set5 W (w.heap.size+1) v0 v1 v2 v3 v4)):=O;have U:Hid (∀y at0 err,(if 24<zN x then y=Xl∧at0=0∧err=7 else y=x∧at0=0∧err=0)→Yo l y at0 err):=fun y at0 err h=>HI.out y at0 err (by rw [hR];exact h)
   generalize hD:zN x=D at *;clear O Q q1 q2 qx K T HI R ah ae hx an ag;go_wp2_with fail
   refine cd.mono ?_;clear cd a0 a1 a2 a3 a4 af c0 c1 c2 c3 c4 e0 e1 e2 e3 e4;rintro e w7 ⟨rfl,J⟩;have r1:=(J.block _ (by omega)).trans HQ.out.1
   have r2:=(J.block _ (by omega)).trans HQ.out.2.1
   have r3:=(J.block _ (by omega)).trans HQ.out.2.2
   have N:Below w.heap.size w w7:=am.out.trans (J.mono (by omega))
   have aj:ZL (w2.heap.size+1+1) w7 x (.agg #[.int .i64 xa,.string xb,.int .i64 xc,.slice x0 x1 x2,.int .i64 xl]):=ZL.kept HX.out J.size fun k _ hlt=>J.block k hlt
   obtain ⟨a0,a1,a2,a3,a4,af⟩:=zR r1
   by_cases hdeep:24<D
   ·obtain ⟨c0,c1,c2,c3,c4,-⟩:=zR r2
    obtain ⟨z0,z1,z2,z3,z4⟩:=zT r1 (.int .i64 0) (.string ⟨#[]⟩) (.int .i64 0) (.slice none 0 0) (.int .i64 0);have ak:Hid (Yo l Xl 0 7):=U.out Xl 0 7 (by rw [if_pos hdeep];exact ⟨rfl,rfl,rfl⟩)
    have L:Hid (Below w.heap.size w (set5 w7 (w.heap.size+1) (.int .i64 0) (.string ⟨#[]⟩) (.int .i64 0) (.slice none 0 0) (.int .i64 0))):=HS.out w7 N _ _ _ _ _;have h1:(24:Int)<(D:Int):=by omega
    clear N aj r1 r2 r3 J HQ HX am HS U;go_wp2
    refine bodyPost_ret (v:=.tuple #[.agg #[.int .i64 0,.string ⟨#[]⟩,.int .i64 0,.slice none 0 0,.int .i64 0],.int .i64 0,.int .i64 7]) (by simp [results,Tryz.results43,go_sem,z0,z1,z2,z3,z4]) rfl ⟨Xl,0,7,_,rfl,ak.out,.leaf 0 [] 0 0,L.out⟩
   ·obtain ⟨c0,c1,c2,c3,c4,-⟩:=zR r3
    obtain ⟨z0,z1,z2,z3,z4⟩:=zT r1 (.int .i64 xa) (.string xb) (.int .i64 xc) (.slice x0 x1 x2) (.int .i64 xl);have ak:Hid (Yo l x 0 0):=U.out x 0 0 (by rw [if_neg hdeep];exact ⟨rfl,rfl,rfl⟩)
    have L:Hid (Below w.heap.size w (set5 w7 (w.heap.size+1) (.int .i64 xa) (.string xb) (.int .i64 xc) (.slice x0 x1 x2) (.int .i64 xl))):=HS.out w7 N _ _ _ _ _;have ay:Hid (ZL w.heap.size (set5 w7 (w.heap.size+1) (.int .i64 xa) (.string xb) (.int .i64 xc) (.slice x0 x1 x2) (.int .i64 xl)) x (.agg #[.int .i64 xa,.string xb,.int .i64 xc,.slice x0 x1 x2,.int .i64 xl])):=ZL.mono (ZL.kept aj (w':=set5 w7 (w.heap.size+1) (.int .i64 xa) (.string xb) (.int .i64 xc) (.slice x0 x1 x2) (.int .i64 xl)) (by simp) fun k hk _=>zr _ _ _ _ _ _ _ (by omega)) (by omega)
    have h1:¬(24:Int)<(D:Int):=by omega
    clear N aj r1 r2 r3 J HQ HX am HS U;go_wp2
    refine bodyPost_ret (v:=.tuple #[.agg #[.int .i64 xa,.string xb,.int .i64 xc,.slice x0 x1 x2,.int .i64 xl],.int .i64 0,.int .i64 0]) (by simp [results,Tryz.results43,go_sem,z0,z1,z2,z3,z4]) rfl ⟨x,0,0,_,rfl,ak.out,ay.out,L.out⟩
def Z4 (l:List UInt8) (x:Pg) (at0 err:Nat):Prop :=
 if (zM l).2.2≠0 then x=Y0∧at0=(zM l).2.1∧err=(zM l).2.2 else
 ∃f res,Zy f [] [] (zM l).1=some res∧match ZV res with
  | .error a=>x=Y0∧at0=a∧err=6
  | .ok y=>if 24<depthFs y.funs then x=Y0∧at0=0∧err=7 else x=y∧at0=0∧err=0
theorem zdI (ts:List Tk) (g cap B0 B2 f:Nat) (w0 w2:World) (res:PR Pg) (hE:zg ts) (hlen:ts.length≤4097) (hp:Zy f [] [] ts=some res) (hgl:g<w2.heap.size) (hcap:ts.length≤cap) (hmax:cap≤maxLen) (hcell:∀j u,(ZE ts)[j]?=some u→w2.cell? ⟨g,j,none⟩=some u)
  (hb:Below w0.heap.size w0 w2) (hl:Zz w0) (he:Y7 w0) (hB0:w0.heap.size≤B0) (hB2:w0.heap.size≤B2) (hB2g:B2≠g)
  (b0:w2.heap[B0]?=some (.cells #[.func (.func 22) #[] #[]] 54 (0,0))) (b2:w2.heap[B2]?=some x7) :
  Calls Tryz.prog 48 #[.func (.func 49) #[] #[.pointer (some ⟨B0,0,none⟩),.pointer (some ⟨w2.heap.size+1,0,none⟩),.pointer (some ⟨B2,0,none⟩)]] (rdW w2 (.slice (some ⟨g,0,none⟩) ts.length cap)) fun e w' =>
   ∃I,Below (w2.heap.size+1+1) I w'∧YQ w2.heap.size B2 w2 I∧match ZV res with
    | .error a=>e=.returned (.tuple #[.int .i64 a,.int .i64 6])
    | .ok x=>e=.returned (.tuple #[.int .i64 0,.int .i64 0])∧∃(V:Option Addr) (s1 U:Nat) (Z:Option Addr) (Y d2:Nat),I.heap[B2]?=some (.cells #[.slice V s1 U,.slice Z Y d2] 25 (0,0))∧yT (w2.heap.size+1+1) w' x (.agg #[.slice V s1 U,.slice Z Y d2]):=by
 obtain ⟨L,z,rfl⟩:=hE.cons;have hs:w0.heap.size≤w2.heap.size:=hb.size;have ag:1<w0.heap.size:=World.block_lt_of_cell? w0 _ (hl 0 _ rfl);have ae:0<w0.heap.size:=World.block_lt_of_cell? w0 _ he;have T:B0<w2.heap.size:=(Array.getElem?_eq_some_iff.1 b0).1;have N:B2<w2.heap.size:=(Array.getElem?_eq_some_iff.1 b2).1;obtain ⟨w3,o⟩:∃w3,w3=rdW w2 (.slice (some ⟨g,0,none⟩) (L::z).length cap):=⟨_,rfl⟩;have D:w3.heap.size=w2.heap.size+1+1:=by rw [o];simp
 obtain ⟨W,A⟩:∃W,W=zeu w3:=⟨_,rfl⟩;have ah:W.heap.size=w2.heap.size+1+1+1+1:=by rw [A];simp [D]
 have G:∀k,k<w3.heap.size→W.heap[k]?=w3.heap[k]?:=fun k hk=>by rw [A,Below.heap_alloc _ _ _ (by simp;omega),Below.heap_alloc _ _ _ hk]
 have ad:∀k,k<w2.heap.size→w3.heap[k]?=w2.heap[k]?:=fun k hk=>by rw [o,Below.heap_alloc _ _ _ (by simp;omega),Below.heap_alloc _ _ _ hk]
 have y:∀k,k<w2.heap.size→W.heap[k]?=w2.heap[k]?:=fun k hk=>(G k (by omega)).trans (ad k hk)
 have pr:W.heap[w2.heap.size]?=some (.cells #[.slice (some ⟨g,0,none⟩) (L::z).length cap] 100 (0,0)):=by
  rw [G _ (by omega),o,Below.heap_alloc _ _ _ (by simp)];exact World.alloc_heap_new _ _
 have p1:W.heap[w2.heap.size+1]?=some (.cells #[.pointer (some ⟨w2.heap.size,0,none⟩)] 56 (0,0)):=by
  rw [G _ (by omega),o]
  have:=World.alloc_heap_new (w2.alloc (.cells #[.slice (some ⟨g,0,none⟩) (L::z).length cap] 100)) (.cells #[.pointer (some ⟨w2.heap.size,0,none⟩)] 56)
  simpa using this
 have pa:W.heap[w3.heap.size]?=some (.cells #[.int .i64 0] 3 (0,0)):=by
  rw [A,Below.heap_alloc _ _ _ (by simp)];exact World.alloc_heap_new _ _
 have pb:W.heap[w3.heap.size+1]?=some (.cells #[.int .i64 0] 26 (0,0)):=by
  rw [A]
  have:=World.alloc_heap_new (w3.alloc (.cells #[.int .i64 0] 3)) (.cells #[.int .i64 0] 26)
  simpa using this
 have aa:zf w2.heap.size g 0 cap (L::z) W :=
  { cell:=by simp only [World.cell?,pr];rfl
    soft:=by simp only [World.frozen?,pr];simp
    hcap:=hcap
    hmax:=hmax
    other:=by omega
    toks:=fun j u hj=>by rw [Nat.zero_add,World.cell?_of_block (y g hgl)];exact hcell j u hj
    few:=by omega }
 have O:Zz W:=fun j v hj=>by
  rw [World.cell?_of_block ((y 1 (by omega)).trans (hb.block _ ag))];exact hl j v hj
 have af:=zeR w2.heap.size g 0 cap B0 (w2.heap.size+1) B2 f _ _ (L::z) W res aa hE O (by omega) hp ((y _ T).trans b0) p1 ((y _ N).trans b2) (by omega) (by omega) hB2g (by omega)
 rw [←o];refine (xL 49 #[.pointer (some ⟨B0,0,none⟩),.pointer (some ⟨w2.heap.size+1,0,none⟩),.pointer (some ⟨B2,0,none⟩)] w3 (fun w'=>VF w2.heap.size B2 W (ZV res) (.returned (.tuple #[])) w') (fun R at0 w'=>R=6∧∃a:Nat,at0=(a:Int)∧ZV res=.error a∧YQ w2.heap.size B2 W w') (fun _=>rfl) ?_).mono ?_
 ·rw [←A]
  refine af.mono fun e w' s=>⟨(s.1.block _ (by omega) (by omega) (by omega)).trans pa,(s.1.block _ (by omega) (by omega) (by omega)).trans pb,?_,?_⟩
  ·unfold Y7
   rw [World.cell?_of_block ((s.1.block 0 (by omega) (by omega) (by omega)).trans ((y 0 (by omega)).trans (hb.block _ ae)))];exact he
  ·have K:=s
   unfold VF at s
   cases H:ZV res with
   | error a=>rw [H] at s;exact .inr ⟨6,a,s.2,rfl,a,rfl,rfl,s.1⟩
   | ok x=>rw [H] at s K;have:=s.2.1;subst this;exact .inl ⟨rfl,K⟩
 ·have Q:∀w',YQ w2.heap.size B2 W w'→YQ w2.heap.size B2 w2 w':=fun w' h=>⟨by rw [h.os,A,o];rfl,by rw [h.tape,A,o];rfl,by rw [h.output,A,o];rfl,by have:=h.size;omega,fun k hk hr hb'=>(h.block k (by omega) hr hb').trans (y k hk)⟩
  rintro e w' (⟨I,rfl,s,J,ab⟩ | ⟨R,at0,I,rfl,⟨rfl,a,rfl,H,hK⟩,J⟩)
  ·rw [D] at J
   refine ⟨I,J,Q _ s.1,?_⟩
   unfold VF at s
   cases H:ZV res with
   | error a=>rw [H] at s;exact absurd s.2 (by simp [ZH])
   | ok x =>
    rw [H] at s;obtain ⟨-,-,V,s1,U,Z,Y,d2,h1,h2⟩:=s;exact ⟨rfl,V,s1,U,Z,Y,d2,h1,yT.mono (yT.kept h2 J.size fun k hk _=>ab k (by omega) (by omega)) (by omega)⟩
  ·rw [D] at J
   refine ⟨I,J,Q _ hK,?_⟩;rw [H]
theorem zgF (l:List UInt8) (w:World) (ht:yz w) (hl:Zz w) (he:Y7 w) :
  Calls Tryz.prog 21 #[.string (zb l),.func (.func 22) #[] #[],.func (.func 23) #[] #[]] w fun e w' =>
   ∃(x:Pg) (at0 err:Nat) (v:Value),e=.returned (.tuple #[v,.int .i64 at0,.int .i64 err])∧Z4 l x at0 err∧yT w.heap.size w' x v∧Below w.heap.size w w':=by
 obtain ⟨w1,H⟩:∃w1,w1=(((w.alloc (.cells #[.func (.func 22) #[] #[]] 54)).alloc x7).alloc x7).alloc x7:=⟨_,rfl⟩;have aF:w1.heap.size=w.heap.size+1+1+1+1:=by rw [H];simp
 have ai:Below w.heap.size w w1:=by
  rw [H];exact ((((Below.refl w.heap.size w).alloc (Nat.le_refl _) _).alloc (by simp) _).alloc (by simp <;> omega) _).alloc (by simp <;> omega) _
 have m0:w1.heap[w.heap.size]?=some (.cells #[.func (.func 22) #[] #[]] 54 (0,0)):=by
  rw [H,Below.heap_alloc _ _ _ (by simp <;> omega),Below.heap_alloc _ _ _ (by simp <;> omega),Below.heap_alloc _ _ _ (by simp)];exact World.alloc_heap_new _ _
 have m1:w1.heap[w.heap.size+1]?=some x7:=by
  rw [H,Below.heap_alloc _ _ _ (by simp <;> omega),Below.heap_alloc _ _ _ (by simp)]
  have:=World.alloc_heap_new (w.alloc (.cells #[.func (.func 22) #[] #[]] 54)) x7
  simpa using this
 have m2:w1.heap[w.heap.size+1+1]?=some x7:=by
  rw [H,Below.heap_alloc _ _ _ (by simp)]
  have:=World.alloc_heap_new ((w.alloc (.cells #[.func (.func 22) #[] #[]] 54)).alloc x7) x7
  simpa using this
 have m3:w1.heap[w.heap.size+1+1+1]?=some x7:=by
  rw [H]
  have:=World.alloc_heap_new (((w.alloc (.cells #[.func (.func 22) #[] #[]] 54)).alloc x7).alloc x7) x7
  simpa using this
 have cs:=Qk l w1 (ht.below ai (Nat.le_refl _));have aw:Hid (w1=(((w.alloc (.cells #[.func (.func 22) #[] #[]] 54)).alloc x7).alloc x7).alloc x7):=H;have al:Hid (Below w.heap.size w w1):=ai;have HL:Hid (Zz w):=hl;have HE:Hid (Y7 w):=he;have HM:Hid (w1.heap[w.heap.size]?=some (.cells #[.func (.func 22) #[] #[]] 54 (0,0))∧w1.heap[w.heap.size+1]?=some x7∧w1.heap[w.heap.size+1+1]?=some x7∧w1.heap[w.heap.size+1+1+1]?=some x7):=⟨m0,m1,m2,m3⟩;clear H ai hl he m0 m1 m2 m3 ht
 go_enter Tryz.func21,Tryz.ntmps21
 go_wp2_with fail
 rw [←aw.out];refine cs.mono ?_;clear cs aw;rintro e w2 ⟨v,rfl,ad,Z⟩;have s:∀k,k<w1.heap.size→w2.heap[k]?=w1.heap[k]?:=fun k hk=>Z.block k hk
 have p0:=(s _ (by omega)).trans HM.out.1
 have p1:=(s _ (by omega)).trans HM.out.2.1
 have p2:=(s _ (by omega)).trans HM.out.2.2.1
 have p3:=(s _ (by omega)).trans HM.out.2.2.2
 have o:Below w.heap.size w w2:=al.out.trans (Z.mono (by omega))
 have av:Hid (Below w.heap.size w w2):=o;obtain ⟨a0,a1,af⟩:=Zv p1;obtain ⟨c0,c1,-⟩:=Zv p2;have aB:=Z.size
 by_cases herr:(zM l).2.2≠0
 ·have HI:Hid (Z4 l Y0 (zM l).2.1 (zM l).2.2):=show Z4 _ _ _ _ by unfold Z4;rw [if_pos herr];exact ⟨rfl,rfl,rfl⟩
  have V:¬((zM l).2.2:Int)=0:=by omega
  generalize (zM l).2.1=A at *;generalize (zM l).2.2=E at *;have h1:((E:Int)==0)=false:=by rw [beq_eq_false_iff_ne];exact V
  have h2:((E:Int) != 0)=true:=by simp [bne,h1]
  have h3:decide ((E:Int)=0)=false:=by rw [decide_eq_false_iff_not];exact V
  have h4:(E==0)=false:=by rw [beq_eq_false_iff_ne];exact herr
  have h5:decide (E=0)=false:=by rw [decide_eq_false_iff_not];exact herr
  have h6:(E != 0)=true:=by simp [bne,h4]
  obtain ⟨z0,z1⟩:=xo p1 (.slice none 0 0) (.slice none 0 0)
  have aq:Below w.heap.size w (XI w2 (w.heap.size+1) (.slice none 0 0) (.slice none 0 0)) :=
   (o.setCell (p:=⟨w.heap.size+1,0,none⟩) (by simp) _).setCell (p:=⟨w.heap.size+1,1,none⟩) (by simp) _
  have L:Hid (Below w.heap.size w (XI w2 (w.heap.size+1) (.slice none 0 0) (.slice none 0 0))):=aq;clear aq o Z ad s p0 p1 p2 p3 HM av HL HE al;go_wp2
  refine bodyPost_ret (v:=.tuple #[.agg #[.slice none 0 0,.slice none 0 0],.int .i64 A,.int .i64 E]) (by simp [results,Tryz.results21,go_sem,z0,z1]) rfl ⟨Y0,A,E,_,rfl,HI.out,zdH _ _,L.out⟩
 ·have ab:(zM l).2.2=0:=by simpa using herr
  have hE:=xm l ab;obtain ⟨t0,aA,ap⟩:=hE.cons;obtain ⟨g,I,rfl,hg,ax,au,ao,aa⟩:∃g I,v=.slice (some ⟨g,0,none⟩) (zM l).1.length I∧w1.heap.size≤g∧g<w2.heap.size∧(zM l).1.length≤I∧I≤maxLen∧∀j u,(ZE (zM l).1)[j]?=some u→w2.cell? ⟨g,j,none⟩=some u:=Va ad (by rw [ap];simp)
  have ar:=Y5 l;obtain ⟨f,res,hf,-⟩:=zaY (zM l).1.length (zM l).1 (Nat.le_refl _) hE [] [];have hp:Zy f [] [] (zM l).1=some res:=hf 0;have ca:=zdI (zM l).1 g I w.heap.size (w.heap.size+1+1+1) f w w2 res hE ar hp ax au ao aa o HL.out HE.out (Nat.le_refl _) (by omega) (by omega) p0 p3
  have aC:∀(fn:Fn) (first I:Array Value) (w:World),(Instr.makeFunc fn first I).run Tryz.prog w=.ok (.func fn first I) w:=fun _ _ _ _=>rfl
  have ag:∀x us,res=.ok (x,us)→depthFs x.funs≤4097:=fun x us h=>by
   subst h
   have:=vK (zM l).1.length f [] [] _ us x hp hE (by simp [depthFs])
   omega
  have HI:Hid (∀x at0 err,(match ZV res with | .error a=>x=Y0∧at0=a∧err=6 | .ok y=>if 24<depthFs y.funs then x=Y0∧at0=0∧err=7 else x=y∧at0=0∧err=0)→Z4 l x at0 err):=fun x at0 err h=>by
   unfold Z4
   rw [if_neg herr];exact ⟨f,res,hp,h⟩
  have R:Hid (∀k,k≤w.heap.size+1+1→∀Y z,Below (w2.heap.size+1+1) Y z→YQ w2.heap.size (w.heap.size+1+1+1) w2 Y→z.heap[k]?=w2.heap[k]?):=fun k hk Y z h5 h6 =>
   (h5.block k (by omega)).trans (h6.block k (by omega) (by omega) (by omega))
  have ah:Hid (∀Y z,Below (w2.heap.size+1+1) Y z→YQ w2.heap.size (w.heap.size+1+1+1) w2 Y→Below w.heap.size w z):=fun Y z h5 h6 =>
   ⟨h5.os.trans (h6.os.trans o.os),h5.tape.trans (h6.tape.trans o.tape),h5.output.trans (h6.output.trans o.output),by have:=h5.size;have:=h6.size;have:=o.size;omega,fun k hk=>(h5.block k (by omega)).trans ((h6.block k (by omega) (by omega) (by omega)).trans (o.block k hk))⟩
  have ae:Hid (w2.heap[w.heap.size+1]?=some x7∧w2.heap[w.heap.size+1+1]?=some x7):=⟨p1,p2⟩;rw [ab];generalize (zM l).2.1=A at *;clear o Z ad s p0 p1 p2 p3 HM av HL HE al aa hp hf hE ap a0 a1 af c0 c1;go_wp2_with fail
  refine ca.mono ?_;clear ca;rintro e z ⟨Y,K,T,G⟩;have q1:=(R.out (w.heap.size+1) (by omega) Y z K T).trans ae.out.1
  have q2:=(R.out (w.heap.size+1+1) (by omega) Y z K T).trans ae.out.2
  have Q:=ah.out Y z K T;obtain ⟨a0,a1,af⟩:=Zv q1;obtain ⟨c0,c1,-⟩:=Zv q2
  have O:∀W,Below w.heap.size w W→∀v0 v1,Below w.heap.size w (XI W (w.heap.size+1) v0 v1):=fun W hW v0 v1 =>
   (hW.setCell (p:=⟨w.heap.size+1,0,none⟩) (by simp) _).setCell (p:=⟨w.heap.size+1,1,none⟩) (by simp) _
  cases hR:ZV res with
  | error a =>
   rw [hR] at G;obtain rfl:=G;have U:Hid (Z4 l Y0 a 6):=HI.out Y0 a 6 (by rw [hR];exact ⟨rfl,rfl,rfl⟩)
   obtain ⟨z0,z1⟩:=xo q1 (.slice none 0 0) (.slice none 0 0);have L:Hid (Below w.heap.size w (XI z (w.heap.size+1) (.slice none 0 0) (.slice none 0 0))):=O z Q _ _;clear O Q q1 q2 K T HI R ah ae;go_wp2
   refine bodyPost_ret (v:=.tuple #[.agg #[.slice none 0 0,.slice none 0 0],.int .i64 a,.int .i64 6]) (by simp [results,Tryz.results21,go_sem,z0,z1]) rfl ⟨Y0,a,6,_,rfl,U.out,zdH _ _,L.out⟩
  | ok x =>
   rw [hR] at G;obtain ⟨rfl,y0,y1,y2,x0,x1,x2,an,hx⟩:=G
   have aE:depthFs x.funs≤4097:=by
    rcases res with a | ⟨y,us⟩
    ·cases hR
    ·unfold ZV at hR
     simp only at hR
     split at hR
     ·cases hR;exact ag _ us rfl
     ·cases hR
   have aD:=K.size;have az:=T.size;have qx:=(K.block (w.heap.size+1+1+1) (by omega)).trans an
   obtain ⟨e0,e1,-⟩:=Zv qx;have cd:=VC (fun k=>w2.heap.size+1+1≤k) z x _ hx (by omega)
   have HX:Hid (yT (w2.heap.size+1+1) z x (.agg #[.slice y0 y1 y2,.slice x0 x1 x2])):=hx;have HQ:Hid (z.heap[w.heap.size+1]?=some x7∧z.heap[w.heap.size+1+1]?=some x7∧z.heap[w.heap.size+1+1+1]?=some (.cells #[.slice y0 y1 y2,.slice x0 x1 x2] 25 (0,0))):=⟨q1,q2,qx⟩;have am:Hid (Below w.heap.size w z):=Q;have HS:Hid (∀W,Below w.heap.size w W→∀v0 v1,Below w.heap.size w (XI W (w.heap.size+1) v0 v1)):=O;have U:Hid (∀y at0 err,(if 24<depthFs x.funs then y=Y0∧at0=0∧err=7 else y=x∧at0=0∧err=0)→Z4 l y at0 err):=fun y at0 err h=>HI.out y at0 err (by rw [hR];exact h)
   generalize hD:depthFs x.funs=D at *;clear O Q q1 q2 qx K T HI R ah ae hx an ag;go_wp2_with fail
   refine cd.mono ?_;clear cd a0 a1 af c0 c1 e0 e1;rintro e w7 ⟨rfl,J⟩;have r1:=(J.block _ (by omega)).trans HQ.out.1
   have r2:=(J.block _ (by omega)).trans HQ.out.2.1
   have r3:=(J.block _ (by omega)).trans HQ.out.2.2
   have N:Below w.heap.size w w7:=am.out.trans (J.mono (by omega))
   have aj:yT (w2.heap.size+1+1) w7 x (.agg #[.slice y0 y1 y2,.slice x0 x1 x2]):=yT.kept HX.out J.size fun k _ hlt=>J.block k hlt
   obtain ⟨a0,a1,af⟩:=Zv r1
   by_cases hdeep:24<D
   ·obtain ⟨c0,c1,-⟩:=Zv r2
    obtain ⟨z0,z1⟩:=xo r1 (.slice none 0 0) (.slice none 0 0);have ak:Hid (Z4 l Y0 0 7):=U.out Y0 0 7 (by rw [if_pos hdeep];exact ⟨rfl,rfl,rfl⟩)
    have L:Hid (Below w.heap.size w (XI w7 (w.heap.size+1) (.slice none 0 0) (.slice none 0 0))):=HS.out w7 N _ _;have h1:(24:Int)<(D:Int):=by omega
    clear N aj r1 r2 r3 J HQ HX am HS U;go_wp2
    refine bodyPost_ret (v:=.tuple #[.agg #[.slice none 0 0,.slice none 0 0],.int .i64 0,.int .i64 7]) (by simp [results,Tryz.results21,go_sem,z0,z1]) rfl ⟨Y0,0,7,_,rfl,ak.out,zdH _ _,L.out⟩
   ·obtain ⟨c0,c1,-⟩:=Zv r3
    obtain ⟨z0,z1⟩:=xo r1 (.slice y0 y1 y2) (.slice x0 x1 x2);have ak:Hid (Z4 l x 0 0):=U.out x 0 0 (by rw [if_neg hdeep];exact ⟨rfl,rfl,rfl⟩)
    have L:Hid (Below w.heap.size w (XI w7 (w.heap.size+1) (.slice y0 y1 y2) (.slice x0 x1 x2))):=HS.out w7 N _ _;have ay:Hid (yT w.heap.size (XI w7 (w.heap.size+1) (.slice y0 y1 y2) (.slice x0 x1 x2)) x (.agg #[.slice y0 y1 y2,.slice x0 x1 x2])):=yT.mono (yT.kept aj (w':=XI w7 (w.heap.size+1) (.slice y0 y1 y2) (.slice x0 x1 x2)) (by simp) fun k hk _=>VE _ _ _ _ (by omega)) (by omega)
    have h1:¬(24:Int)<(D:Int):=by omega
    clear N aj r1 r2 r3 J HQ HX am HS U;go_wp2
    refine bodyPost_ret (v:=.tuple #[.agg #[.slice y0 y1 y2,.slice x0 x1 x2],.int .i64 0,.int .i64 0]) (by simp [results,Tryz.results21,go_sem,z0,z1]) rfl ⟨x,0,0,_,rfl,ak.out,ay.out,L.out⟩
end Go.Proofs.YtpejpbbdgblbeaaGreatDoor
