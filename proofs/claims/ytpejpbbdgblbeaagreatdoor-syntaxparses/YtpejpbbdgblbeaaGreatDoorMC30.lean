import Derived.Test.YtpejpbbdgblbeaaGreatDoorMC20
import Derived.Test.YtpejpbbdgblbeaaGreatDoorMC29
import Derived.Test.YtpejpbbdgblbeaaGreatDoorMC6
import Derived.Test.YtpejpbbdgblbeaaGreatDoorMC13
namespace Go.Proofs.YtpejpbbdgblbeaaGreatDoor
open Go.RowKit Go.Shelf
set_option maxHeartbeats 16000000
set_option maxRecDepth 100000
abbrev vI:Ex:=.mk 0 [] 0 [] 0
def xw (l:List UInt8) (x:Ex) (at0 err:Nat):Prop :=
 if (zC l).2.2≠0 then x=vI∧at0=(zC l).2.1∧err=(zC l).2.2 else
 ∃f res,zk f 1 (zC l).1=some res∧match Y6 res with
  | .error a=>x=vI∧at0=a∧err=6
  | .ok y=>if 24<z6 y then x=vI∧at0=0∧err=7 else x=y∧at0=0∧err=0
theorem Q7 (l:List UInt8):∀(f line a:Nat),(scanS l f line a).1.length≤f
 | 0,_,_=>by simp [scanS]
 | f+1,line,a=>by
  have ih:=Q7 l f (yr l line a) (zM l a+(zV l a).sz);rw [scanS]
  split
  ·simp
  ·split
   ·simp
   ·split
    ·simp
    ·simp only [List.length_cons];omega
theorem Uf (l:List UInt8):(zC l).1.length≤4097:=by
 unfold zC
 split
 ·simp
 ·have:=Q7 l (l.length+1) 1 0
  omega
theorem XK {w:World} {B e sz n:Nat} {v:Value} {xs:List Value} (h:w.ownsRow B e sz v n xs) (hn:1≤n):∃g cap,v=.slice (some ⟨g,0,none⟩) n cap∧B≤g∧g<w.heap.size∧n≤cap∧cap≤maxLen∧∀j u,xs[j]?=some u→w.cell? ⟨g,j,none⟩=some u:=by
 obtain ⟨g,cap,rfl,h1,h2,h3,h4⟩:=zd6 h hn;refine ⟨g,cap,rfl,h1,h2,h3,?_,h4⟩;rcases h.2 with ⟨hv,_⟩ | ⟨g',cap',cur,hv,_,_,_,hm,_⟩
 ·cases hv
 ·cases hv;exact hm
abbrev rdW (w:World) (v:Value):World:=(w.alloc (.cells #[v] 100)).alloc (.cells #[.pointer (some ⟨w.heap.size,0,none⟩)] 56)
theorem zg1 (ts:List Tk) (g cap B0 B2 f:Nat) (w0 w2:World) (res:PR Ex) (hE:zj ts) (hlen:ts.length≤4097) (hp:zk f 1 ts=some res) (hgl:g<w2.heap.size) (hcap:ts.length≤cap) (hmax:cap≤maxLen) (hcell:∀j u,(z8 ts)[j]?=some u→w2.cell? ⟨g,j,none⟩=some u)
  (hb:Below w0.heap.size w0 w2) (hl:ZS w0) (he:Xh w0) (hB0:w0.heap.size≤B0) (hB2:w0.heap.size≤B2) (hB2g:B2≠g)
  (b0:w2.heap[B0]?=some (.cells #[.func (.func 44) #[] #[]] 93 (0,0))) (b2:w2.heap[B2]?=some ZA) :
  Calls Tryz.prog 48 #[.func (.func 85) #[] #[.pointer (some ⟨B0,0,none⟩),.pointer (some ⟨w2.heap.size+1,0,none⟩),.pointer (some ⟨B2,0,none⟩)]] (rdW w2 (.slice (some ⟨g,0,none⟩) ts.length cap)) fun e w' =>
   ∃w5,Below (w2.heap.size+1+1) w5 w'∧xW w2.heap.size B2 w2 w5∧match Y6 res with
    | .error a=>e=.returned (.tuple #[.int .i64 a,.int .i64 6])
    | .ok x=>e=.returned (.tuple #[.int .i64 0,.int .i64 0])∧∃(a:Int) (b:ByteArray) (c:Int) (d0:Option Addr) (d1 d2:Nat) (l:Int),w5.heap[B2]?=some (.cells #[.int .i64 a,.string b,.int .i64 c,.slice d0 d1 d2,.int .i64 l] 45 (0,0))∧ZO (w2.heap.size+1+1) w' x (.agg #[.int .i64 a,.string b,.int .i64 c,.slice d0 d1 d2,.int .i64 l]):=by
 obtain ⟨t0,ts0,rfl⟩:=hE.cons;have hs:w0.heap.size≤w2.heap.size:=hb.size;have hlb:1<w0.heap.size:=World.block_lt_of_cell? w0 _ (hl 0 _ rfl);have heb:0<w0.heap.size:=World.block_lt_of_cell? w0 _ he;have hB0l:B0<w2.heap.size:=(Array.getElem?_eq_some_iff.1 b0).1;have hB2l:B2<w2.heap.size:=(Array.getElem?_eq_some_iff.1 b2).1;obtain ⟨w3,hw3⟩:∃w3,w3=rdW w2 (.slice (some ⟨g,0,none⟩) (t0::ts0).length cap):=⟨_,rfl⟩;have hs3:w3.heap.size=w2.heap.size+1+1:=by rw [hw3];simp
 obtain ⟨W,hW⟩:∃W,W=zgA w3:=⟨_,rfl⟩;have hsW:W.heap.size=w2.heap.size+1+1+1+1:=by rw [hW];simp [hs3]
 have h3W:∀k,k<w3.heap.size→W.heap[k]?=w3.heap[k]?:=fun k hk=>by rw [hW,Below.heap_alloc _ _ _ (by simp;omega),Below.heap_alloc _ _ _ hk]
 have h23:∀k,k<w2.heap.size→w3.heap[k]?=w2.heap[k]?:=fun k hk=>by rw [hw3,Below.heap_alloc _ _ _ (by simp;omega),Below.heap_alloc _ _ _ hk]
 have h2W:∀k,k<w2.heap.size→W.heap[k]?=w2.heap[k]?:=fun k hk=>(h3W k (by omega)).trans (h23 k hk)
 have pr:W.heap[w2.heap.size]?=some (.cells #[.slice (some ⟨g,0,none⟩) (t0::ts0).length cap] 100 (0,0)):=by
  rw [h3W _ (by omega),hw3,Below.heap_alloc _ _ _ (by simp)];exact World.alloc_heap_new _ _
 have p1:W.heap[w2.heap.size+1]?=some (.cells #[.pointer (some ⟨w2.heap.size,0,none⟩)] 56 (0,0)):=by
  rw [h3W _ (by omega),hw3]
  have:=World.alloc_heap_new (w2.alloc (.cells #[.slice (some ⟨g,0,none⟩) (t0::ts0).length cap] 100)) (.cells #[.pointer (some ⟨w2.heap.size,0,none⟩)] 56)
  simpa using this
 have pa:W.heap[w3.heap.size]?=some (.cells #[.int .i64 0] 3 (0,0)):=by
  rw [hW,Below.heap_alloc _ _ _ (by simp)];exact World.alloc_heap_new _ _
 have pb:W.heap[w3.heap.size+1]?=some (.cells #[.int .i64 0] 26 (0,0)):=by
  rw [hW]
  have:=World.alloc_heap_new (w3.alloc (.cells #[.int .i64 0] 3)) (.cells #[.int .i64 0] 26)
  simpa using this
 have hRd:zh w2.heap.size g 0 cap (t0::ts0) W :=
  { cell:=by simp only [World.cell?,pr];rfl
    soft:=by simp only [World.frozen?,pr];simp
    hcap:=hcap
    hmax:=hmax
    other:=by omega
    toks:=fun j u hj=>by rw [Nat.zero_add,World.cell?_of_block (h2W g hgl)];exact hcell j u hj
    few:=by omega }
 have hLev:ZS W:=fun j v hj=>by
  rw [World.cell?_of_block ((h2W 1 (by omega)).trans (hb.block _ hlb))];exact hl j v hj
 have hdo:=zhW w2.heap.size g 0 cap B0 (w2.heap.size+1) B2 f _ _ (t0::ts0) W res hRd hE hLev (by omega) hp ((h2W _ hB0l).trans b0) p1 ((h2W _ hB2l).trans b2) (by omega) (by omega) hB2g (by omega)
 rw [←hw3];refine (XS 85 #[.pointer (some ⟨B0,0,none⟩),.pointer (some ⟨w2.heap.size+1,0,none⟩),.pointer (some ⟨B2,0,none⟩)] w3 (fun w'=>QZ w2.heap.size B2 W (Y6 res) (.returned (.tuple #[])) w') (fun why at0 w'=>why=6∧∃a:Nat,at0=(a:Int)∧Y6 res=.error a∧xW w2.heap.size B2 W w') (fun _=>rfl) ?_).mono ?_
 ·rw [←hW]
  refine hdo.mono fun e w' hP=>⟨(hP.1.block _ (by omega) (by omega) (by omega)).trans pa,(hP.1.block _ (by omega) (by omega) (by omega)).trans pb,?_,?_⟩
  ·unfold Xh
   rw [World.cell?_of_block ((hP.1.block 0 (by omega) (by omega) (by omega)).trans ((h2W 0 (by omega)).trans (hb.block _ heb)))];exact he
  ·have hP2:=hP
   unfold QZ at hP
   cases hR:Y6 res with
   | error a=>rw [hR] at hP;exact .inr ⟨6,a,hP.2,rfl,a,rfl,rfl,hP.1⟩
   | ok x=>rw [hR] at hP hP2;have:=hP.2.1;subst this;exact .inl ⟨rfl,hP2⟩
 ·have hK2:∀w',xW w2.heap.size B2 W w'→xW w2.heap.size B2 w2 w':=fun w' h=>⟨by rw [h.os,hW,hw3];rfl,by rw [h.tape,hW,hw3];rfl,by rw [h.output,hW,hw3];rfl,by have:=h.size;omega,fun k hk hr hb'=>(h.block k (by omega) hr hb').trans (h2W k hk)⟩
  rintro e w' (⟨w5,rfl,hP,hB,hkp⟩ | ⟨why,at0,w5,rfl,⟨rfl,a,rfl,hR,hK⟩,hB⟩)
  ·rw [hs3] at hB
   refine ⟨w5,hB,hK2 _ hP.1,?_⟩
   unfold QZ at hP
   cases hR:Y6 res with
   | error a=>rw [hR] at hP;exact absurd hP.2 (by simp [Z2])
   | ok x =>
    rw [hR] at hP;obtain ⟨-,-,a,b,c,d0,d1,d2,l,h1,h2⟩:=hP;exact ⟨rfl,a,b,c,d0,d1,d2,l,h1,ZO.mono (ZO.kept h2 hB.size fun k hk _=>hkp k (by omega) (by omega)) (by omega)⟩
  ·rw [hs3] at hB
   refine ⟨w5,hB,hK2 _ hK,?_⟩;rw [hR]
theorem ziC (l:List UInt8) (w:World) (ht:Ys w) (hl:ZS w) (he:Xh w) :
  Calls Tryz.prog 43 #[.string (za l),.func (.func 44) #[] #[],.func (.func 45) #[] #[]] w fun e w' =>
   ∃(x:Ex) (at0 err:Nat) (v:Value),e=.returned (.tuple #[v,.int .i64 at0,.int .i64 err])∧xw l x at0 err∧ZO w.heap.size w' x v∧Below w.heap.size w w':=by
 obtain ⟨w1,hw1⟩:∃w1,w1=(((w.alloc (.cells #[.func (.func 44) #[] #[]] 93)).alloc ZA).alloc ZA).alloc ZA:=⟨_,rfl⟩;have hs1:w1.heap.size=w.heap.size+1+1+1+1:=by rw [hw1];simp
 have hb1:Below w.heap.size w w1:=by
  rw [hw1];exact ((((Below.refl w.heap.size w).alloc (Nat.le_refl _) _).alloc (by simp) _).alloc (by simp <;> omega) _).alloc (by simp <;> omega) _
 have m0:w1.heap[w.heap.size]?=some (.cells #[.func (.func 44) #[] #[]] 93 (0,0)):=by
  rw [hw1,Below.heap_alloc _ _ _ (by simp <;> omega),Below.heap_alloc _ _ _ (by simp <;> omega),Below.heap_alloc _ _ _ (by simp)];exact World.alloc_heap_new _ _
 have m1:w1.heap[w.heap.size+1]?=some ZA:=by
  rw [hw1,Below.heap_alloc _ _ _ (by simp <;> omega),Below.heap_alloc _ _ _ (by simp)]
  have:=World.alloc_heap_new (w.alloc (.cells #[.func (.func 44) #[] #[]] 93)) ZA
  simpa using this
 have m2:w1.heap[w.heap.size+1+1]?=some ZA:=by
  rw [hw1,Below.heap_alloc _ _ _ (by simp)]
  have:=World.alloc_heap_new ((w.alloc (.cells #[.func (.func 44) #[] #[]] 93)).alloc ZA) ZA
  simpa using this
 have m3:w1.heap[w.heap.size+1+1+1]?=some ZA:=by
  rw [hw1]
  have:=World.alloc_heap_new (((w.alloc (.cells #[.func (.func 44) #[] #[]] 93)).alloc ZA).alloc ZA) ZA
  simpa using this
 have cs:=za4 l w1 (ht.below hb1 (Nat.le_refl _));have HW1:Hid (w1=(((w.alloc (.cells #[.func (.func 44) #[] #[]] 93)).alloc ZA).alloc ZA).alloc ZA):=hw1;have HB1:Hid (Below w.heap.size w w1):=hb1;have HL:Hid (ZS w):=hl;have HE:Hid (Xh w):=he;have HM:Hid (w1.heap[w.heap.size]?=some (.cells #[.func (.func 44) #[] #[]] 93 (0,0))∧w1.heap[w.heap.size+1]?=some ZA∧w1.heap[w.heap.size+1+1]?=some ZA∧w1.heap[w.heap.size+1+1+1]?=some ZA):=⟨m0,m1,m2,m3⟩;clear hw1 hb1 hl he m0 m1 m2 m3 ht
 go_enter Tryz.func43,Tryz.ntmps43
 go_wp2_with fail
 rw [←HW1.out];refine cs.mono ?_;clear cs HW1;rintro e w2 ⟨v,rfl,hown,hb2⟩;have hblk:∀k,k<w1.heap.size→w2.heap[k]?=w1.heap[k]?:=fun k hk=>hb2.block k hk
 have p0:=(hblk _ (by omega)).trans HM.out.1
 have p1:=(hblk _ (by omega)).trans HM.out.2.1
 have p2:=(hblk _ (by omega)).trans HM.out.2.2.1
 have p3:=(hblk _ (by omega)).trans HM.out.2.2.2
 have hb02:Below w.heap.size w w2:=HB1.out.trans (hb2.mono (by omega))
 have HB2:Hid (Below w.heap.size w w2):=hb02;obtain ⟨a0,a1,a2,a3,a4,af⟩:=zo p1;obtain ⟨c0,c1,c2,c3,c4,-⟩:=zo p2;have hs2:=hb2.size
 by_cases herr:(zC l).2.2≠0
 ·have HI:Hid (xw l vI (zC l).2.1 (zC l).2.2):=show xw _ _ _ _ by unfold xw;rw [if_pos herr];exact ⟨rfl,rfl,rfl⟩
  have herr':¬((zC l).2.2:Int)=0:=by omega
  generalize (zC l).2.1=A at *;generalize (zC l).2.2=E at *;have h1:((E:Int)==0)=false:=by rw [beq_eq_false_iff_ne];exact herr'
  have h2:((E:Int) != 0)=true:=by simp [bne,h1]
  have h3:decide ((E:Int)=0)=false:=by rw [decide_eq_false_iff_not];exact herr'
  have h4:(E==0)=false:=by rw [beq_eq_false_iff_ne];exact herr
  have h5:decide (E=0)=false:=by rw [decide_eq_false_iff_not];exact herr
  have h6:(E != 0)=true:=by simp [bne,h4]
  obtain ⟨z0,z1,z2,z3,z4⟩:=zA p1 (.int .i64 0) (.string ⟨#[]⟩) (.int .i64 0) (.slice none 0 0) (.int .i64 0)
  have hb3:Below w.heap.size w (set5 w2 (w.heap.size+1) (.int .i64 0) (.string ⟨#[]⟩) (.int .i64 0) (.slice none 0 0) (.int .i64 0)) :=
   ((((hb02.setCell (p:=⟨w.heap.size+1,0,none⟩) (by simp) _).setCell (p:=⟨w.heap.size+1,1,none⟩) (by simp) _).setCell (p:=⟨w.heap.size+1,2,none⟩) (by simp) _).setCell (p:=⟨w.heap.size+1,3,none⟩) (by simp) _).setCell (p:=⟨w.heap.size+1,4,none⟩) (by simp) _
  have HB3:Hid (Below w.heap.size w (set5 w2 (w.heap.size+1) (.int .i64 0) (.string ⟨#[]⟩) (.int .i64 0) (.slice none 0 0) (.int .i64 0))):=hb3;clear hb3 hb02 hb2 hown hblk p0 p1 p2 p3 HM HB2 HL HE HB1;go_wp2
  refine bodyPost_ret (v:=.tuple #[.agg #[.int .i64 0,.string ⟨#[]⟩,.int .i64 0,.slice none 0 0,.int .i64 0],.int .i64 A,.int .i64 E]) (by simp [results,Tryz.results43,go_sem,z0,z1,z2,z3,z4]) rfl ⟨vI,A,E,_,rfl,HI.out,.leaf 0 [] 0 0,HB3.out⟩
 ·have herr0:(zC l).2.2=0:=by simpa using herr
  have hE:=V1 l herr0;obtain ⟨t0,ts0,hts⟩:=hE.cons;obtain ⟨g,cap,rfl,hg,hgl,hcap,hmax,hcell⟩:∃g cap,v=.slice (some ⟨g,0,none⟩) (zC l).1.length cap∧w1.heap.size≤g∧g<w2.heap.size∧(zC l).1.length≤cap∧cap≤maxLen∧∀j u,(z8 (zC l).1)[j]?=some u→w2.cell? ⟨g,j,none⟩=some u:=XK hown (by rw [hts];simp)
  have hlen:=Uf l;obtain ⟨f,res,hf,-⟩:=(vS (zC l).1.length (zC l).1 (Nat.le_refl _)).1 1;have hp:zk f 1 (zC l).1=some res:=hf 0;have ca:=zg1 (zC l).1 g cap w.heap.size (w.heap.size+1+1+1) f w w2 res hE hlen hp hgl hcap hmax hcell hb02 HL.out HE.out (Nat.le_refl _) (by omega) (by omega) p0 p3
  have hmf:∀(fn:Fn) (first cap:Array Value) (w:World),(Instr.makeFunc fn first cap).run Tryz.prog w=.ok (.func fn first cap) w:=fun _ _ _ _=>rfl
  have hdep:∀x us,res=.ok (x,us)→z6 x≤4097:=fun x us h=>by
   subst h
   have:=(Uw f).1 _ _ _ _ hp
   omega
  have HI:Hid (∀x at0 err,(match Y6 res with | .error a=>x=vI∧at0=a∧err=6 | .ok y=>if 24<z6 y then x=vI∧at0=0∧err=7 else x=y∧at0=0∧err=0)→xw l x at0 err):=fun x at0 err h=>by
   unfold xw
   rw [if_neg herr];exact ⟨f,res,hp,h⟩
  have HB2b:Hid (∀k,k≤w.heap.size+1+1→∀w5 w6,Below (w2.heap.size+1+1) w5 w6→xW w2.heap.size (w.heap.size+1+1+1) w2 w5→w6.heap[k]?=w2.heap[k]?):=fun k hk w5 w6 h5 h6 =>
   (h5.block k (by omega)).trans (h6.block k (by omega) (by omega) (by omega))
  have HBW:Hid (∀w5 w6,Below (w2.heap.size+1+1) w5 w6→xW w2.heap.size (w.heap.size+1+1+1) w2 w5→Below w.heap.size w w6):=fun w5 w6 h5 h6 =>
   ⟨h5.os.trans (h6.os.trans hb02.os),h5.tape.trans (h6.tape.trans hb02.tape),h5.output.trans (h6.output.trans hb02.output),by have:=h5.size;have:=h6.size;have:=hb02.size;omega,fun k hk=>(h5.block k (by omega)).trans ((h6.block k (by omega) (by omega) (by omega)).trans (hb02.block k hk))⟩
  have HP1:Hid (w2.heap[w.heap.size+1]?=some ZA∧w2.heap[w.heap.size+1+1]?=some ZA):=⟨p1,p2⟩;rw [herr0];generalize (zC l).2.1=A at *;clear hb02 hb2 hown hblk p0 p1 p2 p3 HM HB2 HL HE HB1 hcell hp hf hE hts a0 a1 a2 a3 a4 af c0 c1 c2 c3 c4;go_wp2_with fail
  refine ca.mono ?_;clear ca;rintro e w6 ⟨w5,hb5,hk5,hpost⟩;have q1:=(HB2b.out (w.heap.size+1) (by omega) w5 w6 hb5 hk5).trans HP1.out.1
  have q2:=(HB2b.out (w.heap.size+1+1) (by omega) w5 w6 hb5 hk5).trans HP1.out.2
  have hbw6:=HBW.out w5 w6 hb5 hk5;obtain ⟨a0,a1,a2,a3,a4,af⟩:=zo q1;obtain ⟨c0,c1,c2,c3,c4,-⟩:=zo q2
  have hset:∀W,Below w.heap.size w W→∀v0 v1 v2 v3 v4,Below w.heap.size w (set5 W (w.heap.size+1) v0 v1 v2 v3 v4):=fun W hW v0 v1 v2 v3 v4 =>
   ((((hW.setCell (p:=⟨w.heap.size+1,0,none⟩) (by simp) _).setCell (p:=⟨w.heap.size+1,1,none⟩) (by simp) _).setCell (p:=⟨w.heap.size+1,2,none⟩) (by simp) _).setCell (p:=⟨w.heap.size+1,3,none⟩) (by simp) _).setCell (p:=⟨w.heap.size+1,4,none⟩) (by simp) _
  cases hR:Y6 res with
  | error a =>
   rw [hR] at hpost;obtain rfl:=hpost;have HI2:Hid (xw l vI a 6):=HI.out vI a 6 (by rw [hR];exact ⟨rfl,rfl,rfl⟩)
   obtain ⟨z0,z1,z2,z3,z4⟩:=zA q1 (.int .i64 0) (.string ⟨#[]⟩) (.int .i64 0) (.slice none 0 0) (.int .i64 0);have HB3:Hid (Below w.heap.size w (set5 w6 (w.heap.size+1) (.int .i64 0) (.string ⟨#[]⟩) (.int .i64 0) (.slice none 0 0) (.int .i64 0))):=hset w6 hbw6 _ _ _ _ _;clear hset hbw6 q1 q2 hb5 hk5 HI HB2b HBW HP1;go_wp2
   refine bodyPost_ret (v:=.tuple #[.agg #[.int .i64 0,.string ⟨#[]⟩,.int .i64 0,.slice none 0 0,.int .i64 0],.int .i64 a,.int .i64 6]) (by simp [results,Tryz.results43,go_sem,z0,z1,z2,z3,z4]) rfl ⟨vI,a,6,_,rfl,HI2.out,.leaf 0 [] 0 0,HB3.out⟩
  | ok x =>
   rw [hR] at hpost;obtain ⟨rfl,xa,xb,xc,x0,x1,x2,xl,hbx,hx⟩:=hpost
   have hxd:z6 x≤4097:=by
    rcases res with a | ⟨y,us⟩
    ·cases hR
    ·unfold Y6 at hR
     simp only at hR
     split at hR
     ·cases hR;exact hdep _ us rfl
     ·cases hR
   have hs6:=hb5.size;have hs5:=hk5.size;have qx:=(hb5.block (w.heap.size+1+1+1) (by omega)).trans hbx
   obtain ⟨e0,e1,e2,e3,e4,-⟩:=zo qx;have cd:=VD (fun k=>w2.heap.size+1+1≤k) (z6 x) w6 x _ w6 (Nat.le_refl _) (by omega) (Below.refl _ _) hx
   have HX:Hid (ZO (w2.heap.size+1+1) w6 x (.agg #[.int .i64 xa,.string xb,.int .i64 xc,.slice x0 x1 x2,.int .i64 xl])):=hx;have HQ:Hid (w6.heap[w.heap.size+1]?=some ZA∧w6.heap[w.heap.size+1+1]?=some ZA∧w6.heap[w.heap.size+1+1+1]?=some (.cells #[.int .i64 xa,.string xb,.int .i64 xc,.slice x0 x1 x2,.int .i64 xl] 45 (0,0))):=⟨q1,q2,qx⟩;have HB6:Hid (Below w.heap.size w w6):=hbw6;have HS:Hid (∀W,Below w.heap.size w W→∀v0 v1 v2 v3 v4,Below w.heap.size w (set5 W (w.heap.size+1) v0 v1 v2 v3 v4)):=hset;have HI2:Hid (∀y at0 err,(if 24<z6 x then y=vI∧at0=0∧err=7 else y=x∧at0=0∧err=0)→xw l y at0 err):=fun y at0 err h=>HI.out y at0 err (by rw [hR];exact h)
   generalize hD:z6 x=D at *;clear hset hbw6 q1 q2 qx hb5 hk5 HI HB2b HBW HP1 hx hbx hdep;go_wp2_with fail
   refine cd.mono ?_;clear cd a0 a1 a2 a3 a4 af c0 c1 c2 c3 c4 e0 e1 e2 e3 e4;rintro e w7 ⟨rfl,hb7⟩;have r1:=(hb7.block _ (by omega)).trans HQ.out.1
   have r2:=(hb7.block _ (by omega)).trans HQ.out.2.1
   have r3:=(hb7.block _ (by omega)).trans HQ.out.2.2
   have hb07:Below w.heap.size w w7:=HB6.out.trans (hb7.mono (by omega))
   have hx7:ZO (w2.heap.size+1+1) w7 x (.agg #[.int .i64 xa,.string xb,.int .i64 xc,.slice x0 x1 x2,.int .i64 xl]):=ZO.kept HX.out hb7.size fun k _ hlt=>hb7.block k hlt
   obtain ⟨a0,a1,a2,a3,a4,af⟩:=zo r1
   by_cases hdeep:24<D
   ·obtain ⟨c0,c1,c2,c3,c4,-⟩:=zo r2
    obtain ⟨z0,z1,z2,z3,z4⟩:=zA r1 (.int .i64 0) (.string ⟨#[]⟩) (.int .i64 0) (.slice none 0 0) (.int .i64 0);have HI3:Hid (xw l vI 0 7):=HI2.out vI 0 7 (by rw [if_pos hdeep];exact ⟨rfl,rfl,rfl⟩)
    have HB3:Hid (Below w.heap.size w (set5 w7 (w.heap.size+1) (.int .i64 0) (.string ⟨#[]⟩) (.int .i64 0) (.slice none 0 0) (.int .i64 0))):=HS.out w7 hb07 _ _ _ _ _;have h1:(24:Int)<(D:Int):=by omega
    clear hb07 hx7 r1 r2 r3 hb7 HQ HX HB6 HS HI2;go_wp2
    refine bodyPost_ret (v:=.tuple #[.agg #[.int .i64 0,.string ⟨#[]⟩,.int .i64 0,.slice none 0 0,.int .i64 0],.int .i64 0,.int .i64 7]) (by simp [results,Tryz.results43,go_sem,z0,z1,z2,z3,z4]) rfl ⟨vI,0,7,_,rfl,HI3.out,.leaf 0 [] 0 0,HB3.out⟩
   ·obtain ⟨c0,c1,c2,c3,c4,-⟩:=zo r3
    obtain ⟨z0,z1,z2,z3,z4⟩:=zA r1 (.int .i64 xa) (.string xb) (.int .i64 xc) (.slice x0 x1 x2) (.int .i64 xl);have HI3:Hid (xw l x 0 0):=HI2.out x 0 0 (by rw [if_neg hdeep];exact ⟨rfl,rfl,rfl⟩)
    have HB3:Hid (Below w.heap.size w (set5 w7 (w.heap.size+1) (.int .i64 xa) (.string xb) (.int .i64 xc) (.slice x0 x1 x2) (.int .i64 xl))):=HS.out w7 hb07 _ _ _ _ _;have HX3:Hid (ZO w.heap.size (set5 w7 (w.heap.size+1) (.int .i64 xa) (.string xb) (.int .i64 xc) (.slice x0 x1 x2) (.int .i64 xl)) x (.agg #[.int .i64 xa,.string xb,.int .i64 xc,.slice x0 x1 x2,.int .i64 xl])):=ZO.mono (ZO.kept hx7 (w':=set5 w7 (w.heap.size+1) (.int .i64 xa) (.string xb) (.int .i64 xc) (.slice x0 x1 x2) (.int .i64 xl)) (by simp) fun k hk _=>zw _ _ _ _ _ _ _ (by omega)) (by omega)
    have h1:¬(24:Int)<(D:Int):=by omega
    clear hb07 hx7 r1 r2 r3 hb7 HQ HX HB6 HS HI2;go_wp2
    refine bodyPost_ret (v:=.tuple #[.agg #[.int .i64 xa,.string xb,.int .i64 xc,.slice x0 x1 x2,.int .i64 xl],.int .i64 0,.int .i64 0]) (by simp [results,Tryz.results43,go_sem,z0,z1,z2,z3,z4]) rfl ⟨x,0,0,_,rfl,HI3.out,HX3.out,HB3.out⟩
def yx (l:List UInt8) (x:Pg) (at0 err:Nat):Prop :=
 if (zC l).2.2≠0 then x=xe∧at0=(zC l).2.1∧err=(zC l).2.2 else
 ∃f res,ZR f [] [] (zC l).1=some res∧match Yj res with
  | .error a=>x=xe∧at0=a∧err=6
  | .ok y=>if 24<depthFs y.funs then x=xe∧at0=0∧err=7 else x=y∧at0=0∧err=0
theorem zf0 (ts:List Tk) (g cap B0 B2 f:Nat) (w0 w2:World) (res:PR Pg) (hE:zj ts) (hlen:ts.length≤4097) (hp:ZR f [] [] ts=some res) (hgl:g<w2.heap.size) (hcap:ts.length≤cap) (hmax:cap≤maxLen) (hcell:∀j u,(z8 ts)[j]?=some u→w2.cell? ⟨g,j,none⟩=some u)
  (hb:Below w0.heap.size w0 w2) (hl:ZS w0) (he:Xh w0) (hB0:w0.heap.size≤B0) (hB2:w0.heap.size≤B2) (hB2g:B2≠g)
  (b0:w2.heap[B0]?=some (.cells #[.func (.func 22) #[] #[]] 54 (0,0))) (b2:w2.heap[B2]?=some xg) :
  Calls Tryz.prog 48 #[.func (.func 49) #[] #[.pointer (some ⟨B0,0,none⟩),.pointer (some ⟨w2.heap.size+1,0,none⟩),.pointer (some ⟨B2,0,none⟩)]] (rdW w2 (.slice (some ⟨g,0,none⟩) ts.length cap)) fun e w' =>
   ∃w5,Below (w2.heap.size+1+1) w5 w'∧xW w2.heap.size B2 w2 w5∧match Yj res with
    | .error a=>e=.returned (.tuple #[.int .i64 a,.int .i64 6])
    | .ok x=>e=.returned (.tuple #[.int .i64 0,.int .i64 0])∧∃(s0:Option Addr) (s1 s2:Nat) (d0:Option Addr) (d1 d2:Nat),w5.heap[B2]?=some (.cells #[.slice s0 s1 s2,.slice d0 d1 d2] 25 (0,0))∧YH (w2.heap.size+1+1) w' x (.agg #[.slice s0 s1 s2,.slice d0 d1 d2]):=by
 obtain ⟨t0,ts0,rfl⟩:=hE.cons;have hs:w0.heap.size≤w2.heap.size:=hb.size;have hlb:1<w0.heap.size:=World.block_lt_of_cell? w0 _ (hl 0 _ rfl);have heb:0<w0.heap.size:=World.block_lt_of_cell? w0 _ he;have hB0l:B0<w2.heap.size:=(Array.getElem?_eq_some_iff.1 b0).1;have hB2l:B2<w2.heap.size:=(Array.getElem?_eq_some_iff.1 b2).1;obtain ⟨w3,hw3⟩:∃w3,w3=rdW w2 (.slice (some ⟨g,0,none⟩) (t0::ts0).length cap):=⟨_,rfl⟩;have hs3:w3.heap.size=w2.heap.size+1+1:=by rw [hw3];simp
 obtain ⟨W,hW⟩:∃W,W=zgA w3:=⟨_,rfl⟩;have hsW:W.heap.size=w2.heap.size+1+1+1+1:=by rw [hW];simp [hs3]
 have h3W:∀k,k<w3.heap.size→W.heap[k]?=w3.heap[k]?:=fun k hk=>by rw [hW,Below.heap_alloc _ _ _ (by simp;omega),Below.heap_alloc _ _ _ hk]
 have h23:∀k,k<w2.heap.size→w3.heap[k]?=w2.heap[k]?:=fun k hk=>by rw [hw3,Below.heap_alloc _ _ _ (by simp;omega),Below.heap_alloc _ _ _ hk]
 have h2W:∀k,k<w2.heap.size→W.heap[k]?=w2.heap[k]?:=fun k hk=>(h3W k (by omega)).trans (h23 k hk)
 have pr:W.heap[w2.heap.size]?=some (.cells #[.slice (some ⟨g,0,none⟩) (t0::ts0).length cap] 100 (0,0)):=by
  rw [h3W _ (by omega),hw3,Below.heap_alloc _ _ _ (by simp)];exact World.alloc_heap_new _ _
 have p1:W.heap[w2.heap.size+1]?=some (.cells #[.pointer (some ⟨w2.heap.size,0,none⟩)] 56 (0,0)):=by
  rw [h3W _ (by omega),hw3]
  have:=World.alloc_heap_new (w2.alloc (.cells #[.slice (some ⟨g,0,none⟩) (t0::ts0).length cap] 100)) (.cells #[.pointer (some ⟨w2.heap.size,0,none⟩)] 56)
  simpa using this
 have pa:W.heap[w3.heap.size]?=some (.cells #[.int .i64 0] 3 (0,0)):=by
  rw [hW,Below.heap_alloc _ _ _ (by simp)];exact World.alloc_heap_new _ _
 have pb:W.heap[w3.heap.size+1]?=some (.cells #[.int .i64 0] 26 (0,0)):=by
  rw [hW]
  have:=World.alloc_heap_new (w3.alloc (.cells #[.int .i64 0] 3)) (.cells #[.int .i64 0] 26)
  simpa using this
 have hRd:zh w2.heap.size g 0 cap (t0::ts0) W :=
  { cell:=by simp only [World.cell?,pr];rfl
    soft:=by simp only [World.frozen?,pr];simp
    hcap:=hcap
    hmax:=hmax
    other:=by omega
    toks:=fun j u hj=>by rw [Nat.zero_add,World.cell?_of_block (h2W g hgl)];exact hcell j u hj
    few:=by omega }
 have hLev:ZS W:=fun j v hj=>by
  rw [World.cell?_of_block ((h2W 1 (by omega)).trans (hb.block _ hlb))];exact hl j v hj
 have hdo:=zgZ w2.heap.size g 0 cap B0 (w2.heap.size+1) B2 f _ _ (t0::ts0) W res hRd hE hLev (by omega) hp ((h2W _ hB0l).trans b0) p1 ((h2W _ hB2l).trans b2) (by omega) (by omega) hB2g (by omega)
 rw [←hw3];refine (XS 49 #[.pointer (some ⟨B0,0,none⟩),.pointer (some ⟨w2.heap.size+1,0,none⟩),.pointer (some ⟨B2,0,none⟩)] w3 (fun w'=>Uc w2.heap.size B2 W (Yj res) (.returned (.tuple #[])) w') (fun why at0 w'=>why=6∧∃a:Nat,at0=(a:Int)∧Yj res=.error a∧xW w2.heap.size B2 W w') (fun _=>rfl) ?_).mono ?_
 ·rw [←hW]
  refine hdo.mono fun e w' hP=>⟨(hP.1.block _ (by omega) (by omega) (by omega)).trans pa,(hP.1.block _ (by omega) (by omega) (by omega)).trans pb,?_,?_⟩
  ·unfold Xh
   rw [World.cell?_of_block ((hP.1.block 0 (by omega) (by omega) (by omega)).trans ((h2W 0 (by omega)).trans (hb.block _ heb)))];exact he
  ·have hP2:=hP
   unfold Uc at hP
   cases hR:Yj res with
   | error a=>rw [hR] at hP;exact .inr ⟨6,a,hP.2,rfl,a,rfl,rfl,hP.1⟩
   | ok x=>rw [hR] at hP hP2;have:=hP.2.1;subst this;exact .inl ⟨rfl,hP2⟩
 ·have hK2:∀w',xW w2.heap.size B2 W w'→xW w2.heap.size B2 w2 w':=fun w' h=>⟨by rw [h.os,hW,hw3];rfl,by rw [h.tape,hW,hw3];rfl,by rw [h.output,hW,hw3];rfl,by have:=h.size;omega,fun k hk hr hb'=>(h.block k (by omega) hr hb').trans (h2W k hk)⟩
  rintro e w' (⟨w5,rfl,hP,hB,hkp⟩ | ⟨why,at0,w5,rfl,⟨rfl,a,rfl,hR,hK⟩,hB⟩)
  ·rw [hs3] at hB
   refine ⟨w5,hB,hK2 _ hP.1,?_⟩
   unfold Uc at hP
   cases hR:Yj res with
   | error a=>rw [hR] at hP;exact absurd hP.2 (by simp [Z2])
   | ok x =>
    rw [hR] at hP;obtain ⟨-,-,s0,s1,s2,d0,d1,d2,h1,h2⟩:=hP;exact ⟨rfl,s0,s1,s2,d0,d1,d2,h1,YH.mono (YH.kept h2 hB.size fun k hk _=>hkp k (by omega) (by omega)) (by omega)⟩
  ·rw [hs3] at hB
   refine ⟨w5,hB,hK2 _ hK,?_⟩;rw [hR]
theorem ziD (l:List UInt8) (w:World) (ht:Ys w) (hl:ZS w) (he:Xh w) :
  Calls Tryz.prog 21 #[.string (za l),.func (.func 22) #[] #[],.func (.func 23) #[] #[]] w fun e w' =>
   ∃(x:Pg) (at0 err:Nat) (v:Value),e=.returned (.tuple #[v,.int .i64 at0,.int .i64 err])∧yx l x at0 err∧YH w.heap.size w' x v∧Below w.heap.size w w':=by
 obtain ⟨w1,hw1⟩:∃w1,w1=(((w.alloc (.cells #[.func (.func 22) #[] #[]] 54)).alloc xg).alloc xg).alloc xg:=⟨_,rfl⟩;have hs1:w1.heap.size=w.heap.size+1+1+1+1:=by rw [hw1];simp
 have hb1:Below w.heap.size w w1:=by
  rw [hw1];exact ((((Below.refl w.heap.size w).alloc (Nat.le_refl _) _).alloc (by simp) _).alloc (by simp <;> omega) _).alloc (by simp <;> omega) _
 have m0:w1.heap[w.heap.size]?=some (.cells #[.func (.func 22) #[] #[]] 54 (0,0)):=by
  rw [hw1,Below.heap_alloc _ _ _ (by simp <;> omega),Below.heap_alloc _ _ _ (by simp <;> omega),Below.heap_alloc _ _ _ (by simp)];exact World.alloc_heap_new _ _
 have m1:w1.heap[w.heap.size+1]?=some xg:=by
  rw [hw1,Below.heap_alloc _ _ _ (by simp <;> omega),Below.heap_alloc _ _ _ (by simp)]
  have:=World.alloc_heap_new (w.alloc (.cells #[.func (.func 22) #[] #[]] 54)) xg
  simpa using this
 have m2:w1.heap[w.heap.size+1+1]?=some xg:=by
  rw [hw1,Below.heap_alloc _ _ _ (by simp)]
  have:=World.alloc_heap_new ((w.alloc (.cells #[.func (.func 22) #[] #[]] 54)).alloc xg) xg
  simpa using this
 have m3:w1.heap[w.heap.size+1+1+1]?=some xg:=by
  rw [hw1]
  have:=World.alloc_heap_new (((w.alloc (.cells #[.func (.func 22) #[] #[]] 54)).alloc xg).alloc xg) xg
  simpa using this
 have cs:=za4 l w1 (ht.below hb1 (Nat.le_refl _));have HW1:Hid (w1=(((w.alloc (.cells #[.func (.func 22) #[] #[]] 54)).alloc xg).alloc xg).alloc xg):=hw1;have HB1:Hid (Below w.heap.size w w1):=hb1;have HL:Hid (ZS w):=hl;have HE:Hid (Xh w):=he;have HM:Hid (w1.heap[w.heap.size]?=some (.cells #[.func (.func 22) #[] #[]] 54 (0,0))∧w1.heap[w.heap.size+1]?=some xg∧w1.heap[w.heap.size+1+1]?=some xg∧w1.heap[w.heap.size+1+1+1]?=some xg):=⟨m0,m1,m2,m3⟩;clear hw1 hb1 hl he m0 m1 m2 m3 ht
 go_enter Tryz.func21,Tryz.ntmps21
 go_wp2_with fail
 rw [←HW1.out];refine cs.mono ?_;clear cs HW1;rintro e w2 ⟨v,rfl,hown,hb2⟩;have hblk:∀k,k<w1.heap.size→w2.heap[k]?=w1.heap[k]?:=fun k hk=>hb2.block k hk
 have p0:=(hblk _ (by omega)).trans HM.out.1
 have p1:=(hblk _ (by omega)).trans HM.out.2.1
 have p2:=(hblk _ (by omega)).trans HM.out.2.2.1
 have p3:=(hblk _ (by omega)).trans HM.out.2.2.2
 have hb02:Below w.heap.size w w2:=HB1.out.trans (hb2.mono (by omega))
 have HB2:Hid (Below w.heap.size w w2):=hb02;obtain ⟨a0,a1,af⟩:=zZ p1;obtain ⟨c0,c1,-⟩:=zZ p2;have hs2:=hb2.size
 by_cases herr:(zC l).2.2≠0
 ·have HI:Hid (yx l xe (zC l).2.1 (zC l).2.2):=show yx _ _ _ _ by unfold yx;rw [if_pos herr];exact ⟨rfl,rfl,rfl⟩
  have herr':¬((zC l).2.2:Int)=0:=by omega
  generalize (zC l).2.1=A at *;generalize (zC l).2.2=E at *;have h1:((E:Int)==0)=false:=by rw [beq_eq_false_iff_ne];exact herr'
  have h2:((E:Int) != 0)=true:=by simp [bne,h1]
  have h3:decide ((E:Int)=0)=false:=by rw [decide_eq_false_iff_not];exact herr'
  have h4:(E==0)=false:=by rw [beq_eq_false_iff_ne];exact herr
  have h5:decide (E=0)=false:=by rw [decide_eq_false_iff_not];exact herr
  have h6:(E != 0)=true:=by simp [bne,h4]
  obtain ⟨z0,z1⟩:=Yi p1 (.slice none 0 0) (.slice none 0 0)
  have hb3:Below w.heap.size w (vh w2 (w.heap.size+1) (.slice none 0 0) (.slice none 0 0)) :=
   (hb02.setCell (p:=⟨w.heap.size+1,0,none⟩) (by simp) _).setCell (p:=⟨w.heap.size+1,1,none⟩) (by simp) _
  have HB3:Hid (Below w.heap.size w (vh w2 (w.heap.size+1) (.slice none 0 0) (.slice none 0 0))):=hb3;clear hb3 hb02 hb2 hown hblk p0 p1 p2 p3 HM HB2 HL HE HB1;go_wp2
  refine bodyPost_ret (v:=.tuple #[.agg #[.slice none 0 0,.slice none 0 0],.int .i64 A,.int .i64 E]) (by simp [results,Tryz.results21,go_sem,z0,z1]) rfl ⟨xe,A,E,_,rfl,HI.out,zbO _ _,HB3.out⟩
 ·have herr0:(zC l).2.2=0:=by simpa using herr
  have hE:=V1 l herr0;obtain ⟨t0,ts0,hts⟩:=hE.cons;obtain ⟨g,cap,rfl,hg,hgl,hcap,hmax,hcell⟩:∃g cap,v=.slice (some ⟨g,0,none⟩) (zC l).1.length cap∧w1.heap.size≤g∧g<w2.heap.size∧(zC l).1.length≤cap∧cap≤maxLen∧∀j u,(z8 (zC l).1)[j]?=some u→w2.cell? ⟨g,j,none⟩=some u:=XK hown (by rw [hts];simp)
  have hlen:=Uf l;obtain ⟨f,res,hf,-⟩:=qy (zC l).1.length (zC l).1 (Nat.le_refl _) hE [] [];have hp:ZR f [] [] (zC l).1=some res:=hf 0;have ca:=zf0 (zC l).1 g cap w.heap.size (w.heap.size+1+1+1) f w w2 res hE hlen hp hgl hcap hmax hcell hb02 HL.out HE.out (Nat.le_refl _) (by omega) (by omega) p0 p3
  have hmf:∀(fn:Fn) (first cap:Array Value) (w:World),(Instr.makeFunc fn first cap).run Tryz.prog w=.ok (.func fn first cap) w:=fun _ _ _ _=>rfl
  have hdep:∀x us,res=.ok (x,us)→depthFs x.funs≤4097:=fun x us h=>by
   subst h
   have:=vG (zC l).1.length f [] [] _ us x hp hE (by simp [depthFs])
   omega
  have HI:Hid (∀x at0 err,(match Yj res with | .error a=>x=xe∧at0=a∧err=6 | .ok y=>if 24<depthFs y.funs then x=xe∧at0=0∧err=7 else x=y∧at0=0∧err=0)→yx l x at0 err):=fun x at0 err h=>by
   unfold yx
   rw [if_neg herr];exact ⟨f,res,hp,h⟩
  have HB2b:Hid (∀k,k≤w.heap.size+1+1→∀w5 w6,Below (w2.heap.size+1+1) w5 w6→xW w2.heap.size (w.heap.size+1+1+1) w2 w5→w6.heap[k]?=w2.heap[k]?):=fun k hk w5 w6 h5 h6 =>
   (h5.block k (by omega)).trans (h6.block k (by omega) (by omega) (by omega))
  have HBW:Hid (∀w5 w6,Below (w2.heap.size+1+1) w5 w6→xW w2.heap.size (w.heap.size+1+1+1) w2 w5→Below w.heap.size w w6):=fun w5 w6 h5 h6 =>
   ⟨h5.os.trans (h6.os.trans hb02.os),h5.tape.trans (h6.tape.trans hb02.tape),h5.output.trans (h6.output.trans hb02.output),by have:=h5.size;have:=h6.size;have:=hb02.size;omega,fun k hk=>(h5.block k (by omega)).trans ((h6.block k (by omega) (by omega) (by omega)).trans (hb02.block k hk))⟩
  have HP1:Hid (w2.heap[w.heap.size+1]?=some xg∧w2.heap[w.heap.size+1+1]?=some xg):=⟨p1,p2⟩;rw [herr0];generalize (zC l).2.1=A at *;clear hb02 hb2 hown hblk p0 p1 p2 p3 HM HB2 HL HE HB1 hcell hp hf hE hts a0 a1 af c0 c1;go_wp2_with fail
  refine ca.mono ?_;clear ca;rintro e w6 ⟨w5,hb5,hk5,hpost⟩;have q1:=(HB2b.out (w.heap.size+1) (by omega) w5 w6 hb5 hk5).trans HP1.out.1
  have q2:=(HB2b.out (w.heap.size+1+1) (by omega) w5 w6 hb5 hk5).trans HP1.out.2
  have hbw6:=HBW.out w5 w6 hb5 hk5;obtain ⟨a0,a1,af⟩:=zZ q1;obtain ⟨c0,c1,-⟩:=zZ q2
  have hset:∀W,Below w.heap.size w W→∀v0 v1,Below w.heap.size w (vh W (w.heap.size+1) v0 v1):=fun W hW v0 v1 =>
   (hW.setCell (p:=⟨w.heap.size+1,0,none⟩) (by simp) _).setCell (p:=⟨w.heap.size+1,1,none⟩) (by simp) _
  cases hR:Yj res with
  | error a =>
   rw [hR] at hpost;obtain rfl:=hpost;have HI2:Hid (yx l xe a 6):=HI.out xe a 6 (by rw [hR];exact ⟨rfl,rfl,rfl⟩)
   obtain ⟨z0,z1⟩:=Yi q1 (.slice none 0 0) (.slice none 0 0);have HB3:Hid (Below w.heap.size w (vh w6 (w.heap.size+1) (.slice none 0 0) (.slice none 0 0))):=hset w6 hbw6 _ _;clear hset hbw6 q1 q2 hb5 hk5 HI HB2b HBW HP1;go_wp2
   refine bodyPost_ret (v:=.tuple #[.agg #[.slice none 0 0,.slice none 0 0],.int .i64 a,.int .i64 6]) (by simp [results,Tryz.results21,go_sem,z0,z1]) rfl ⟨xe,a,6,_,rfl,HI2.out,zbO _ _,HB3.out⟩
  | ok x =>
   rw [hR] at hpost;obtain ⟨rfl,y0,y1,y2,x0,x1,x2,hbx,hx⟩:=hpost
   have hxd:depthFs x.funs≤4097:=by
    rcases res with a | ⟨y,us⟩
    ·cases hR
    ·unfold Yj at hR
     simp only at hR
     split at hR
     ·cases hR;exact hdep _ us rfl
     ·cases hR
   have hs6:=hb5.size;have hs5:=hk5.size;have qx:=(hb5.block (w.heap.size+1+1+1) (by omega)).trans hbx
   obtain ⟨e0,e1,-⟩:=zZ qx;have cd:=Ub (fun k=>w2.heap.size+1+1≤k) w6 x _ hx (by omega)
   have HX:Hid (YH (w2.heap.size+1+1) w6 x (.agg #[.slice y0 y1 y2,.slice x0 x1 x2])):=hx;have HQ:Hid (w6.heap[w.heap.size+1]?=some xg∧w6.heap[w.heap.size+1+1]?=some xg∧w6.heap[w.heap.size+1+1+1]?=some (.cells #[.slice y0 y1 y2,.slice x0 x1 x2] 25 (0,0))):=⟨q1,q2,qx⟩;have HB6:Hid (Below w.heap.size w w6):=hbw6;have HS:Hid (∀W,Below w.heap.size w W→∀v0 v1,Below w.heap.size w (vh W (w.heap.size+1) v0 v1)):=hset;have HI2:Hid (∀y at0 err,(if 24<depthFs x.funs then y=xe∧at0=0∧err=7 else y=x∧at0=0∧err=0)→yx l y at0 err):=fun y at0 err h=>HI.out y at0 err (by rw [hR];exact h)
   generalize hD:depthFs x.funs=D at *;clear hset hbw6 q1 q2 qx hb5 hk5 HI HB2b HBW HP1 hx hbx hdep;go_wp2_with fail
   refine cd.mono ?_;clear cd a0 a1 af c0 c1 e0 e1;rintro e w7 ⟨rfl,hb7⟩;have r1:=(hb7.block _ (by omega)).trans HQ.out.1
   have r2:=(hb7.block _ (by omega)).trans HQ.out.2.1
   have r3:=(hb7.block _ (by omega)).trans HQ.out.2.2
   have hb07:Below w.heap.size w w7:=HB6.out.trans (hb7.mono (by omega))
   have hx7:YH (w2.heap.size+1+1) w7 x (.agg #[.slice y0 y1 y2,.slice x0 x1 x2]):=YH.kept HX.out hb7.size fun k _ hlt=>hb7.block k hlt
   obtain ⟨a0,a1,af⟩:=zZ r1
   by_cases hdeep:24<D
   ·obtain ⟨c0,c1,-⟩:=zZ r2
    obtain ⟨z0,z1⟩:=Yi r1 (.slice none 0 0) (.slice none 0 0);have HI3:Hid (yx l xe 0 7):=HI2.out xe 0 7 (by rw [if_pos hdeep];exact ⟨rfl,rfl,rfl⟩)
    have HB3:Hid (Below w.heap.size w (vh w7 (w.heap.size+1) (.slice none 0 0) (.slice none 0 0))):=HS.out w7 hb07 _ _;have h1:(24:Int)<(D:Int):=by omega
    clear hb07 hx7 r1 r2 r3 hb7 HQ HX HB6 HS HI2;go_wp2
    refine bodyPost_ret (v:=.tuple #[.agg #[.slice none 0 0,.slice none 0 0],.int .i64 0,.int .i64 7]) (by simp [results,Tryz.results21,go_sem,z0,z1]) rfl ⟨xe,0,7,_,rfl,HI3.out,zbO _ _,HB3.out⟩
   ·obtain ⟨c0,c1,-⟩:=zZ r3
    obtain ⟨z0,z1⟩:=Yi r1 (.slice y0 y1 y2) (.slice x0 x1 x2);have HI3:Hid (yx l x 0 0):=HI2.out x 0 0 (by rw [if_neg hdeep];exact ⟨rfl,rfl,rfl⟩)
    have HB3:Hid (Below w.heap.size w (vh w7 (w.heap.size+1) (.slice y0 y1 y2) (.slice x0 x1 x2))):=HS.out w7 hb07 _ _;have HX3:Hid (YH w.heap.size (vh w7 (w.heap.size+1) (.slice y0 y1 y2) (.slice x0 x1 x2)) x (.agg #[.slice y0 y1 y2,.slice x0 x1 x2])):=YH.mono (YH.kept hx7 (w':=vh w7 (w.heap.size+1) (.slice y0 y1 y2) (.slice x0 x1 x2)) (by simp) fun k hk _=>Vk _ _ _ _ (by omega)) (by omega)
    have h1:¬(24:Int)<(D:Int):=by omega
    clear hb07 hx7 r1 r2 r3 hb7 HQ HX HB6 HS HI2;go_wp2
    refine bodyPost_ret (v:=.tuple #[.agg #[.slice y0 y1 y2,.slice x0 x1 x2],.int .i64 0,.int .i64 0]) (by simp [results,Tryz.results21,go_sem,z0,z1]) rfl ⟨x,0,0,_,rfl,HI3.out,HX3.out,HB3.out⟩
end Go.Proofs.YtpejpbbdgblbeaaGreatDoor
