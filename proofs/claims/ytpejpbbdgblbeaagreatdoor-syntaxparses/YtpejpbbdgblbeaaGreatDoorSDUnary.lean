import Derived.Test.YtpejpbbdgblbeaaGreatDoorMC37
import Derived.Test.YtpejpbbdgblbeaaGreatDoorMC17
namespace Go.Proofs.YtpejpbbdgblbeaaGreatDoor
open Go.RowKit Go.Shelf
set_option maxHeartbeats 16000000
set_option maxRecDepth 100000
def sg2 (i:Nat):List UInt8:=if i=0 then [45] else [33]
theorem zb8 {F i:Nat} {σ:RS} {q:Ex × RS} (h:yN (F+1) σ=some q) (hi:i<2) (hs:zO (sg2 i) σ=true) (hno:∀j,j<i→zO (sg2 j) σ=false):∃q',yN F (false,σ.2.tail)=some q'∧q=(.mk 6 (sg2 i) 0 [q'.1] (zx σ.2).line,q'.2):=by
 rw [yN] at h;have hc:i=0∨i=1:=by omega
 rcases hc with rfl | rfl
 ·have hs0:zO [45] σ=true:=hs
  rw [if_pos hs0] at h;obtain ⟨y,h1,h2⟩:=Option.bind_eq_some_iff.1 h;exact ⟨y,h1,(Option.some.inj h2).symm⟩
 ·have h0:zO [45] σ=false:=hno 0 (by omega)
  have hs1:zO [33] σ=true:=hs;rw [if_neg (by simp [h0]),if_pos hs1] at h
  obtain ⟨y,h1,h2⟩:=Option.bind_eq_some_iff.1 h;exact ⟨y,h1,(Option.some.inj h2).symm⟩
theorem zb9 {F:Nat} {σ:RS} {q:Ex × RS} (h:yN (F+1) σ=some q) (hno:∀j,j<2→zO (sg2 j) σ=false):∃q1,Yk F σ=some q1∧ZC F q1.1 q1.2=some q:=by
 rw [yN] at h;have h0:zO [45] σ=false:=hno 0 (by omega)
 have h1:zO [33] σ=false:=hno 1 (by omega)
 rw [if_neg (by simp [h0]),if_neg (by simp [h1])] at h
 exact Option.bind_eq_some_iff.1 h
theorem Zo.one {r g B:Nat} {w w7:World} {σ:RS} {x:Ex} {a:Int} {b:ByteArray} {c:Int} {d0:Option Addr} {d1 d2:Nat} {l:Int} (k:Nat) (s:List UInt8) (n:Int) (line:Nat) (hK:zc r w w7) (hr:r<w.heap.size) (hg:g<w.heap.size) (hx:ZO B w7 x (.agg #[.int .i64 a,.string b,.int .i64 c,.slice d0 d1 d2,.int .i64 l])) (hB:w.heap.size<B) (hB7:B≤w7.heap.size) (hrd:zz r g σ w7) :
  Zo r g w (.mk k s n [x] line,σ) (.returned (.agg #[.int .i64 k,.string (za s),.int .i64 n,.slice (some ⟨w7.heap.size,0,none⟩) 1 1,.int .i64 line])) (set5 (w7.alloc (.cells #[.int .i64 a,.string b,.int .i64 c,.slice d0 d1 d2,.int .i64 l] 45)) w.heap.size (.int .i64 k) (.string (za s)) (.int .i64 n) (.slice (some ⟨w7.heap.size,0,none⟩) 1 1) (.int .i64 line)):=by
 have hrow:=zv.one 45 (c:=[.int .i64 a,.string b,.int .i64 c,.slice d0 d1 d2,.int .i64 l]) hx rfl (by omega)
 exact Zo.of_set5 (B:=B) k s n line (hK.alloc _) (Nat.le_refl _) hr hg hrow hB (hrd.alloc _)
theorem zg8 (r g F:Nat) (σ:RS) (w:World) (q:Ex × RS) (h:zz r g σ w) (hq:yN (F+1) σ=some q) (hun:uF r g F) (hsi:qH r g F) (hex:yp r g F) :
  Calls Tryz.prog 170 #[.pointer (some ⟨r,0,none⟩)] w (Zo r g w q):=by
 obtain ⟨hr,hg⟩:=h.lt;have ct:=xO r g σ (w.alloc ZA) (h.alloc _);obtain ⟨t,ht⟩:∃t,t=zx σ.2:=⟨_,rfl⟩;rw [←ht] at ct;have HH:Hid (zz r g σ w):=h;have HQ:Hid (yN (F+1) σ=some q):=hq;have HUN:Hid (uF r g F):=hun;have HSI:Hid (qH r g F):=hsi;have HEX:Hid (yp r g F):=hex;have HT:Hid (t=zx σ.2):=ht;clear h hq hun hsi hex ht
 go_enter Tryz.func170,Tryz.ntmps170
 go_wp2_with fail
 refine ct.mono ?_;clear ct;rintro e w1 ⟨rfl,hb1⟩;obtain ⟨SB,hSB⟩:∃SB,SB=w1.heap.size:=⟨_,rfl⟩;have hsw:(w.alloc ZA).heap.size=w.heap.size+1:=by simp
 have hs1:=hb1.size
 have HJ0:Hid (zc r w (w1.alloc (Xm [[45],[33]]))∧zz r g σ (w1.alloc (Xm [[45],[33]]))∧(w1.alloc (Xm [[45],[33]])).heap[w.heap.size]?=some ZA∧(w1.alloc (Xm [[45],[33]])).heap[SB]?=some (Xm [[45],[33]])):=by
  refine ⟨(((zc.refl r w).alloc _).trans (zc.of hb1)).alloc _,((HH.out.alloc _).below hb1).alloc _,?_,?_⟩
  ·rw [Below.heap_alloc _ _ _ (by omega),hb1.block _ (by omega)]
   exact World.alloc_heap_new _ _
  ·rw [hSB];exact World.alloc_heap_new _ _
 have hSr:r≠SB:=by omega
 have hf3:=Z1;simp only [Xc];go_wp2_with fail
 rw [←hSB];clear hb1 HH hSB hs1 hsw
 go_loopw [5,12] (fun _ vi wr=>∃i:Nat,i≤2∧vi=.int .i64 (i:Int)∧(∀j,j<i→zO (sg2 j) σ=false)∧zc r w wr∧zz r g σ wr∧wr.heap[w.heap.size]?=some ZA∧wr.heap[SB]?=some (Xm [[45],[33]])) (fun _ vi _=>2-(intOf vi).toNat)
 case atStart=>exact ⟨0,by omega,rfl,fun j hj=>absurd hj (Nat.not_lt_zero _),HJ0.out⟩
 case round =>
  clear HJ0;obtain ⟨i,hi,rfl,hno,hkr,hR,hz,hst⟩:=hrel;have HKR:Hid (zc r w wr):=hkr;have HR:Hid (zz r g σ wr):=hR;have HZ:Hid (wr.heap[w.heap.size]?=some ZA):=hz;have HST:Hid (wr.heap[SB]?=some (Xm [[45],[33]])):=hst;have HNO:Hid (∀j,j<i→zO (sg2 j) σ=false):=hno;clear hno hkr hz
  by_cases hlt:i<2
  ·have hi1:(i:Int)<2:=by omega
   have c1:wr.cell? ⟨SB,i,none⟩=some (.string (za (sg2 i))):=by
    have h9:=QN hst i (by simpa using hlt)
    have hc:i=0∨i=1:=by omega
    rcases hc with rfl | rfl <;> exact h9
   have ct:=Zd r g σ (sg2 i) wr hR;clear hR hst;cases hs:zO (sg2 i) σ
   ·rw [hs] at ct
    have htk:y9 (sg2 i) σ=σ:=by unfold y9;rw [if_neg (by simp [hs])]
    rw [htk] at ct
    have HNX:Hid (∀j,j<i+1→zO (sg2 j) σ=false):=fun j hj=>by
     rcases Nat.lt_or_ge j i with h9 | h9
     ·exact HNO.out j h9
     ·obtain rfl:j=i:=by omega
      exact hs
    generalize sg2 i=s at *;go_wp2_with fail
    refine ct.mono ?_;clear ct c1;rintro e w1 ⟨rfl,hk1,hr1⟩
    have HJ:Hid (zc r w w1∧zz r g σ w1∧w1.heap[w.heap.size]?=some ZA∧w1.heap[SB]?=some (Xm [[45],[33]])) :=
     ⟨HKR.out.trans hk1,hr1,(hk1.block _ (Array.getElem?_eq_some_iff.1 HZ.out).1 (by omega)).trans HZ.out,(hk1.block _ (Array.getElem?_eq_some_iff.1 HST.out).1 (by omega)).trans HST.out⟩
    clear hk1 hr1 HKR HR HZ HST;go_wp2
    exact ⟨⟨i+1,by omega,by go_num,HNX.out,HJ.out⟩,by simp [intOf];omega⟩
   ·rw [hs] at ct
    have htk:y9 (sg2 i) σ=(false,σ.2.tail):=by unfold y9;rw [if_pos hs]
    rw [htk] at ct;obtain ⟨q',hq1,hq2⟩:=zb8 HQ.out hlt hs HNO.out;generalize sg2 i=s at *;rw [←HT.out] at hq2;subst hq2;go_wp2_with fail
    refine ct.mono ?_;clear ct c1;rintro e w1 ⟨rfl,hk1,hr1⟩;have cu:=HUN.out F (Nat.le_refl _) _ q' w1 hq1 hr1;go_wp2_with fail
    refine cu.mono ?_;clear cu;rintro e w7 ⟨hk7,v,rfl,hx7,hr7⟩;obtain ⟨a,b,c,d0,d1,d2,l,rfl⟩:=hx7.agg;have hsz:w.heap.size<wr.heap.size:=(Array.getElem?_eq_some_iff.1 HZ.out).1;have hs1:=hk1.size;have hs7:=hk7.size;have p7:w7.heap[w.heap.size]?=some ZA:=(hk7.block _ (by omega) (by omega)).trans ((hk1.block _ (by omega) (by omega)).trans HZ.out)
    have HP:Hid (Zo r g w (.mk 6 s 0 [q'.1] t.line,q'.2) (.returned (.agg #[.int .i64 6,.string (za s),.int .i64 0,.slice (some ⟨w7.heap.size,0,none⟩) 1 1,.int .i64 t.line])) (set5 (w7.alloc (.cells #[.int .i64 a,.string b,.int .i64 c,.slice d0 d1 d2,.int .i64 l] 45)) w.heap.size (.int .i64 6) (.string (za s)) (.int .i64 0) (.slice (some ⟨w7.heap.size,0,none⟩) 1 1) (.int .i64 t.line))) :=
     Zo.one 6 s 0 t.line ((HKR.out.trans hk1).trans hk7) hr hg hx7 (by omega) hs7 hr7
    obtain ⟨y0,y1,y2,y3,y4,yf⟩:=zo p7;have y0':=ze y0;have y1':=ze y1;have y2':=ze y2;have y3':=ze y3;have y4':=ze y4;have p7':=(fun ob=>(Below.heap_alloc w7 ob w.heap.size (by omega)).trans p7)
    have yf':=(fun ob j=>(zo (p7' ob)).2.2.2.2.2 j)
    obtain ⟨z0,z1,z2,z3,z4⟩:=zA (p7' (.cells #[.int .i64 a,.string b,.int .i64 c,.slice d0 d1 d2,.int .i64 l] 45)) (.int .i64 6) (.string (za s)) (.int .i64 0) (.slice (some ⟨w7.heap.size,0,none⟩) 1 1) (.int .i64 t.line);clear hk1 hr1 hk7 hx7 hr7 p7 p7' hsz hs1 hs7 HKR HR HZ HST HNO HUN HSI HEX hq1 HQ;go_wp2
    exact bodyPost_ret (v:=.agg #[.int .i64 6,.string (za s),.int .i64 0,.slice (some ⟨w7.heap.size,0,none⟩) 1 1,.int .i64 t.line]) (by simp [results,Tryz.results170,go_sem,z0,z1,z2,z3,z4]) rfl HP.out
  ·obtain rfl:i=2:=by omega
   obtain ⟨q1,hq1,hq2⟩:=zb9 HQ.out HNO.out;have c1:=HSI.out F (Nat.le_refl _) σ q1 wr hq1 hR;have HQ2:Hid (ZC F q1.1 q1.2=some q):=hq2;clear hR hst hq1 hq2 HQ HNO HUN HSI;go_wp2_with fail
   refine c1.mono ?_;clear c1;rintro e w1 ⟨hk1,v,rfl,hx,hrd⟩;obtain ⟨a,b,c,d0,d1,d2,l,rfl⟩:=hx.agg;have hsz:w.heap.size<wr.heap.size:=(Array.getElem?_eq_some_iff.1 HZ.out).1
   have HJ:Hid (v7 r g w1.heap.size F w q (fun f e σ=>ZC f e σ) (w1.alloc (.cells #[.int .i64 a,.string b,.int .i64 c,.slice d0 d1 d2,.int .i64 l] 45))) :=
    ⟨q1.1,q1.2,F,a,b,c,d0,d1,d2,l,Nat.le_refl _,HQ2.out,Yp.start hsz HZ.out HKR.out hr hk1 hx hrd⟩
   have hNw:w.heap.size<w1.heap.size:=by have:=hk1.size;omega
   obtain ⟨N,hNe⟩:∃N,N=w1.heap.size:=⟨_,rfl⟩;rw [←hNe] at HJ hNw;clear hx hrd hk1 HQ2 hsz HKR HR HZ HST;go_wp2_with fail
   rw [←hNe];generalize hW0:w1.alloc (.cells #[.int .i64 a,.string b,.int .i64 c,.slice d0 d1 d2,.int .i64 l] 45)=W0 at *;clear hW0 hNe
   go_loopw [34] (fun _ wr=>v7 r g N F w q (fun f e σ=>ZC f e σ) wr) (fun _ wr=>Z8 r wr)
   case atStart=>exact HJ.out
   case round =>
    clear HJ;obtain ⟨e,σ2,f2,a2,b2,c2,p2,q2,s2,l2,hf2,hT,hC⟩:=hrel;obtain rfl:l2=(e.line:Int):=hC.ex.line_eq;obtain ⟨bd,ts⟩:=σ2;have HC:Hid (Yp r g N w e (bd,ts) a2 b2 c2 p2 q2 s2 (e.line:Int) wr):=hC;have HLEFT:Hid (Z8 r wr=ts.length):=hC.rd.left
    obtain ⟨f3,rfl⟩:∃f3,f2=f3+1:=by
     cases f2 with
     | zero=>simp [ZC] at hT
     | succ f3=>exact ⟨f3,rfl⟩
    replace hT:ZC (f3+1) e (bd,ts)=some q:=hT;rw [ZC] at hT
    have HEND:Hid (zO [91] (bd,ts)=false→zO [46] (bd,ts)=false→∀W,zc r wr W→zz r g (bd,ts) W→W.heap[N]?=some (.cells #[.int .i64 a2,.string b2,.int .i64 c2,.slice p2 q2 s2,.int .i64 (e.line:Int)] 45 (0,0))∧W.heap[w.heap.size]?=some ZA ∧
      Zo r g w q (.returned (.agg #[.int .i64 a2,.string b2,.int .i64 c2,.slice p2 q2 s2,.int .i64 (e.line:Int)])) (set5 W w.heap.size (.int .i64 a2) (.string b2) (.int .i64 c2) (.slice p2 q2 s2) (.int .i64 (e.line:Int)))):=by
     intro h1 h2 W hK hR;rw [if_neg (by simp [h1]),if_neg (by simp [h2])] at hT
     obtain rfl:=Option.some.inj hT;exact HC.out.leave hr hg hNw hK hR
    have hRd:=hC.rd;obtain ⟨pp,cap,TS,hb⟩:=hC.rd;obtain ⟨m0,m1,m2,mf⟩:=ZN hb.blk;clear hb hC;cases bd
    ·have cs:=Zd r g (false,ts) [91] wr hRd
     clear hRd;cases hi:zO [91] (false,ts)
     ·rw [hi] at cs
      have htk:y9 [91] (false,ts)=(false,ts):=by unfold y9;rw [if_neg (by simp [hi])]
      rw [htk] at cs;rw [if_neg (by simp [hi])] at hT
      go_wp2_with fail
      refine cs.mono ?_;clear cs m0 m1 m2 mf;rintro e' wB ⟨rfl,hkB,hrB⟩;have cd:=Zd r g (false,ts) [46] wB hrB;have HKB:Hid (zc r wr wB):=hkB;clear hkB hrB;cases hd:zO [46] (false,ts)
      ·rw [hd] at cd
       have htk:y9 [46] (false,ts)=(false,ts):=by unfold y9;rw [if_neg (by simp [hd])]
       rw [htk] at cd;go_wp2_with fail
       refine cd.mono ?_;clear cd;rintro e' wC ⟨rfl,hkC,hrC⟩;obtain ⟨pN,pz,hpo⟩:=HEND.out hi hd wC (HKB.out.trans hkC) hrC;obtain ⟨n0,n1,n2,n3,n4,nf⟩:=zo pN;obtain ⟨z0',z1',z2',z3',z4',zf⟩:=zo pz;obtain ⟨z0,z1,z2,z3,z4⟩:=zA pz (.int .i64 a2) (.string b2) (.int .i64 c2) (.slice p2 q2 s2) (.int .i64 (e.line:Int));have HPO:Hid (Zo r g w q (.returned (.agg #[.int .i64 a2,.string b2,.int .i64 c2,.slice p2 q2 s2,.int .i64 (e.line:Int)])) (set5 wC w.heap.size (.int .i64 a2) (.string b2) (.int .i64 c2) (.slice p2 q2 s2) (.int .i64 (e.line:Int)))):=hpo;clear hpo pN pz HEND HC HLEFT HEX;go_wp2
       exact bodyPost_ret (v:=.agg #[.int .i64 a2,.string b2,.int .i64 c2,.slice p2 q2 s2,.int .i64 (e.line:Int)]) (by simp [results,Tryz.results170,go_sem,z0,z1,z2,z3,z4]) rfl HPO.out
      ·rw [hd] at cd
       have htk:y9 [46] (false,ts)=(false,ts.tail):=by unfold y9;rw [if_pos hd]
       rw [htk] at cd;rw [if_pos hd] at hT;obtain ⟨-,hdk,hdk0⟩:=Yo hd;have hlt1:=yV hdk0;go_wp2_with fail
       refine cd.mono ?_;clear cd;rintro e' wE ⟨rfl,hkE,hrE⟩;have hkE':zc r wr wE:=HKB.out.trans hkE;have hCE:=HC.out.moved hr hNw hkE' hrE;have HKE:Hid (zc r wr wE):=hkE';have hNlt:N<wE.heap.size:=(Array.getElem?_eq_some_iff.1 hCE.blk).1;have HRE:Hid (zz r g (false,ts.tail) wE):=hrE;have HPN:Hid (wE.heap[N]?=some (.cells #[.int .i64 a2,.string b2,.int .i64 c2,.slice p2 q2 s2,.int .i64 (e.line:Int)] 45 (0,0))):=hCE.blk;obtain ⟨n0,n1,n2,n3,n4,nf⟩:=zo hCE.blk;have n0':=ze n0;have n1':=ze n1;have n2':=ze n2;have n3':=ze n3;have n4':=ze n4;have hnl:=Xd (false,ts.tail);obtain ⟨qn,hqn⟩:∃qn,qn=nameF (false,ts.tail):=⟨_,rfl⟩;rw [←hqn] at hT hnl
       have cu':∀W:World,zc r wE W→zz r g (false,ts.tail) W→Calls Tryz.prog 60 #[.pointer (some ⟨r,0,none⟩)] W fun e' w'=>e'=.returned (.string (za qn.1))∧w'.heap[N]?=some (.cells #[.int .i64 a2,.string b2,.int .i64 c2,.slice p2 q2 s2,.int .i64 (e.line:Int)] 45 (0,0))∧W.heap.size≤w'.heap.size∧Hid (zc r W w'∧zz r g qn.2 w'):=fun W hK hR=>(V3 r g (false,ts.tail) W hR).mono fun e' w' h=>by
        obtain ⟨h1,hk4,hrd⟩:=h;rw [hqn];exact ⟨h1,(hk4.block N (Nat.lt_of_lt_of_le hNlt hK.size) (by omega)).trans ((hK.block N hNlt (by omega)).trans HPN.out),hk4.size,hk4,hrd⟩
       have hl7:qn.2.2.length<Z8 r wr:=by rw [HLEFT.out];simp only at hnl hlt1;omega
       have HT:Hid (ZC f3 (.mk 9 qn.1 0 [e] e.line) qn.2=some q):=hT;have hf3:f3≤F:=by omega
       clear hCE hrE hkE hkE' HKB HEND HEX hT hqn hnl hlt1 hdk hdk0 hd htk hi;go_wp2_with fail
       go_region_with (go_at_call 60;refine (cu' _ (by first | exact zc.drew r wE | exact ((zc.refl r wE).alloc _).trans (zc.drew _ _)) (by first | exact HRE.out.keep rfl rfl | exact (HRE.out.alloc _).keep rfl rfl)).mono ?_;rintro e' w7 ⟨rfl,p7,hs7,H7⟩;have hN7:N<w7.heap.size:=(Array.getElem?_eq_some_iff.1 p7).1;have p7':=(fun ob=>(Below.heap_alloc w7 ob N hN7).trans p7);obtain ⟨m0,m1,m2,m3,m4,mf⟩:=zo p7;have m0':=ze m0;have m1':=ze m1;have m2':=ze m2;have m3':=ze m3;have m4':=ze m4;have mf':=(fun ob j=>(zo (p7' ob)).2.2.2.2.2 j))
       all_goals (obtain ⟨hk7d,hrd7⟩:=H7.out)
       all_goals first
        | (have hk7:zc r wE w7:=(zc.drew r wE).trans hk7d
           obtain ⟨W,hW⟩:∃W,W=(set5 w7 N (.int .i64 9) (.string (za qn.1)) (.int .i64 0) (.slice (some ⟨w7.heap.size,0,none⟩) 1 1) (.int .i64 (e.line:Int))).alloc (.cells #[.int .i64 a2,.string b2,.int .i64 c2,.slice p2 q2 s2,.int .i64 (e.line:Int)] 45):=⟨_,rfl⟩;have hCW:=Yp.one 9 qn.1 HC.out hr hg hNw (HKE.out.trans hk7) hrd7 (.int .i64 9) rfl W hW;have HJW:Hid (v7 r g N F w q (fun f e σ=>ZC f e σ) W∧Z8 r W<Z8 r wr):=show _∧_<_ from ⟨⟨_,_,f3,_,_,_,_,_,_,_,hf3,HT.out,hCW⟩,by rw [hCW.rd.left];exact hl7⟩
           change Exit.inBlock _ _ _ _ ((set5 w7 N (.int .i64 9) (.string (za qn.1)) (.int .i64 0) (.slice (some ⟨w7.heap.size,0,none⟩) 1 1) (.int .i64 (e.line:Int))).alloc (.cells #[.int .i64 a2,.string b2,.int .i64 c2,.slice p2 q2 s2,.int .i64 (e.line:Int)] 45))
           rw [←hW];clear hW hCW hrd7 hk7 hk7d p7 p7' m0 m1 m2 m3 m4 mf m0' m1' m2' m3' m4' mf' n0 n1 n2 n3 n4 nf n0' n1' n2' n3' n4' cu' H7 HPN HT HKE HC hl7 HRE;go_wp2
           exact HJW.out)
        | (have hk7:zc r (wE.alloc (.cells #[.int .i64 a2,.string b2,.int .i64 c2,.slice p2 q2 s2,.int .i64 (e.line:Int)] 45)) w7:=(zc.drew r (wE.alloc (.cells #[.int .i64 a2,.string b2,.int .i64 c2,.slice p2 q2 s2,.int .i64 (e.line:Int)] 45))).trans hk7d
           obtain ⟨W,hW⟩:∃W,W=set5 w7 N (.int .i64 9) (.string (za qn.1)) (.int .i64 0) (.slice (some ⟨wE.heap.size,0,none⟩) 1 1) (.int .i64 (e.line:Int)):=⟨_,rfl⟩;have hCW:=Yp.one' wE 9 qn.1 HC.out hr hg hNw HKE.out hk7 hrd7 (.int .i64 9) rfl W hW;have HJW:Hid (v7 r g N F w q (fun f e σ=>ZC f e σ) W∧Z8 r W<Z8 r wr):=show _∧_<_ from ⟨⟨_,_,f3,_,_,_,_,_,_,_,hf3,HT.out,hCW⟩,by rw [hCW.rd.left];exact hl7⟩
           change Exit.inBlock _ _ _ _ (set5 w7 N (.int .i64 9) (.string (za qn.1)) (.int .i64 0) (.slice (some ⟨wE.heap.size,0,none⟩) 1 1) (.int .i64 (e.line:Int)))
           rw [←hW];clear hW hCW hrd7 hk7 hk7d p7 p7' m0 m1 m2 m3 m4 mf m0' m1' m2' m3' m4' mf' n0 n1 n2 n3 n4 nf n0' n1' n2' n3' n4' cu' H7 HPN HT HKE HC hl7 HRE;go_wp2
           exact HJW.out)
     ·rw [hi] at cs
      have htk:y9 [91] (false,ts)=(false,ts.tail):=by unfold y9;rw [if_pos hi]
      rw [htk] at cs;rw [if_pos hi] at hT;obtain ⟨-,hdk,hdk0⟩:=Yo hi;have hlt1:=yV hdk0;go_wp2_with fail
      refine cs.mono ?_;clear cs m0 m1 m2 mf;rintro e' wE ⟨rfl,hkE,hrE⟩;have hCE:=HC.out.moved hr hNw hkE hrE;have HKE:Hid (zc r wr wE):=hkE;have hNlt:N<wE.heap.size:=(Array.getElem?_eq_some_iff.1 hCE.blk).1;have HPN:Hid (wE.heap[N]?=some (.cells #[.int .i64 a2,.string b2,.int .i64 c2,.slice p2 q2 s2,.int .i64 (e.line:Int)] 45 (0,0))):=hCE.blk;obtain ⟨n0,n1,n2,n3,n4,nf⟩:=zo hCE.blk;obtain ⟨q3,hq3,hq4⟩:=Option.bind_eq_some_iff.1 hT;have hq3l:=(uB f3).1 _ _ _ hq3
      have cb:∀W:World,W.heap=wE.heap→W.os=wE.os→W.tape=wE.tape→W.output=wE.output→Calls Tryz.prog 139 #[.pointer (some ⟨r,0,none⟩),.int .i64 0] W fun e' w'=>∃(a3:Int) (b3:ByteArray) (c3:Int) (u0:Option Addr) (u1 u2:Nat) (l3:Int),e'=.returned (.agg #[.int .i64 a3,.string b3,.int .i64 c3,.slice u0 u1 u2,.int .i64 l3]) ∧
        w'.heap[N]?=some (.cells #[.int .i64 a2,.string b2,.int .i64 c2,.slice p2 q2 s2,.int .i64 (e.line:Int)] 45 (0,0))∧Hid (zc r wE w'∧ZO wE.heap.size w' q3.1 (.agg #[.int .i64 a3,.string b3,.int .i64 c3,.slice u0 u1 u2,.int .i64 l3])∧zz r g q3.2 w'):=fun W e1 e2 e3 e4=>by
       refine (show Calls Tryz.prog 139 #[.pointer (some ⟨r,0,none⟩),.int .i64 0] W _ from HEX.out f3 (by omega) 0 _ q3 W (by omega) hq3 (hrE.as e1)).mono ?_
       rintro e' w' ⟨hk,v,rfl,hx,hrd⟩;obtain ⟨a3,b3,c3,u0,u1,u2,l3,rfl⟩:=hx.agg;have hk4:=hk.as e1 e2 e3 e4;rw [e1] at hx;exact ⟨a3,b3,c3,u0,u1,u2,l3,rfl,(hk4.block N hNlt (by omega)).trans HPN.out,hk4,hx,hrd⟩
      have hl7:q3.2.2.length<Z8 r wr:=by rw [HLEFT.out];simp only at hq3l hlt1;omega
      have HT:Hid (ZC f3 (.mk 8 [] 0 [e,q3.1] e.line) (mustF [93] q3.2)=some q):=hq4;have hf3:f3≤F:=by omega
      have HRE:Hid (zz r g (false,ts.tail) wE):=hrE;clear hCE hrE hkE HEND hT hq3 hq4 hq3l hlt1 hdk hdk0 hi htk;go_wp2_with fail
      go_cut [] from 28 to 55 (fun wx=>v7 r g N F w q (fun f e σ=>ZC f e (mustF [93] σ)) wx∧Z8 r wx<Z8 r wr)
      case first =>
       clear HEX
       go_region_with (go_at_call 139;refine (cb _ (by rfl) (by rfl) (by rfl) (by rfl)).mono ?_;rintro e' w7 ⟨a3,b3,c3,u0,u1,u2,l3,rfl,p7,H7⟩;have hN7:N<w7.heap.size:=(Array.getElem?_eq_some_iff.1 p7).1;have p7':=(fun ob=>(Below.heap_alloc w7 ob N hN7).trans p7);obtain ⟨m0,m1,m2,m3,m4,mf⟩:=zo p7;have m0':=ze m0;have m1':=ze m1;have m2':=ze m2;have m3':=ze m3;have m4':=ze m4;have mf':=(fun ob j=>(zo (p7' ob)).2.2.2.2.2 j))
       all_goals
        obtain ⟨hk7,hx7,hrd7⟩:=H7.out;obtain ⟨W,hW⟩:∃W,W=(set5 w7 N (.int .i64 8) (.string ⟨#[]⟩) (.int .i64 0) (.slice (some ⟨w7.heap.size,0,none⟩) 2 2) (.int .i64 (e.line:Int))).alloc (.cells #[.int .i64 a2,.string b2,.int .i64 c2,.slice p2 q2 s2,.int .i64 (e.line:Int),.int .i64 a3,.string b3,.int .i64 c3,.slice u0 u1 u2,.int .i64 l3] 45):=⟨_,rfl⟩;have hCW:=Yp.two 8 [] HC.out hr hg hNw HKE.out hk7 hx7 hrd7 (.int .i64 8) rfl W hW;have HJW:Hid (v7 r g N F w q (fun f e σ=>ZC f e (mustF [93] σ)) W∧Z8 r W<Z8 r wr):=show _∧_<_ from ⟨⟨_,_,f3,_,_,_,_,_,_,_,hf3,HT.out,hCW⟩,by rw [hCW.rd.left];exact hl7⟩
        change Exit.then _ _ _ _ ((set5 w7 N (.int .i64 8) (.string ⟨#[]⟩) (.int .i64 0) (.slice (some ⟨w7.heap.size,0,none⟩) 2 2) (.int .i64 (e.line:Int))).alloc (.cells #[.int .i64 a2,.string b2,.int .i64 c2,.slice p2 q2 s2,.int .i64 (e.line:Int),.int .i64 a3,.string b3,.int .i64 c3,.slice u0 u1 u2,.int .i64 l3] 45))
        rw [←hW];clear hW hCW hrd7 hx7 hk7 p7 p7' m0 m1 m2 m3 m4 mf m0' m1' m2' m3' m4' mf' n0 n1 n2 n3 n4 nf cb H7 HPN HT HKE HC hl7;go_wp2_with fail
        go_meet
        exact HJW.out
      case rest =>
       obtain ⟨⟨e5,σ5,f5,a5,b5,c5,p5,q5,s5,l5,hf5,hT5,hC5⟩,hlt⟩:=hcut;have cn:=yD r g σ5 [93] wc hC5.rd
       have HMV:Hid (∀W,zc r wc W→zz r g (mustF [93] σ5) W→v7 r g N F w q (fun f e σ=>ZC f e σ) W∧Z8 r W<Z8 r wr):=fun W hK hR =>
        ⟨⟨e5,_,f5,a5,b5,c5,p5,q5,s5,l5,hf5,hT5,hC5.moved hr hNw hK hR⟩,by rw [hR.left];have h1:=yG [93] σ5;rw [hC5.rd.left] at hlt;omega⟩
       clear hT5 hC5 hlt cb HT HKE HC HPN n0 n1 n2 n3 n4 nf HEX;go_wp2_with fail
       refine cn.mono ?_;clear cn;rintro e9 w9 ⟨rfl,hk9,hr9⟩;have HM9:Hid (v7 r g N F w q (fun f e σ=>ZC f e σ) w9∧Z8 r w9<Z8 r wr):=HMV.out w9 hk9 hr9
       clear HMV hk9 hr9;go_wp2
       exact HM9.out
    ·obtain ⟨pN,pz,hpo⟩:=HEND.out (by simp [zO]) (by simp [zO]) wr (zc.refl _ _) hRd
     obtain ⟨n0,n1,n2,n3,n4,nf⟩:=zo pN;obtain ⟨z0',z1',z2',z3',z4',zf⟩:=zo pz;obtain ⟨z0,z1,z2,z3,z4⟩:=zA pz (.int .i64 a2) (.string b2) (.int .i64 c2) (.slice p2 q2 s2) (.int .i64 (e.line:Int));have HPO:Hid (Zo r g w q (.returned (.agg #[.int .i64 a2,.string b2,.int .i64 c2,.slice p2 q2 s2,.int .i64 (e.line:Int)])) (set5 wr w.heap.size (.int .i64 a2) (.string b2) (.int .i64 c2) (.slice p2 q2 s2) (.int .i64 (e.line:Int)))):=hpo;clear hpo pN pz HEND HC HLEFT HEX;go_wp2
     exact bodyPost_ret (v:=.agg #[.int .i64 a2,.string b2,.int .i64 c2,.slice p2 q2 s2,.int .i64 (e.line:Int)]) (by simp [results,Tryz.results170,go_sem,z0,z1,z2,z3,z4]) rfl HPO.out
end Go.Proofs.YtpejpbbdgblbeaaGreatDoor
