import Derived.Test.YtbjndgachcdbcaaGreatDoorMC9
import Derived.Laws.MakeOwn
namespace Go.Proofs.YtbjndgachcdbcaaGreatDoor
open Go.RowKit Go.Shelf
set_option maxHeartbeats 16000000
set_option maxRecDepth 100000
theorem Xk:(Tryz.prog.info? 56).map (fun i=>(i.zero,i.size,i.bytes))=some (some (.agg #[.int .i64 0,.int .i64 0,.string ⟨#[]⟩]),3,32):=by kernel_rfl
theorem VQ:(Tryz.prog.info? 92).map (fun i=>(i.zero,i.size,i.bytes))=some (some (.agg #[.string ⟨#[]⟩,.int .i64 0,.int .i64 0]),3,32):=by kernel_rfl
theorem XY (v:Vl) (n:Int) (w:World) (hv:zq v) (ht:zD w) :
  Calls Tryz.prog 33 #[uD v,.int .i64 n] w fun e w'=>e=.returned (.bool (ZZ v n))∧Below w.heap.size w w':=by
 have B:Hid (ZZ v n=(decide (v.k≠0)&&rightV v n)):=rfl;have c:=fun wx (h:zD wx)=>yX v n wx hv h
 obtain ⟨k,m,s⟩:=v;obtain ⟨w1,o⟩:∃w1,w1=w.alloc (.cells #[.int .i64 k,.int .i64 m,.string (za s)] 56):=⟨_,rfl⟩;have q:Below w.heap.size w w1:=by rw [o];exact (Below.refl _ w).alloc (Nat.le_refl _) _
 have G:w1.heap.size=w.heap.size+1:=by rw [o];simp
 have A:=c w1 (ht.below q (Nat.le_refl _));have z:Hid (Below w.heap.size w w1):=q;rw [o] at A;clear c q ht
 by_cases h0:k=0
 ·subst h0
  clear A
  go_enter Tryz.func33,Tryz.ntmps33
  go_wp2
  go_ret
  rw [B.out,←o];exact ⟨rfl,z.out⟩
 ·have E:(k != 0)=true:=by rw [bne_iff_ne];exact h0
  have D:Hid (decide (k≠0)=true):=decide_eq_true h0;generalize rightV ⟨k,m,s⟩ n=b at *
  go_enter Tryz.func33,Tryz.ntmps33
  go_wp2_with fail
  refine A.mono ?_;clear A;rw [←o];rintro e F ⟨rfl,y⟩;have u:Hid (Below w.heap.size w F):=z.out.trans (y.mono (by omega))
  clear y o;cases b with
  | true =>
   rw [show zE true=0 from rfl]
   go_wp2
   go_ret
   rw [B.out,D.out];exact ⟨rfl,u.out⟩
  | false =>
   rw [show zE false=2 from rfl]
   go_wp2
   go_ret
   rw [B.out,D.out];exact ⟨rfl,u.out⟩
theorem YF {l:List Vl} {f:Vl→Bool} {i:Nat} (h:i<l.length) (hf:f l[i]=false):l.all f=false:=by
 rw [List.all_eq_false];exact ⟨l[i],List.getElem_mem h,by simp [hf]⟩
theorem Vc (S:Nat→Prop) (o:Ob) (vc:Value) (n:Int) (w:World) (hv:zp S w vc o.2) (ho:Zf o) (hl:o.2.length≤1048576) (ht:zD w) :
  Calls Tryz.prog 19 #[.agg #[.string (za o.1),vc],.int .i64 n] w fun e w'=>e=.returned (.bool (XX o n))∧Below w.heap.size w w':=by
 obtain ⟨m,l⟩:=o;obtain ⟨X,H⟩:=ho;simp only at X H hl hv;have HR:Hid (XX (m,l) n=(l.all (fun v=>ZZ v n)&&VP m)):=rfl
 have HS:Hid (∀v∈l,zq v):=H;have HV:Hid (zp S w vc l):=hv;obtain ⟨base,Z,rfl,ag,af,R⟩:=hv.at;have ad:Hid (∀i (hi:i<l.length),∃b o,base=some ⟨b,o,none⟩∧S b∧b<w.heap.size∧w.cell? ⟨b,o+i*3,none⟩=some (.int .i64 (l[i]).k)∧w.cell? ⟨b,o+i*3+1,none⟩=some (.int .i64 (l[i]).n)∧w.cell? ⟨b,o+i*3+2,none⟩=some (.string (za (l[i]).s))):=R;obtain ⟨w1,A⟩:∃w1,w1=w.alloc (.cells #[.string (za m),.slice base l.length Z] 49):=⟨_,rfl⟩;have G:Below w.heap.size w w1:=by rw [A];exact (Below.refl _ w).alloc (Nat.le_refl _) _
 have ah:w1.heap.size=w.heap.size+1:=by rw [A];simp
 have O:w1.cell? ⟨w.heap.size,0,none⟩=some (.string (za m)):=by rw [A];simp
 have HT:Hid (zD w1):=ht.below G (Nat.le_refl _);have u:Hid (Below w.heap.size w w1):=G;have aa:Hid (w1.cell? ⟨w.heap.size,0,none⟩=some (.string (za m))):=O;clear G ht R hv H O
 go_enter Tryz.func19,Tryz.ntmps19
 go_wp2
 rw [←A];clear A
 go_loopw [10] (fun vi wr=>∃i:Nat,i≤l.length∧vi=.int .i64 i∧(∀j (h:j<l.length),j<i→ZZ l[j] n=true)∧Below w1.heap.size w1 wr) (fun vi _=>l.length-(intOf vi).toNat)
 case atStart=>exact ⟨0,Nat.zero_le _,rfl,fun j _ h=>by omega,Below.refl _ _⟩
 case round =>
  obtain ⟨i,hi,rfl,D,I⟩:=hrel;have HA:Hid (∀j (h:j<l.length),j<i→ZZ l[j] n=true):=D;have B:Hid (Below w1.heap.size w1 wr):=I;have V:=I.size;clear D I
  by_cases hlt:i<l.length
  ·obtain ⟨b,o,rfl,-,E,q0,q1,q2⟩:=ad.out i hlt
   have ab:(i:Int)<l.length:=by omega
   have r0:=(zb B.out (by omega)).trans ((zb u.out E).trans q0)
   have r1:=(zb B.out (by omega)).trans ((zb u.out E).trans q1)
   have r2:=(zb B.out (by omega)).trans ((zb u.out E).trans q2)
   obtain ⟨x,U⟩:∃x,x=l[i]:=⟨_,rfl⟩;have J:=HS.out l[i] (List.getElem_mem hlt);have HX:Hid (x=l[i]):=U;rw [←U] at r0 r1 r2 J;obtain ⟨w2,y⟩:∃w2,w2=wr.alloc (.cells #[.int .i64 x.k,.int .i64 x.n,.string (za x.s)] 56):=⟨_,rfl⟩;have F:Below w1.heap.size w1 w2:=by rw [y];exact B.out.alloc V _
   have ae:w2.heap.size=wr.heap.size+1:=by rw [y];simp
   have c:=XY x n w2 J (HT.out.below F (Nat.le_refl _));have W:Hid (Below w1.heap.size w1 w2):=F;rw [y] at c;clear F q0 q1 q2 U J B;cases hc:ZZ x n with
   | true =>
    rw [hc] at c;have M:Hid (ZZ x n=true):=hc;clear hc;go_wp2_with fail
    refine c.mono ?_;clear c;rw [←y];rintro e T ⟨rfl,q⟩;have z:Hid (Below w1.heap.size w1 T):=W.out.trans (q.mono (by omega))
    clear q;go_wp2
    refine ⟨⟨i+1,by omega,by go_num,fun j Y hji=>?_,z.out⟩,by simp [intOf];omega⟩
    by_cases h:j<i
    ·exact HA.out j Y h
    ·obtain rfl:j=i:=by omega
     rw [←HX.out];exact M.out
   | false =>
    rw [hc] at c;have M:Hid (l.all (fun v=>ZZ v n)=false):=YF hlt (by rw [←HX.out];exact hc)
    clear hc;go_wp2_with fail
    refine c.mono ?_;clear c;rw [←y];rintro e T ⟨rfl,q⟩;have z:Hid (Below w.heap.size w T):=u.out.trans ((W.out.trans (q.mono (by omega))).mono (by omega))
    clear q;go_wp2
    go_ret
    rw [HR.out,M.out];exact ⟨rfl,z.out⟩
  ·obtain rfl:i=l.length:=by omega
   have ab:¬ (l.length:Int)<l.length:=by omega
   have M:Hid (l.all (fun v=>ZZ v n)=true):=show _=_ by
    rw [List.all_eq_true];intro x U;obtain ⟨j,Y,rfl⟩:=List.getElem_of_mem U;exact HA.out j Y Y
   have r0:=(zb B.out (by omega)).trans aa.out
   by_cases htn:m=[]
   ·subst htn
    have K:Hid (VP []=true):=rfl;go_wp2
    go_ret
    rw [HR.out,M.out,K.out];exact ⟨rfl,u.out.trans (B.out.mono (by omega))⟩
   ·have c:=yu 1 m wr X (HT.out.below B.out (Nat.le_refl _))
    have K:Hid (VP m=decide (Zs 1 0 m)):=show _=_ by simp [VP,htn]
    generalize decide (Zs 1 0 m)=b at *;obtain ⟨a,t,rfl⟩:=List.exists_cons_of_ne_nil htn;go_wp2_with fail
    refine c.mono ?_;clear c;rintro e T ⟨rfl,q⟩;have z:Hid (Below w.heap.size w T):=u.out.trans ((B.out.trans (q.mono (by omega))).mono (by omega))
    clear q;go_wp2
    go_ret
    rw [HR.out,M.out,K.out];exact ⟨rfl,z.out⟩
theorem zj {w:World} {N j:Nat} {c:Array Value} {ty:TypeId} {fr:Nat × Nat} (v:Value) (h:w.heap[N]?=some (.cells c ty fr)):(w.setCell ⟨N,j,none⟩ v).heap[N]?=some (.cells (c.setIfInBounds j v) ty fr):=by
 unfold World.setCell
 simp [Array.getElem?_modify,h]
theorem zr {w:World} {N:Nat} {x0 x1 x2:Value} {ty:TypeId} (h:w.heap[N]?=some (.cells #[x0,x1,x2] ty (0,0))) :
  w.cell? ⟨N,0,none⟩=some x0∧w.cell? ⟨N,1,none⟩=some x1∧w.cell? ⟨N,2,none⟩=some x2∧∀j,w.frozen? ⟨N,j,none⟩=false:=by
 refine ⟨?_,?_,?_,fun j=>?_⟩
 ·simp only [World.cell?,h];rfl
 ·simp only [World.cell?,h];rfl
 ·simp only [World.cell?,h];rfl
 ·simp only [World.frozen?,h];simp
theorem yK {w:World} {N:Nat} {x0 x1:Value} {ty:TypeId} (h:w.heap[N]?=some (.cells #[x0,x1] ty (0,0))) :
  w.cell? ⟨N,0,none⟩=some x0∧w.cell? ⟨N,1,none⟩=some x1∧∀j,w.frozen? ⟨N,j,none⟩=false:=by
 refine ⟨?_,?_,fun j=>?_⟩
 ·simp only [World.cell?,h];rfl
 ·simp only [World.cell?,h];rfl
 ·simp only [World.frozen?,h];simp
theorem VR (v:Vl) (w:World) (hv:v.s.length≤1048576) :
  Calls Tryz.prog 43 #[uD v] w fun e w'=>e=.returned (uD v)∧Below w.heap.size w w':=by
 obtain ⟨k,m,s⟩:=v;simp only at hv;obtain ⟨w2,b⟩:∃w2,w2=(w.alloc (.cells #[.int .i64 k,.int .i64 m,.string (za s)] 56)).alloc (.cells #[.int .i64 0,.int .i64 0,.string ⟨#[]⟩] 56):=⟨_,rfl⟩;have u:Below w.heap.size w w2:=by rw [b];exact ((Below.refl _ w).alloc (Nat.le_refl _) _).alloc (by simp) _
 have R:w2.heap.size=w.heap.size+2:=by rw [b];simp
 have M:w2.heap[w.heap.size]?=some (.cells #[.int .i64 k,.int .i64 m,.string (za s)] 56 (0,0)):=by rw [b,Below.heap_alloc _ _ _ (by simp)];exact World.alloc_heap_new _ _
 have H:w2.heap[w.heap.size+1]?=some (.cells #[.int .i64 0,.int .i64 0,.string ⟨#[]⟩] 56 (0,0)):=by
  rw [b]
  have:=World.alloc_heap_new (w.alloc (.cells #[.int .i64 k,.int .i64 m,.string (za s)] 56)) (.cells #[.int .i64 0,.int .i64 0,.string ⟨#[]⟩] 56)
  simpa using this
 have c:=yT s w2 (by omega)
 have E:Hid (Below w.heap.size w w2):=u;rw [b] at c;clear u
 go_enter Tryz.func43,Tryz.ntmps43
 go_wp2_with fail
 refine c.mono ?_;clear c;rw [←b];rintro e J ⟨rfl,o⟩;have B:=(o.block w.heap.size (by omega)).trans M
 have O:=(o.block (w.heap.size+1) (by omega)).trans H
 have D:Hid (Below w.heap.size w J):=E.out.trans (o.mono (by omega))
 obtain ⟨q,h⟩:∃q,q=J.setCell ⟨w.heap.size,2,none⟩ (.string (za s)):=⟨_,rfl⟩;have F:q.heap[w.heap.size]?=some (.cells #[.int .i64 k,.int .i64 m,.string (za s)] 56 (0,0)):=by rw [h];exact zj _ B
 have A:q.heap[w.heap.size+1]?=some (.cells #[.int .i64 0,.int .i64 0,.string ⟨#[]⟩] 56 (0,0)):=by rw [h,Below.heap_setCell _ _ _ _ (by simp)];exact O
 have y:Hid (Below w.heap.size w q):=show Below _ _ _ by rw [h];exact D.out.setCell (by simp) _
 have G:=zj (j:=2) (.string (za s)) (zj (j:=1) (.int .i64 m) (zj (j:=0) (.int .i64 k) A));obtain ⟨U,W,V,-⟩:=zr (x0:=.int .i64 k) (x1:=.int .i64 m) (x2:=.string (za s)) G;have z:Hid (Below w.heap.size w (((q.setCell ⟨w.heap.size+1,0,none⟩ (.int .i64 k)).setCell ⟨w.heap.size+1,1,none⟩ (.int .i64 m)).setCell ⟨w.heap.size+1,2,none⟩ (.string (za s)))):=((y.out.setCell (by simp) _).setCell (by simp) _).setCell (by simp) _
 obtain ⟨-,-,r2,I⟩:=zr B;obtain ⟨q0,q1,q2,-⟩:=zr F;obtain ⟨Z,p1,X,Y⟩:=zr A;have T:=I 2;have K:=h.symm;clear o b B O F A M H G h I;go_wp2
 exact bodyPost_ret (v:=.agg #[.int .i64 k,.int .i64 m,.string (za s)]) (by simp [results,Tryz.results43,go_sem,U,W,V]) rfl ⟨rfl,z.out⟩
theorem Xl (S:Nat→Prop) (l:List Vl) (vl:Value) (w:World) (hv:zp S w vl l) (hs:∀v∈l,zq v) (hl:l.length≤1048576) :
  Calls Tryz.prog 34 #[vl] w fun e w'=>∃g B,e=.returned (.slice (some ⟨g,0,none⟩) l.length B)∧w'.ownsRow w.heap.size 56 3 (.slice (some ⟨g,0,none⟩) l.length B) l.length (vlC l)∧Below w.heap.size w w':=by
 obtain ⟨i0,W,O,Y,K⟩:=info_parts Xk;have HS:Hid (∀v∈l,zq v):=hs;obtain ⟨base,B,rfl,al,ak,D⟩:=hv.at;have ag:Hid (∀i (hi:i<l.length),∃b o,base=some ⟨b,o,none⟩∧S b∧b<w.heap.size∧w.cell? ⟨b,o+i*3,none⟩=some (.int .i64 (l[i]).k)∧w.cell? ⟨b,o+i*3+1,none⟩=some (.int .i64 (l[i]).n)∧w.cell? ⟨b,o+i*3+2,none⟩=some (.string (za (l[i]).s))):=D;obtain ⟨w1,ad,u,U⟩:=run_make_own (P:=Tryz.prog) w w.heap.size 47 56 i0 _ 3 Tryz.underlying47 W O Y .i64 .i64 l.length (by rw [K];omega) (by unfold maxLen;omega) (Nat.le_refl _)
 have aa:Hid (w1.ownsRow w.heap.size 56 3 (.slice (some ⟨w.heap.size,0,none⟩) 0 l.length) 0 []):=u;have ah:Hid (Below w.heap.size w w1):=(Below.refl _ w).grown U (Nat.le_refl _) (fun k h=>by cases h)
 clear hs hv D u U
 go_enter Tryz.func34,Tryz.ntmps34
 go_wp2
 go_loopw [3,11] (fun vb vi wr=>∃(i g J:Nat),i≤l.length∧vi=.int .i64 i∧vb=.slice (some ⟨g,0,none⟩) i J∧wr.ownsRow w.heap.size 56 3 vb i (vlC (l.take i))∧Below w.heap.size w wr) (fun _ vi _=>l.length-(intOf vi).toNat)
 case atStart=>exact ⟨0,_,_,Nat.zero_le _,rfl,rfl,aa.out,ah.out⟩
 case round =>
  obtain ⟨i,g,J,hi,rfl,rfl,z,E⟩:=hrel;have HO:Hid (wr.ownsRow w.heap.size 56 3 (.slice (some ⟨g,0,none⟩) i J) i (vlC (l.take i))):=z;have I:Hid (Below w.heap.size w wr):=E;have X:=E.size;clear z E ad
  by_cases hlt:i<l.length
  ·obtain ⟨b,o,rfl,-,A,q0,q1,q2⟩:=ag.out i hlt
   have ae:(i:Int)<l.length:=by omega
   have r0:=(zb I.out A).trans q0;have r1:=(zb I.out A).trans q1;have r2:=(zb I.out A).trans q2;obtain ⟨x,hx⟩:∃x,x=l[i]:=⟨_,rfl⟩;have F:=HS.out l[i] (List.getElem_mem hlt);have HX:Hid (vlC (l.take (i+1))=vlC (l.take i)++Y1 x):=show _=_ by rw [List.take_succ_eq_append_getElem hlt,xK,vI,hx]
   rw [←hx] at r0 r1 r2 F;obtain ⟨w2,m⟩:∃w2,w2=wr.alloc (.cells #[.int .i64 x.k,.int .i64 x.n,.string (za x.s)] 56):=⟨_,rfl⟩;have M:Below w.heap.size w w2:=by rw [m];exact I.out.alloc X _
   have ai:w2.heap.size=wr.heap.size+1:=by rw [m];simp
   have V:Hid (w2.ownsRow w.heap.size 56 3 (.slice (some ⟨g,0,none⟩) i J) i (vlC (l.take i))):=show World.ownsRow _ _ _ _ _ _ _ by rw [m];exact HO.out.alloc _
   have c:=VR x w2 F.2;have af:Hid (Below w.heap.size w w2):=M;rw [m] at c;clear M q0 q1 q2 hx F I HO;go_wp2_with fail
   refine c.mono ?_;clear c;rw [←m];rintro e w3 ⟨rfl,G⟩;have T:Hid (Below w.heap.size w w3):=af.out.trans (G.mono (by omega))
   have R:Hid (w3.ownsRow w.heap.size 56 3 (.slice (some ⟨g,0,none⟩) i J) i (vlC (l.take i))):=zi V.out fun k _ hk=>G.block k hk
   have aj:=T.out.size;clear G m V
   go_wp2_with (at_builtin;refine wpList_append_own_at _ rfl _ _ 47 rfl w.heap.size 56 i0 _ 3 32 Tryz.underlying47 W O Y K rfl (by decide) _ _ _ rfl (R.out.alloc _) ⟨w3.heap.size,0,none⟩ 1 1 [.int .i64 x.k,.int .i64 x.n,.string (za x.s)] rfl rfl (yU _ _ _) (by simp [Value.oneCell']) (by unfold maxLen;omega) (by omega) (by simp;omega) ?_;intro v' w5 y H _ D)
   obtain ⟨g5,cap5,rfl⟩:∃g5 cap5,v'=.slice (some ⟨g5,0,none⟩) (i+1) cap5:=by
    rcases y.2 with ⟨_,h0⟩ | ⟨g',Z,_,h1,_⟩
    ·omega
    ·exact ⟨g',Z,h1⟩
   have ab:Hid (Below w.heap.size w w5):=(T.out.alloc (by omega) _).grown H (by simp;omega) (fun q hq=>(R.out.lt q hq).1)
   refine ⟨⟨i+1,g5,cap5,by omega,by go_num,rfl,by rw [HX.out];exact y,ab.out⟩,by simp [intOf];omega⟩
  ·obtain rfl:i=l.length:=by omega
   have ae:¬ (l.length:Int)<l.length:=by omega
   go_wp2
   go_ret
   refine ⟨g,J,rfl,?_,I.out⟩
   have:=HO.out
   rwa [List.take_length] at this
end Go.Proofs.YtbjndgachcdbcaaGreatDoor
