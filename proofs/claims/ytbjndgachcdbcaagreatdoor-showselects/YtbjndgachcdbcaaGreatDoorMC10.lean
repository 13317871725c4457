import Derived.Test.YtbjndgachcdbcaaGreatDoorMC9
import Derived.Laws.MakeOwn
namespace Go.Proofs.YtbjndgachcdbcaaGreatDoor
open Go.RowKit Go.Shelf
set_option maxHeartbeats 16000000
set_option maxRecDepth 100000
theorem Xd:(Tryz.prog.info? 56).map (fun i=>(i.zero,i.size,i.bytes))=some (some (.agg #[.int .i64 0,.int .i64 0,.string ⟨#[]⟩]),3,32):=by kernel_rfl
theorem VH:(Tryz.prog.info? 92).map (fun i=>(i.zero,i.size,i.bytes))=some (some (.agg #[.string ⟨#[]⟩,.int .i64 0,.int .i64 0]),3,32):=by kernel_rfl
theorem XR (v:Vl) (n:Int) (w:World) (hv:zq v) (ht:zF w) :
  Calls Tryz.prog 33 #[uv v,.int .i64 n] w fun e w'=>e=.returned (.bool (ZZ v n))∧Below w.heap.size w w':=by
 have B:Hid (ZZ v n=(decide (v.k≠0)&&rightV v n)):=rfl;have c:=fun wx (h:zF wx)=>yW v n wx hv h
 obtain ⟨k,m,s⟩:=v;obtain ⟨w1,o⟩:∃w1,w1=w.alloc (.cells #[.int .i64 k,.int .i64 m,.string (za s)] 56):=⟨_,rfl⟩;have q:Below w.heap.size w w1:=by rw [o];exact (Below.refl _ w).alloc (Nat.le_refl _) _
 have E:w1.heap.size=w.heap.size+1:=by rw [o];simp
 have A:=c w1 (ht.below q (Nat.le_refl _));have z:Hid (Below w.heap.size w w1):=q;rw [o] at A;clear c q ht
 by_cases h0:k=0
 ·subst h0
  clear A
  go_enter Tryz.func33,Tryz.ntmps33
  go_wp2
  go_ret
  rw [B.out,←o];exact ⟨rfl,z.out⟩
 ·have G:(k != 0)=true:=by rw [bne_iff_ne];exact h0
  have D:Hid (decide (k≠0)=true):=decide_eq_true h0;generalize rightV ⟨k,m,s⟩ n=b at *
  go_enter Tryz.func33,Tryz.ntmps33
  go_wp2_with fail
  refine A.mono ?_;clear A;rw [←o];rintro e F ⟨rfl,u⟩;have y:Hid (Below w.heap.size w F):=z.out.trans (u.mono (by omega))
  clear u o;cases b with
  | true =>
   rw [show zG true=0 from rfl]
   go_wp2
   go_ret
   rw [B.out,D.out];exact ⟨rfl,y.out⟩
  | false =>
   rw [show zG false=2 from rfl]
   go_wp2
   go_ret
   rw [B.out,D.out];exact ⟨rfl,y.out⟩
theorem YF {l:List Vl} {f:Vl→Bool} {i:Nat} (h:i<l.length) (hf:f l[i]=false):l.all f=false:=by
 rw [List.all_eq_false];exact ⟨l[i],List.getElem_mem h,by simp [hf]⟩
theorem vX (S:Nat→Prop) (o:Ob) (vc:Value) (n:Int) (w:World) (hv:zp S w vc o.2) (ho:Zj o) (hl:o.2.length≤1048576) (ht:zF w) :
  Calls Tryz.prog 19 #[.agg #[.string (za o.1),vc],.int .i64 n] w fun e w'=>e=.returned (.bool (XQ o n))∧Below w.heap.size w w':=by
 obtain ⟨m,l⟩:=o;obtain ⟨V,F⟩:=ho;simp only at V F hl hv;have HR:Hid (XQ (m,l) n=(l.all (fun v=>ZZ v n)&&VG m)):=rfl
 have HS:Hid (∀v∈l,zq v):=F;have HV:Hid (zp S w vc l):=hv;obtain ⟨base,aa,rfl,af,ag,T⟩:=hv.at;have Z:Hid (∀i (hi:i<l.length),∃b o,base=some ⟨b,o,none⟩∧S b∧b<w.heap.size∧w.cell? ⟨b,o+i*3,none⟩=some (.int .i64 (l[i]).k)∧w.cell? ⟨b,o+i*3+1,none⟩=some (.int .i64 (l[i]).n)∧w.cell? ⟨b,o+i*3+2,none⟩=some (.string (za (l[i]).s))):=T;obtain ⟨w1,y⟩:∃w1,w1=w.alloc (.cells #[.string (za m),.slice base l.length aa] 49):=⟨_,rfl⟩;have G:Below w.heap.size w w1:=by rw [y];exact (Below.refl _ w).alloc (Nat.le_refl _) _
 have ah:w1.heap.size=w.heap.size+1:=by rw [y];simp
 have X:w1.cell? ⟨w.heap.size,0,none⟩=some (.string (za m)):=by rw [y];simp
 have HT:Hid (zF w1):=ht.below G (Nat.le_refl _);have u:Hid (Below w.heap.size w w1):=G;have ad:Hid (w1.cell? ⟨w.heap.size,0,none⟩=some (.string (za m))):=X;clear G ht T hv F X
 go_enter Tryz.func19,Tryz.ntmps19
 go_wp2
 rw [←y];clear y
 go_loopw [10] (fun vi wr=>∃i:Nat,i≤l.length∧vi=.int .i64 i∧(∀j (h:j<l.length),j<i→ZZ l[j] n=true)∧Below w1.heap.size w1 wr) (fun vi _=>l.length-(intOf vi).toNat)
 case atStart=>exact ⟨0,Nat.zero_le _,rfl,fun j _ h=>by omega,Below.refl _ _⟩
 case round =>
  obtain ⟨i,hi,rfl,D,K⟩:=hrel;have HA:Hid (∀j (h:j<l.length),j<i→ZZ l[j] n=true):=D;have B:Hid (Below w1.heap.size w1 wr):=K;have R:=K.size;clear D K
  by_cases hlt:i<l.length
  ·obtain ⟨b,o,rfl,-,E,q0,q1,q2⟩:=Z.out i hlt
   have ab:(i:Int)<l.length:=by omega
   have r0:=(zb B.out (by omega)).trans ((zb u.out E).trans q0)
   have r1:=(zb B.out (by omega)).trans ((zb u.out E).trans q1)
   have r2:=(zb B.out (by omega)).trans ((zb u.out E).trans q2)
   obtain ⟨x,U⟩:∃x,x=l[i]:=⟨_,rfl⟩;have I:=HS.out l[i] (List.getElem_mem hlt);have HX:Hid (x=l[i]):=U;rw [←U] at r0 r1 r2 I;obtain ⟨w2,z⟩:∃w2,w2=wr.alloc (.cells #[.int .i64 x.k,.int .i64 x.n,.string (za x.s)] 56):=⟨_,rfl⟩;have H:Below w1.heap.size w1 w2:=by rw [z];exact B.out.alloc R _
   have ae:w2.heap.size=wr.heap.size+1:=by rw [z];simp
   have c:=XR x n w2 I (HT.out.below H (Nat.le_refl _));have W:Hid (Below w1.heap.size w1 w2):=H;rw [z] at c;clear H q0 q1 q2 U I B;cases hc:ZZ x n with
   | true =>
    rw [hc] at c;have M:Hid (ZZ x n=true):=hc;clear hc;go_wp2_with fail
    refine c.mono ?_;clear c;rw [←z];rintro e O ⟨rfl,q⟩;have A:Hid (Below w1.heap.size w1 O):=W.out.trans (q.mono (by omega))
    clear q;go_wp2
    refine ⟨⟨i+1,by omega,by go_num,fun j Y hji=>?_,A.out⟩,by simp [intOf];omega⟩
    by_cases h:j<i
    ·exact HA.out j Y h
    ·obtain rfl:j=i:=by omega
     rw [←HX.out];exact M.out
   | false =>
    rw [hc] at c;have M:Hid (l.all (fun v=>ZZ v n)=false):=YF hlt (by rw [←HX.out];exact hc)
    clear hc;go_wp2_with fail
    refine c.mono ?_;clear c;rw [←z];rintro e O ⟨rfl,q⟩;have A:Hid (Below w.heap.size w O):=u.out.trans ((W.out.trans (q.mono (by omega))).mono (by omega))
    clear q;go_wp2
    go_ret
    rw [HR.out,M.out];exact ⟨rfl,A.out⟩
  ·obtain rfl:i=l.length:=by omega
   have ab:¬ (l.length:Int)<l.length:=by omega
   have M:Hid (l.all (fun v=>ZZ v n)=true):=show _=_ by
    rw [List.all_eq_true];intro x U;obtain ⟨j,Y,rfl⟩:=List.getElem_of_mem U;exact HA.out j Y Y
   have r0:=(zb B.out (by omega)).trans ad.out
   by_cases htn:m=[]
   ·subst htn
    have J:Hid (VG []=true):=rfl;go_wp2
    go_ret
    rw [HR.out,M.out,J.out];exact ⟨rfl,u.out.trans (B.out.mono (by omega))⟩
   ·have c:=yn 1 m wr V (HT.out.below B.out (Nat.le_refl _))
    have J:Hid (VG m=decide (Zv 1 0 m)):=show _=_ by simp [VG,htn]
    generalize decide (Zv 1 0 m)=b at *;obtain ⟨a,t,rfl⟩:=List.exists_cons_of_ne_nil htn;go_wp2_with fail
    refine c.mono ?_;clear c;rintro e O ⟨rfl,q⟩;have A:Hid (Below w.heap.size w O):=u.out.trans ((B.out.trans (q.mono (by omega))).mono (by omega))
    clear q;go_wp2
    go_ret
    rw [HR.out,M.out,J.out];exact ⟨rfl,A.out⟩
theorem zi {w:World} {N j:Nat} {c:Array Value} {ty:TypeId} {fr:Nat × Nat} (v:Value) (h:w.heap[N]?=some (.cells c ty fr)):(w.setCell ⟨N,j,none⟩ v).heap[N]?=some (.cells (c.setIfInBounds j v) ty fr):=by
 unfold World.setCell
 simp [Array.getElem?_modify,h]
theorem zr {w:World} {N:Nat} {x0 x1 x2:Value} {ty:TypeId} (h:w.heap[N]?=some (.cells #[x0,x1,x2] ty (0,0))) :
  w.cell? ⟨N,0,none⟩=some x0∧w.cell? ⟨N,1,none⟩=some x1∧w.cell? ⟨N,2,none⟩=some x2∧∀j,w.frozen? ⟨N,j,none⟩=false:=by
 refine ⟨?_,?_,?_,fun j=>?_⟩
 ·simp only [World.cell?,h];rfl
 ·simp only [World.cell?,h];rfl
 ·simp only [World.cell?,h];rfl
 ·simp only [World.frozen?,h];simp
theorem yK {w:World} {N:Nat} {x0 x1:Value} {ty:TypeId} (h:w.heap[N]?=some (.cells #[x0,x1] ty (0,0))) :
  w.cell? ⟨N,0,none⟩=some x0∧w.cell? ⟨N,1,none⟩=some x1∧∀j,w.frozen? ⟨N,j,none⟩=false:=by
 refine ⟨?_,?_,fun j=>?_⟩
 ·simp only [World.cell?,h];rfl
 ·simp only [World.cell?,h];rfl
 ·simp only [World.frozen?,h];simp
theorem VI (v:Vl) (w:World) (hv:v.s.length≤1048576) :
  Calls Tryz.prog 43 #[uv v] w fun e w'=>e=.returned (uv v)∧Below w.heap.size w w':=by
 obtain ⟨k,m,s⟩:=v;simp only at hv;obtain ⟨w2,b⟩:∃w2,w2=(w.alloc (.cells #[.int .i64 k,.int .i64 m,.string (za s)] 56)).alloc (.cells #[.int .i64 0,.int .i64 0,.string ⟨#[]⟩] 56):=⟨_,rfl⟩;have u:Below w.heap.size w w2:=by rw [b];exact ((Below.refl _ w).alloc (Nat.le_refl _) _).alloc (by simp) _
 have U:w2.heap.size=w.heap.size+2:=by rw [b];simp
 have H:w2.heap[w.heap.size]?=some (.cells #[.int .i64 k,.int .i64 m,.string (za s)] 56 (0,0)):=by rw [b,Below.heap_alloc _ _ _ (by simp)];exact World.alloc_heap_new _ _
 have I:w2.heap[w.heap.size+1]?=some (.cells #[.int .i64 0,.int .i64 0,.string ⟨#[]⟩] 56 (0,0)):=by
  rw [b]
  have:=World.alloc_heap_new (w.alloc (.cells #[.int .i64 k,.int .i64 m,.string (za s)] 56)) (.cells #[.int .i64 0,.int .i64 0,.string ⟨#[]⟩] 56)
  simpa using this
 have c:=yS s w2 (by omega)
 have E:Hid (Below w.heap.size w w2):=u;rw [b] at c;clear u
 go_enter Tryz.func43,Tryz.ntmps43
 go_wp2_with fail
 refine c.mono ?_;clear c;rw [←b];rintro e F ⟨rfl,o⟩;have B:=(o.block w.heap.size (by omega)).trans H
 have O:=(o.block (w.heap.size+1) (by omega)).trans I
 have D:Hid (Below w.heap.size w F):=E.out.trans (o.mono (by omega))
 obtain ⟨q,h⟩:∃q,q=F.setCell ⟨w.heap.size,2,none⟩ (.string (za s)):=⟨_,rfl⟩;have K:q.heap[w.heap.size]?=some (.cells #[.int .i64 k,.int .i64 m,.string (za s)] 56 (0,0)):=by rw [h];exact zi _ B
 have z:q.heap[w.heap.size+1]?=some (.cells #[.int .i64 0,.int .i64 0,.string ⟨#[]⟩] 56 (0,0)):=by rw [h,Below.heap_setCell _ _ _ _ (by simp)];exact O
 have A:Hid (Below w.heap.size w q):=show Below _ _ _ by rw [h];exact D.out.setCell (by simp) _
 have G:=zi (j:=2) (.string (za s)) (zi (j:=1) (.int .i64 m) (zi (j:=0) (.int .i64 k) z));obtain ⟨R,T,W,-⟩:=zr (x0:=.int .i64 k) (x1:=.int .i64 m) (x2:=.string (za s)) G;have y:Hid (Below w.heap.size w (((q.setCell ⟨w.heap.size+1,0,none⟩ (.int .i64 k)).setCell ⟨w.heap.size+1,1,none⟩ (.int .i64 m)).setCell ⟨w.heap.size+1,2,none⟩ (.string (za s)))):=((A.out.setCell (by simp) _).setCell (by simp) _).setCell (by simp) _
 obtain ⟨-,-,Z,M⟩:=zr B;obtain ⟨q0,q1,Y,-⟩:=zr K;obtain ⟨p0,p1,p2,X⟩:=zr z;have V:=M 2;have J:=h.symm;clear o b B O K z H I G h M;go_wp2
 exact bodyPost_ret (v:=.agg #[.int .i64 k,.int .i64 m,.string (za s)]) (by simp [results,Tryz.results43,go_sem,R,T,W]) rfl ⟨rfl,y.out⟩
theorem Xe (S:Nat→Prop) (l:List Vl) (vl:Value) (w:World) (hv:zp S w vl l) (hs:∀v∈l,zq v) (hl:l.length≤1048576) :
  Calls Tryz.prog 34 #[vl] w fun e w'=>∃g E,e=.returned (.slice (some ⟨g,0,none⟩) l.length E)∧w'.ownsRow w.heap.size 56 3 (.slice (some ⟨g,0,none⟩) l.length E) l.length (vlC l)∧Below w.heap.size w w':=by
 obtain ⟨i0,X,T,Z,O⟩:=info_parts Xd;have HS:Hid (∀v∈l,zq v):=hs;obtain ⟨base,E,rfl,aj,ak,F⟩:=hv.at;have ad:Hid (∀i (hi:i<l.length),∃b o,base=some ⟨b,o,none⟩∧S b∧b<w.heap.size∧w.cell? ⟨b,o+i*3,none⟩=some (.int .i64 (l[i]).k)∧w.cell? ⟨b,o+i*3+1,none⟩=some (.int .i64 (l[i]).n)∧w.cell? ⟨b,o+i*3+2,none⟩=some (.string (za (l[i]).s))):=F;obtain ⟨w1,ah,y,Y⟩:=run_make_own (P:=Tryz.prog) w w.heap.size 47 56 i0 _ 3 Tryz.underlying47 X T Z .i64 .i64 l.length (by rw [O];omega) (by unfold maxLen;omega) (Nat.le_refl _)
 have ae:Hid (w1.ownsRow w.heap.size 56 3 (.slice (some ⟨w.heap.size,0,none⟩) 0 l.length) 0 []):=y;have aa:Hid (Below w.heap.size w w1):=(Below.refl _ w).grown Y (Nat.le_refl _) (fun k h=>by cases h)
 clear hs hv F y Y
 go_enter Tryz.func34,Tryz.ntmps34
 go_wp2
 go_loopw [3,11] (fun vb vi wr=>∃(i g I:Nat),i≤l.length∧vi=.int .i64 i∧vb=.slice (some ⟨g,0,none⟩) i I∧wr.ownsRow w.heap.size 56 3 vb i (vlC (l.take i))∧Below w.heap.size w wr) (fun _ vi _=>l.length-(intOf vi).toNat)
 case atStart=>exact ⟨0,_,_,Nat.zero_le _,rfl,rfl,ae.out,aa.out⟩
 case round =>
  obtain ⟨i,g,I,hi,rfl,rfl,z,H⟩:=hrel;have HO:Hid (wr.ownsRow w.heap.size 56 3 (.slice (some ⟨g,0,none⟩) i I) i (vlC (l.take i))):=z;have J:Hid (Below w.heap.size w wr):=H;have V:=H.size;clear z H ah
  by_cases hlt:i<l.length
  ·obtain ⟨b,o,rfl,-,A,q0,q1,q2⟩:=ad.out i hlt
   have af:(i:Int)<l.length:=by omega
   have r0:=(zb J.out A).trans q0;have r1:=(zb J.out A).trans q1;have r2:=(zb J.out A).trans q2;obtain ⟨x,hx⟩:∃x,x=l[i]:=⟨_,rfl⟩;have G:=HS.out l[i] (List.getElem_mem hlt);have HX:Hid (vlC (l.take (i+1))=vlC (l.take i)++YY x):=show _=_ by rw [List.take_succ_eq_append_getElem hlt,xE,vB,hx]
   rw [←hx] at r0 r1 r2 G;obtain ⟨w2,m⟩:∃w2,w2=wr.alloc (.cells #[.int .i64 x.k,.int .i64 x.n,.string (za x.s)] 56):=⟨_,rfl⟩;have U:Below w.heap.size w w2:=by rw [m];exact J.out.alloc V _
   have ai:w2.heap.size=wr.heap.size+1:=by rw [m];simp
   have M:Hid (w2.ownsRow w.heap.size 56 3 (.slice (some ⟨g,0,none⟩) i I) i (vlC (l.take i))):=show World.ownsRow _ _ _ _ _ _ _ by rw [m];exact HO.out.alloc _
   have c:=VI x w2 G.2;have ag:Hid (Below w.heap.size w w2):=U;rw [m] at c;clear U q0 q1 q2 hx G J HO;go_wp2_with fail
   refine c.mono ?_;clear c;rw [←m];rintro e w3 ⟨rfl,D⟩;have W:Hid (Below w.heap.size w w3):=ag.out.trans (D.mono (by omega))
   have K:Hid (w3.ownsRow w.heap.size 56 3 (.slice (some ⟨g,0,none⟩) i I) i (vlC (l.take i))):=zh M.out fun k _ hk=>D.block k hk
   have al:=W.out.size;clear D m M
   go_wp2_with (at_builtin;refine wpList_append_own_at _ rfl _ _ 47 rfl w.heap.size 56 i0 _ 3 32 Tryz.underlying47 X T Z O rfl (by decide) _ _ _ rfl (K.out.alloc _) ⟨w3.heap.size,0,none⟩ 1 1 [.int .i64 x.k,.int .i64 x.n,.string (za x.s)] rfl rfl (yT _ _ _) (by simp [Value.oneCell']) (by unfold maxLen;omega) (by omega) (by simp;omega) ?_;intro v' w5 u B _ F)
   obtain ⟨g5,cap5,rfl⟩:∃g5 cap5,v'=.slice (some ⟨g5,0,none⟩) (i+1) cap5:=by
    rcases u.2 with ⟨_,h0⟩ | ⟨g',R,_,h1,_⟩
    ·omega
    ·exact ⟨g',R,h1⟩
   have ab:Hid (Below w.heap.size w w5):=(W.out.alloc (by omega) _).grown B (by simp;omega) (fun q hq=>(K.out.lt q hq).1)
   refine ⟨⟨i+1,g5,cap5,by omega,by go_num,rfl,by rw [HX.out];exact u,ab.out⟩,by simp [intOf];omega⟩
  ·obtain rfl:i=l.length:=by omega
   have af:¬ (l.length:Int)<l.length:=by omega
   go_wp2
   go_ret
   refine ⟨g,I,rfl,?_,J.out⟩
   have:=HO.out
   rwa [List.take_length] at this
end Go.Proofs.YtbjndgachcdbcaaGreatDoor
