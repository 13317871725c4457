import Derived.Test.YtbjndgachcdbcaaGreatDoorMC9
import Derived.Laws.MakeOwn
namespace Go.Proofs.YtbjndgachcdbcaaGreatDoor
open Go.RowKit Go.Shelf
set_option maxHeartbeats 16000000
set_option maxRecDepth 100000
theorem Xz:(Tryz.prog.info? 56).map (fun i=>(i.zero,i.size,i.bytes))=some (some (.agg #[.int .i64 0,.int .i64 0,.string ⟨#[]⟩]),3,32):=by kernel_rfl
theorem uh:(Tryz.prog.info? 92).map (fun i=>(i.zero,i.size,i.bytes))=some (some (.agg #[.string ⟨#[]⟩,.int .i64 0,.int .i64 0]),3,32):=by kernel_rfl
theorem vx (v:Vl) (n:Int) (w:World) (hv:zr v) (ht:zJ w) :
  Calls Tryz.prog 33 #[Uc v,.int .i64 n] w fun e w'=>e=.returned (.bool (ZW v n))∧Below w.heap.size w w':=by
 have B:Hid (ZW v n=(decide (v.k≠0)&&rightV v n)):=rfl;have c:=fun wx (h:zJ wx)=>yj v n wx hv h
 obtain ⟨k,m,s⟩:=v;obtain ⟨w1,o⟩:∃w1,w1=w.alloc (.cells #[.int .i64 k,.int .i64 m,.string (za s)] 56):=⟨_,rfl⟩;have q:Below w.heap.size w w1:=by rw [o];exact (Below.refl _ w).alloc (Nat.le_refl _) _
 have E:w1.heap.size=w.heap.size+1:=by rw [o];simp
 have A:=c w1 (ht.below q (Nat.le_refl _));have u:Hid (Below w.heap.size w w1):=q;rw [o] at A;clear c q ht
 by_cases h0:k=0
 ·subst h0
  clear A
  go_enter Tryz.func33,Tryz.ntmps33
  go_wp2
  go_ret
  rw [B.out,←o];exact ⟨rfl,u.out⟩
 ·have G:(k != 0)=true:=by rw [bne_iff_ne];exact h0
  have D:Hid (decide (k≠0)=true):=decide_eq_true h0;generalize rightV ⟨k,m,s⟩ n=b at *
  go_enter Tryz.func33,Tryz.ntmps33
  go_wp2_with fail
  refine A.mono ?_;clear A;rw [←o];rintro e F ⟨rfl,y⟩;have z:Hid (Below w.heap.size w F):=u.out.trans (y.mono (by omega))
  clear y o;cases b with
  | true =>
   rw [show zI true=0 from rfl]
   go_wp2
   go_ret
   rw [B.out,D.out];exact ⟨rfl,z.out⟩
  | false =>
   rw [show zI false=2 from rfl]
   go_wp2
   go_ret
   rw [B.out,D.out];exact ⟨rfl,z.out⟩
theorem YO {l:List Vl} {f:Vl→Bool} {i:Nat} (h:i<l.length) (hf:f l[i]=false):l.all f=false:=by
 rw [List.all_eq_false];exact ⟨l[i],List.getElem_mem h,by simp [hf]⟩
theorem VG (S:Nat→Prop) (o:Ob) (vc:Value) (n:Int) (w:World) (hv:zk S w vc o.2) (ho:Ze o) (hl:o.2.length≤1048576) (ht:zJ w) :
  Calls Tryz.prog 19 #[.agg #[.string (za o.1),vc],.int .i64 n] w fun e w'=>e=.returned (.bool (xb o n))∧Below w.heap.size w w':=by
 obtain ⟨m,l⟩:=o;obtain ⟨X,I⟩:=ho;simp only at X I hl hv;have HR:Hid (xb (m,l) n=(l.all (fun v=>ZW v n)&&ug m)):=rfl
 have HS:Hid (∀v∈l,zr v):=I;have HV:Hid (zk S w vc l):=hv;obtain ⟨base,ad,rfl,ag,ae,T⟩:=hv.at;have ab:Hid (∀i (hi:i<l.length),∃b o,base=some ⟨b,o,none⟩∧S b∧b<w.heap.size∧w.cell? ⟨b,o+i*3,none⟩=some (.int .i64 (l[i]).k)∧w.cell? ⟨b,o+i*3+1,none⟩=some (.int .i64 (l[i]).n)∧w.cell? ⟨b,o+i*3+2,none⟩=some (.string (za (l[i]).s))):=T;obtain ⟨w1,z⟩:∃w1,w1=w.alloc (.cells #[.string (za m),.slice base l.length ad] 49):=⟨_,rfl⟩;have G:Below w.heap.size w w1:=by rw [z];exact (Below.refl _ w).alloc (Nat.le_refl _) _
 have af:w1.heap.size=w.heap.size+1:=by rw [z];simp
 have V:w1.cell? ⟨w.heap.size,0,none⟩=some (.string (za m)):=by rw [z];simp
 have HT:Hid (zJ w1):=ht.below G (Nat.le_refl _);have u:Hid (Below w.heap.size w w1):=G;have Z:Hid (w1.cell? ⟨w.heap.size,0,none⟩=some (.string (za m))):=V;clear G ht T hv I V
 go_enter Tryz.func19,Tryz.ntmps19
 go_wp2
 rw [←z];clear z
 go_loopw [10] (fun vi wr=>∃i:Nat,i≤l.length∧vi=.int .i64 i∧(∀j (h:j<l.length),j<i→ZW l[j] n=true)∧Below w1.heap.size w1 wr) (fun vi _=>l.length-(intOf vi).toNat)
 case atStart=>exact ⟨0,Nat.zero_le _,rfl,fun j _ h=>by omega,Below.refl _ _⟩
 case round =>
  obtain ⟨i,hi,rfl,D,J⟩:=hrel;have HA:Hid (∀j (h:j<l.length),j<i→ZW l[j] n=true):=D;have B:Hid (Below w1.heap.size w1 wr):=J;have W:=J.size;clear D J
  by_cases hlt:i<l.length
  ·obtain ⟨b,o,rfl,-,H,q0,q1,q2⟩:=ab.out i hlt
   have aa:(i:Int)<l.length:=by omega
   have r0:=(zb B.out (by omega)).trans ((zb u.out H).trans q0)
   have r1:=(zb B.out (by omega)).trans ((zb u.out H).trans q1)
   have r2:=(zb B.out (by omega)).trans ((zb u.out H).trans q2)
   obtain ⟨x,U⟩:∃x,x=l[i]:=⟨_,rfl⟩;have K:=HS.out l[i] (List.getElem_mem hlt);have HX:Hid (x=l[i]):=U;rw [←U] at r0 r1 r2 K;obtain ⟨w2,y⟩:∃w2,w2=wr.alloc (.cells #[.int .i64 x.k,.int .i64 x.n,.string (za x.s)] 56):=⟨_,rfl⟩;have F:Below w1.heap.size w1 w2:=by rw [y];exact B.out.alloc W _
   have ah:w2.heap.size=wr.heap.size+1:=by rw [y];simp
   have c:=vx x n w2 K (HT.out.below F (Nat.le_refl _));have R:Hid (Below w1.heap.size w1 w2):=F;rw [y] at c;clear F q0 q1 q2 U K B;cases hc:ZW x n with
   | true =>
    rw [hc] at c;have M:Hid (ZW x n=true):=hc;clear hc;go_wp2_with fail
    refine c.mono ?_;clear c;rw [←y];rintro e O ⟨rfl,q⟩;have A:Hid (Below w1.heap.size w1 O):=R.out.trans (q.mono (by omega))
    clear q;go_wp2
    refine ⟨⟨i+1,by omega,by go_num,fun j Y hji=>?_,A.out⟩,by simp [intOf];omega⟩
    by_cases h:j<i
    ·exact HA.out j Y h
    ·obtain rfl:j=i:=by omega
     rw [←HX.out];exact M.out
   | false =>
    rw [hc] at c;have M:Hid (l.all (fun v=>ZW v n)=false):=YO hlt (by rw [←HX.out];exact hc)
    clear hc;go_wp2_with fail
    refine c.mono ?_;clear c;rw [←y];rintro e O ⟨rfl,q⟩;have A:Hid (Below w.heap.size w O):=u.out.trans ((R.out.trans (q.mono (by omega))).mono (by omega))
    clear q;go_wp2
    go_ret
    rw [HR.out,M.out];exact ⟨rfl,A.out⟩
  ·obtain rfl:i=l.length:=by omega
   have aa:¬ (l.length:Int)<l.length:=by omega
   have M:Hid (l.all (fun v=>ZW v n)=true):=show _=_ by
    rw [List.all_eq_true];intro x U;obtain ⟨j,Y,rfl⟩:=List.getElem_of_mem U;exact HA.out j Y Y
   have r0:=(zb B.out (by omega)).trans Z.out
   by_cases htn:m=[]
   ·subst htn
    have E:Hid (ug []=true):=rfl;go_wp2
    go_ret
    rw [HR.out,M.out,E.out];exact ⟨rfl,u.out.trans (B.out.mono (by omega))⟩
   ·have c:=yx 1 m wr X (HT.out.below B.out (Nat.le_refl _))
    have E:Hid (ug m=decide (Zx 1 0 m)):=show _=_ by simp [ug,htn]
    generalize decide (Zx 1 0 m)=b at *;obtain ⟨a,t,rfl⟩:=List.exists_cons_of_ne_nil htn;go_wp2_with fail
    refine c.mono ?_;clear c;rintro e O ⟨rfl,q⟩;have A:Hid (Below w.heap.size w O):=u.out.trans ((B.out.trans (q.mono (by omega))).mono (by omega))
    clear q;go_wp2
    go_ret
    rw [HR.out,M.out,E.out];exact ⟨rfl,A.out⟩
theorem zi {w:World} {N j:Nat} {c:Array Value} {ty:TypeId} {fr:Nat × Nat} (v:Value) (h:w.heap[N]?=some (.cells c ty fr)):(w.setCell ⟨N,j,none⟩ v).heap[N]?=some (.cells (c.setIfInBounds j v) ty fr):=by
 unfold World.setCell
 simp [Array.getElem?_modify,h]
theorem zt {w:World} {N:Nat} {x0 x1 x2:Value} {ty:TypeId} (h:w.heap[N]?=some (.cells #[x0,x1,x2] ty (0,0))) :
  w.cell? ⟨N,0,none⟩=some x0∧w.cell? ⟨N,1,none⟩=some x1∧w.cell? ⟨N,2,none⟩=some x2∧∀j,w.frozen? ⟨N,j,none⟩=false:=by
 refine ⟨?_,?_,?_,fun j=>?_⟩
 ·simp only [World.cell?,h];rfl
 ·simp only [World.cell?,h];rfl
 ·simp only [World.cell?,h];rfl
 ·simp only [World.frozen?,h];simp
theorem yM {w:World} {N:Nat} {x0 x1:Value} {ty:TypeId} (h:w.heap[N]?=some (.cells #[x0,x1] ty (0,0))) :
  w.cell? ⟨N,0,none⟩=some x0∧w.cell? ⟨N,1,none⟩=some x1∧∀j,w.frozen? ⟨N,j,none⟩=false:=by
 refine ⟨?_,?_,fun j=>?_⟩
 ·simp only [World.cell?,h];rfl
 ·simp only [World.cell?,h];rfl
 ·simp only [World.frozen?,h];simp
theorem ui (v:Vl) (w:World) (hv:v.s.length≤1048576) :
  Calls Tryz.prog 43 #[Uc v] w fun e w'=>e=.returned (Uc v)∧Below w.heap.size w w':=by
 obtain ⟨k,m,s⟩:=v;simp only at hv;obtain ⟨w2,b⟩:∃w2,w2=(w.alloc (.cells #[.int .i64 k,.int .i64 m,.string (za s)] 56)).alloc (.cells #[.int .i64 0,.int .i64 0,.string ⟨#[]⟩] 56):=⟨_,rfl⟩;have u:Below w.heap.size w w2:=by rw [b];exact ((Below.refl _ w).alloc (Nat.le_refl _) _).alloc (by simp) _
 have V:w2.heap.size=w.heap.size+2:=by rw [b];simp
 have J:w2.heap[w.heap.size]?=some (.cells #[.int .i64 k,.int .i64 m,.string (za s)] 56 (0,0)):=by rw [b,Below.heap_alloc _ _ _ (by simp)];exact World.alloc_heap_new _ _
 have I:w2.heap[w.heap.size+1]?=some (.cells #[.int .i64 0,.int .i64 0,.string ⟨#[]⟩] 56 (0,0)):=by
  rw [b]
  have:=World.alloc_heap_new (w.alloc (.cells #[.int .i64 k,.int .i64 m,.string (za s)] 56)) (.cells #[.int .i64 0,.int .i64 0,.string ⟨#[]⟩] 56)
  simpa using this
 have c:=yW s w2 (by omega)
 have y:Hid (Below w.heap.size w w2):=u;rw [b] at c;clear u
 go_enter Tryz.func43,Tryz.ntmps43
 go_wp2_with fail
 refine c.mono ?_;clear c;rw [←b];rintro e F ⟨rfl,o⟩;have z:=(o.block w.heap.size (by omega)).trans J
 have H:=(o.block (w.heap.size+1) (by omega)).trans I
 have E:Hid (Below w.heap.size w F):=y.out.trans (o.mono (by omega))
 obtain ⟨q,h⟩:∃q,q=F.setCell ⟨w.heap.size,2,none⟩ (.string (za s)):=⟨_,rfl⟩;have K:q.heap[w.heap.size]?=some (.cells #[.int .i64 k,.int .i64 m,.string (za s)] 56 (0,0)):=by rw [h];exact zi _ z
 have B:q.heap[w.heap.size+1]?=some (.cells #[.int .i64 0,.int .i64 0,.string ⟨#[]⟩] 56 (0,0)):=by rw [h,Below.heap_setCell _ _ _ _ (by simp)];exact H
 have D:Hid (Below w.heap.size w q):=show Below _ _ _ by rw [h];exact E.out.setCell (by simp) _
 have M:=zi (j:=2) (.string (za s)) (zi (j:=1) (.int .i64 m) (zi (j:=0) (.int .i64 k) B));obtain ⟨W,R,U,-⟩:=zt (x0:=.int .i64 k) (x1:=.int .i64 m) (x2:=.string (za s)) M;have A:Hid (Below w.heap.size w (((q.setCell ⟨w.heap.size+1,0,none⟩ (.int .i64 k)).setCell ⟨w.heap.size+1,1,none⟩ (.int .i64 m)).setCell ⟨w.heap.size+1,2,none⟩ (.string (za s)))):=((D.out.setCell (by simp) _).setCell (by simp) _).setCell (by simp) _
 obtain ⟨-,-,r2,G⟩:=zt z;obtain ⟨q0,q1,X,-⟩:=zt K;obtain ⟨Z,Y,p2,pf⟩:=zt B;have T:=G 2;have O:=h.symm;clear o b z H K B J I M h G;go_wp2
 exact bodyPost_ret (v:=.agg #[.int .i64 k,.int .i64 m,.string (za s)]) (by simp [results,Tryz.results43,go_sem,W,R,U]) rfl ⟨rfl,A.out⟩
theorem XA (S:Nat→Prop) (l:List Vl) (vl:Value) (w:World) (hv:zk S w vl l) (hs:∀v∈l,zr v) (hl:l.length≤1048576) :
  Calls Tryz.prog 34 #[vl] w fun e w'=>∃g D,e=.returned (.slice (some ⟨g,0,none⟩) l.length D)∧w'.ownsRow w.heap.size 56 3 (.slice (some ⟨g,0,none⟩) l.length D) l.length (vlC l)∧Below w.heap.size w w':=by
 obtain ⟨i0,O,K,T,Z⟩:=info_parts Xz;have HS:Hid (∀v∈l,zr v):=hs;obtain ⟨base,D,rfl,al,ak,A⟩:=hv.at;have ae:Hid (∀i (hi:i<l.length),∃b o,base=some ⟨b,o,none⟩∧S b∧b<w.heap.size∧w.cell? ⟨b,o+i*3,none⟩=some (.int .i64 (l[i]).k)∧w.cell? ⟨b,o+i*3+1,none⟩=some (.int .i64 (l[i]).n)∧w.cell? ⟨b,o+i*3+2,none⟩=some (.string (za (l[i]).s))):=A;obtain ⟨w1,ag,u,W⟩:=run_make_own (P:=Tryz.prog) w w.heap.size 47 56 i0 _ 3 Tryz.underlying47 O K T .i64 .i64 l.length (by rw [Z];omega) (by unfold maxLen;omega) (Nat.le_refl _)
 have ah:Hid (w1.ownsRow w.heap.size 56 3 (.slice (some ⟨w.heap.size,0,none⟩) 0 l.length) 0 []):=u;have aa:Hid (Below w.heap.size w w1):=(Below.refl _ w).grown W (Nat.le_refl _) (fun k h=>by cases h)
 clear hs hv A u W
 go_enter Tryz.func34,Tryz.ntmps34
 go_wp2
 go_loopw [3,11] (fun vb vi wr=>∃(i g I:Nat),i≤l.length∧vi=.int .i64 i∧vb=.slice (some ⟨g,0,none⟩) i I∧wr.ownsRow w.heap.size 56 3 vb i (vlC (l.take i))∧Below w.heap.size w wr) (fun _ vi _=>l.length-(intOf vi).toNat)
 case atStart=>exact ⟨0,_,_,Nat.zero_le _,rfl,rfl,ah.out,aa.out⟩
 case round =>
  obtain ⟨i,g,I,hi,rfl,rfl,z,E⟩:=hrel;have HO:Hid (wr.ownsRow w.heap.size 56 3 (.slice (some ⟨g,0,none⟩) i I) i (vlC (l.take i))):=z;have J:Hid (Below w.heap.size w wr):=E;have X:=E.size;clear z E ag
  by_cases hlt:i<l.length
  ·obtain ⟨b,o,rfl,-,B,q0,q1,q2⟩:=ae.out i hlt
   have ab:(i:Int)<l.length:=by omega
   have r0:=(zb J.out B).trans q0;have r1:=(zb J.out B).trans q1;have r2:=(zb J.out B).trans q2;obtain ⟨x,hx⟩:∃x,x=l[i]:=⟨_,rfl⟩;have F:=HS.out l[i] (List.getElem_mem hlt);have HX:Hid (vlC (l.take (i+1))=vlC (l.take i)++xa x):=show _=_ by rw [List.take_succ_eq_append_getElem hlt,xV,Vf,hx]
   rw [←hx] at r0 r1 r2 F;obtain ⟨w2,m⟩:∃w2,w2=wr.alloc (.cells #[.int .i64 x.k,.int .i64 x.n,.string (za x.s)] 56):=⟨_,rfl⟩;have R:Below w.heap.size w w2:=by rw [m];exact J.out.alloc X _
   have ai:w2.heap.size=wr.heap.size+1:=by rw [m];simp
   have M:Hid (w2.ownsRow w.heap.size 56 3 (.slice (some ⟨g,0,none⟩) i I) i (vlC (l.take i))):=show World.ownsRow _ _ _ _ _ _ _ by rw [m];exact HO.out.alloc _
   have c:=ui x w2 F.2;have ad:Hid (Below w.heap.size w w2):=R;rw [m] at c;clear R q0 q1 q2 hx F J HO;go_wp2_with fail
   refine c.mono ?_;clear c;rw [←m];rintro e w3 ⟨rfl,G⟩;have Y:Hid (Below w.heap.size w w3):=ad.out.trans (G.mono (by omega))
   have V:Hid (w3.ownsRow w.heap.size 56 3 (.slice (some ⟨g,0,none⟩) i I) i (vlC (l.take i))):=zh M.out fun k _ hk=>G.block k hk
   have aj:=Y.out.size;clear G m M
   go_wp2_with (at_builtin;refine wpList_append_own_at _ rfl _ _ 47 rfl w.heap.size 56 i0 _ 3 32 Tryz.underlying47 O K T Z rfl (by decide) _ _ _ rfl (V.out.alloc _) ⟨w3.heap.size,0,none⟩ 1 1 [.int .i64 x.k,.int .i64 x.n,.string (za x.s)] rfl rfl (yX _ _ _) (by simp [Value.oneCell']) (by unfold maxLen;omega) (by omega) (by simp;omega) ?_;intro v' w5 y H _ A)
   obtain ⟨g5,cap5,rfl⟩:∃g5 cap5,v'=.slice (some ⟨g5,0,none⟩) (i+1) cap5:=by
    rcases y.2 with ⟨_,h0⟩ | ⟨g',U,_,h1,_⟩
    ·omega
    ·exact ⟨g',U,h1⟩
   have af:Hid (Below w.heap.size w w5):=(Y.out.alloc (by omega) _).grown H (by simp;omega) (fun q hq=>(V.out.lt q hq).1)
   refine ⟨⟨i+1,g5,cap5,by omega,by go_num,rfl,by rw [HX.out];exact y,af.out⟩,by simp [intOf];omega⟩
  ·obtain rfl:i=l.length:=by omega
   have ab:¬ (l.length:Int)<l.length:=by omega
   go_wp2
   go_ret
   refine ⟨g,I,rfl,?_,J.out⟩
   have:=HO.out
   rwa [List.take_length] at this
end Go.Proofs.YtbjndgachcdbcaaGreatDoor
