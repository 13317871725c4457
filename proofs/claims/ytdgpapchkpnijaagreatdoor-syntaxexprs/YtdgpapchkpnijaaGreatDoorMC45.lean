import Derived.Test.YtdgpapchkpnijaaGreatDoorSDUnary
import Derived.Test.YtdgpapchkpnijaaGreatDoorSDSingle
import Derived.Test.YtdgpapchkpnijaaGreatDoorSDMath
import Derived.Test.YtdgpapchkpnijaaGreatDoorMC33
import Derived.Test.YtdgpapchkpnijaaGreatDoorXPartMath
import Derived.Test.YtdgpapchkpnijaaGreatDoorMC39
import Derived.Test.YtdgpapchkpnijaaGreatDoorXRef7
namespace Go.Proofs.YtdgpapchkpnijaaGreatDoor
open Go.RowKit Go.Shelf
set_option maxHeartbeats 16000000
set_option maxRecDepth 100000
theorem zbn (r g:Nat):∀F,xN r g F∧Vf r g F∧uQ r g F∧za0 r g F
 | 0=>by
  refine ⟨fun k hk line σ q w hl hq h=>?_,fun k hk σ q w hq h=>?_,fun k hk σ q w hq h=>?_,fun k hk s b σ q w hq h=>?_⟩ <;> (obtain rfl:k=0:=by omega) <;> simp [xn,yG,Yp,yK] at hq
 | F+1=>by
  obtain ⟨i1,i2,i3,i4⟩:=zbn r g F;have up:∀k,k≤F+1→k≤F∨k=F+1:=fun k h=>by omega
  refine ⟨fun k hk line σ q w hl hq h=>?_,fun k hk σ q w hq h=>?_,fun k hk σ q w hq h=>?_,fun k hk s b σ q w hq h=>?_⟩
  ·rcases up k hk with h1 | rfl
   ·exact i1 k h1 line σ q w hl hq h
   ·rw [xn] at hq
    by_cases h6:line=6
    ·subst h6
     rw [if_pos rfl] at hq;exact zcj r g F σ w q h hq i2
    ·rw [if_neg h6] at hq
     exact za1 r g F line σ w q h (by omega) hq i1
  ·rcases up k hk with h1 | rfl
   ·exact i2 k h1 σ q w hq h
   ·exact zem r g F σ w q h hq i2 i3 i1
  ·rcases up k hk with h1 | rfl
   ·exact i3 k h1 σ q w hq h
   ·exact zdt r g F σ w q h hq i1 i4
  ·rcases up k hk with h1 | rfl
   ·exact i4 k h1 s b σ q w hq h
   ·exact zel r g F s b σ w q h hq i1
def Q2 (t:Tk):Prop:=t.s.length≤100000000∧t.n≤9223372036854775807
theorem Q2.hd {ts:List Tk} (h:∀t∈ts,Q2 t):Q2 (zz ts):=by
 cases ts with
 | nil=>exact ⟨by simp [zz],by simp [zz]⟩
 | cons t us=>exact h t (List.mem_cons_self ..)
theorem Xu {k:Nat} {s:List UInt8} {n:Int} {kids:List Ex} {line:Nat} (hs:s.length≤100000000) (h0:-9223372036854775808≤n) (h1:n≤9223372036854775807) (hk:qF kids=true):Va (.mk k s n kids line)=true:=by
 rw [Va]
 simp [hs,h0,h1,hk]
theorem qE {x:Ex} (h:Va x=true):qF [x]=true:=by simp [qF,h]
theorem zbo {x y:Ex} (h:Va x=true) (g:Va y=true):qF [x,y]=true:=by simp [qF,h,g]
theorem zdw {l:List Ex} {x:Ex} (h:qF l=true) (g:Va x=true):qF (l++[x])=true:=by
 induction l with
 | nil=>exact qE g
 | cons y ys ih =>
  rw [qF,Bool.and_eq_true] at h;rw [List.cons_append,qF,h.1,ih h.2];rfl
theorem Q3 {s:List UInt8} {ts us:List Tk} (h:yB ts=some (.ok (s,us))):s=(zz ts).s:=by
 unfold yB at h
 split at h
 ·simp only [Option.some.injEq,Except.ok.injEq,Prod.mk.injEq] at h
  exact h.1.symm
 ·cases h
theorem Q4 (f:Nat) :
  (∀least ts x us,zh f least ts=some (.ok (x,us))→(∀t∈ts,Q2 t)→Va x=true)∧(∀least e ts x us,ZI f least e ts=some (.ok (x,us))→(∀t∈ts,Q2 t)→Va e=true→Va x=true) ∧
  (∀ts x us,Zw f ts=some (.ok (x,us))→(∀t∈ts,Q2 t)→Va x=true)∧(∀e ts x us,zH f e ts=some (.ok (x,us))→(∀t∈ts,Q2 t)→Va e=true→Va x=true)∧(∀ts x us,zP f ts=some (.ok (x,us))→(∀t∈ts,Q2 t)→Va x=true) ∧
  (∀pre ts x us,yy f pre ts=some (.ok (x,us))→(∀t∈ts,Q2 t)→qF pre=true→qF x=true)∧(∀ts x us,zK f ts=some (.ok (x,us))→(∀t∈ts,Q2 t)→qF x=true):=by
 induction f with
 | zero=>refine ⟨?_,?_,?_,?_,?_,?_,?_⟩ <;> intros <;> simp_all [zh,ZI,Zw,zH,zP,yy,zK]
 | succ f ih =>
  obtain ⟨i1,i2,i3,i4,i5,i6,i7⟩:=ih;obtain ⟨j1,j2,j3,j4,j5,j6,j7⟩:=x9 (P:=Q2) f;refine ⟨fun least ts x us h hE=>?_,fun least e ts x us h hE he=>?_,fun ts x us h hE=>?_,fun e ts x us h hE he=>?_,fun ts x us h hE=>?_,fun pre ts x us h hE he=>?_,fun ts x us h hE=>?_⟩
  ·rw [zh] at h
   split at h
   ·exact i3 _ _ _ h hE
   ·obtain ⟨y,vs,h1,h2⟩:=zd h
    exact i2 _ _ _ _ _ h2 (j1 _ _ _ _ h1 hE) (i1 _ _ _ _ h1 hE)
  ·rw [ZI] at h
   split at h
   ·obtain ⟨y,vs,h1,h2⟩:=zd h
    exact i2 _ _ _ _ _ h2 (j1 _ _ _ _ h1 (Zv hE)) (Xu (Q2.hd hE).1 (by omega) (by omega) (zbo he (i1 _ _ _ _ h1 (Zv hE))))
   ·obtain ⟨rfl,rfl⟩:=zA h;exact he
  ·rw [Zw] at h
   split at h
   ·obtain ⟨y,vs,h1,h2⟩:=zd h
    obtain ⟨rfl,rfl⟩:=zA h2;exact Xu (Q2.hd hE).1 (by omega) (by omega) (qE (i3 _ _ _ h1 (Zv hE)))
   ·obtain ⟨y,vs,h1,h2⟩:=zd h
    exact i4 _ _ _ _ h2 (j5 _ _ _ h1 hE) (i5 _ _ _ h1 hE)
  ·rw [zH] at h
   split at h
   ·obtain ⟨y,vs,h1,h2⟩:=zd h
    obtain ⟨z,xs,h3,h4⟩:=zd h2;exact i4 _ _ _ _ h4 (yO h3 (j1 _ _ _ _ h1 (Zv hE))) (Xu (by simp) (by omega) (by omega) (zbo he (i1 _ _ _ _ h1 (Zv hE))))
   split at h
   ·obtain ⟨y,vs,h1,h2⟩:=zd h
    exact i4 _ _ _ _ h2 (xp h1 (Zv hE)) (Xu (by rw [Q3 h1];exact (Q2.hd (Zv hE)).1) (by omega) (by omega) (qE he))
   ·obtain ⟨rfl,rfl⟩:=zA h;exact he
  ·have h0:=Q2.hd hE
   rw [zP] at h
   split at h
   ·obtain ⟨rfl,rfl⟩:=zA h;exact Xu (by simp) (by omega) (by have:=h0.2;omega) rfl
   split at h
   ·obtain ⟨rfl,rfl⟩:=zA h;exact Xu h0.1 (by omega) (by omega) rfl
   split at h
   ·split at h
    ·obtain ⟨y,vs,h1,h2⟩:=zd h
     obtain ⟨rfl,rfl⟩:=zA h2;exact Xu h0.1 (by omega) (by omega) (i7 _ _ _ h1 (Zv hE))
    ·obtain ⟨rfl,rfl⟩:=zA h;exact Xu h0.1 (by omega) (by omega) rfl
   split at h
   ·obtain ⟨rfl,rfl⟩:=zA h;exact Xu (by simp) (by omega) (by omega) rfl
   split at h
   ·obtain ⟨rfl,rfl⟩:=zA h;exact Xu (by simp) (by omega) (by omega) rfl
   split at h
   ·obtain ⟨y,vs,h1,h2⟩:=zd h
    obtain ⟨z,xs,h3,h4⟩:=zd h2;obtain ⟨rfl,rfl⟩:=zA h4;exact Xu (by rw [Q3 h1];exact (Q2.hd (Zv hE)).1) (by omega) (by omega) (i7 _ _ _ h3 (xp h1 (Zv hE)))
   split at h
   ·obtain ⟨y,vs,h1,h2⟩:=zd h
    obtain ⟨z,xs,h3,h4⟩:=zd h2;obtain ⟨rfl,rfl⟩:=zA h4;exact Xu (by simp) (by omega) (by omega) (i6 _ _ _ _ h1 (Zv hE) rfl)
   ·obtain ⟨y,vs,h1,h2⟩:=zd h
    obtain ⟨z,xs,h3,h4⟩:=zd h2;obtain ⟨z',xs',h5,h6⟩:=zd h4;obtain ⟨rfl,rfl⟩:=zA h6;exact i1 _ _ _ _ h3 (yO h1 hE)
  ·rw [yy] at h
   obtain ⟨y,vs,h1,h2⟩:=zd h;have hV:=j1 _ _ _ _ h1 hE;have hy:=zdw he (i1 _ _ _ _ h1 hE)
   split at h2
   ·exact i6 _ _ _ _ h2 (Zv hV) hy
   ·obtain ⟨rfl,rfl⟩:=zA h2;exact hy
  ·rw [zK] at h
   obtain ⟨y,vs,h1,h2⟩:=zd h;have hV:=yO h1 hE
   split at h2
   ·obtain ⟨rfl,rfl⟩:=zA h2;rfl
   ·obtain ⟨z,xs,h3,h4⟩:=zd h2
    obtain ⟨z',xs',h5,h6⟩:=zd h4;obtain ⟨rfl,rfl⟩:=zA h6;exact i6 _ _ _ _ h3 hV rfl
theorem uT {s:List UInt8}:∀{a:Nat} {ts:List Tk},qB s a ts→∀t∈ts,zdv s t
 | _,[],_,t,h=>by cases h
 | _,u::us,hp,t,h=>by
  rcases List.mem_cons.1 h with rfl | h
  ·exact hp.2.1
  ·exact uT hp.2.2 t h
theorem Q5 (l:List UInt8):∀t∈(zv l).1,Q2 t∧WdT t:=by
 intro t ht
 by_cases h:(zv l).2.2=0
 ·have hp:=uT ((VO l).2 h).2.1 t ht
  obtain ⟨-,-,hb,-,hn,hs⟩:=hp;refine ⟨⟨by omega,by omega⟩,fun h5=>?_⟩
  have hw:ym t.s=true:=by
   have h2:=(xi (by rw [h5];decide) (by rw [h5];decide)).1 hb
   rw [h5] at h2;rcases h2 with h2 | h2 | h2 | h2
   ·exact absurd h2.1 (by decide)
   ·exact absurd h2.1 (by decide)
   ·exact absurd h2.1 (by decide)
   ·exact h2.2.1
  have key:∀s,ym s=true→s≠[45]∧s≠[33]:=fun s hs=>by
   constructor <;> (rintro rfl;revert hs;decide)
  exact key _ hw
 ·rw [(VO l).1 h] at ht
  cases ht
mutual
theorem V8:∀x:Ex,dpE (UU x)=depthE x
 | .mk k s n kids line=>by rw [UU,dpE,depthE,zbp kids,Nat.add_comm]
theorem zbp:∀l:List Ex,uW (v8 l)=depthL l
 | []=>by rw [v8,uW,depthL]
 | x::xs=>by rw [v8,uW,depthL,V8 x,zbp xs]
end
theorem Q6 (l:List UInt8) (w:World) :
  Calls Tryz.prog 16 #[.string (za l)] w fun e w' =>
   ∃(x:Ex) (at0 err:Nat) (v:Value),e=.returned (.tuple #[v,.int .i64 at0,.int .i64 err])∧Zx l x at0 err∧Va x=true∧Zc w.heap.size w' x v∧Below w.heap.size w w':=by
 obtain ⟨w0,hw0⟩:∃w0,w0=w.alloc Ze:=⟨_,rfl⟩;have cs:=Q1 l w0;have hs0:w0.heap.size=w.heap.size+1:=by rw [hw0];simp
 have hb0:Below w.heap.size w w0:=by rw [hw0];exact (Below.refl _ w).alloc (Nat.le_refl _) _
 have p0:w0.heap[w.heap.size]?=some Ze:=by rw [hw0];exact World.alloc_heap_new w _
 have hw0':=hw0.symm;have HB0:Hid (Below w.heap.size w w0∧w0.heap.size=w.heap.size+1∧w0.heap[w.heap.size]?=some Ze):=⟨hb0,hs0,p0⟩;clear hw0 hs0 hb0 p0
 go_enter Tryz.func16,Tryz.ntmps16
 go_wp2_with fail
 refine cs.mono ?_;clear cs hw0';rintro e w1 ⟨v,rfl,hown,hb1⟩;obtain ⟨hb0,hs0,p0⟩:=HB0.out;have p1:w1.heap[w.heap.size]?=some Ze:=(hb1.block _ (by omega)).trans p0
 have hb01:Below w.heap.size w w1:=hb0.trans (hb1.mono (by omega))
 have hs1:=hb1.size;obtain ⟨a0,a1,a2,a3,a4,af⟩:=zl p1
 by_cases herr:(zv l).2.2≠0
 ·have HI:Hid (Zx l yZ (zv l).2.1 (zv l).2.2):=show Zx _ _ _ _ by unfold Zx;rw [if_pos herr];exact ⟨rfl,rfl,rfl⟩
  have herr':¬((zv l).2.2:Int)=0:=by omega
  generalize (zv l).2.1=A at *;generalize (zv l).2.2=E at *;have h1:((E:Int)==0)=false:=by rw [beq_eq_false_iff_ne];exact herr'
  have h2:((E:Int) != 0)=true:=by simp [bne,h1]
  obtain ⟨z0,z1,z2,z3,z4⟩:=zt p1 (.int .i64 0) (.string ⟨#[]⟩) (.int .i64 0) (.slice none 0 0) (.int .i64 0)
  have HB3:Hid (Below w.heap.size w (set5 w1 w.heap.size (.int .i64 0) (.string ⟨#[]⟩) (.int .i64 0) (.slice none 0 0) (.int .i64 0))) :=
   ((((hb01.setCell (p:=⟨w.heap.size,0,none⟩) (by simp) _).setCell (p:=⟨w.heap.size,1,none⟩) (by simp) _).setCell (p:=⟨w.heap.size,2,none⟩) (by simp) _).setCell (p:=⟨w.heap.size,3,none⟩) (by simp) _).setCell (p:=⟨w.heap.size,4,none⟩) (by simp) _
  clear hb0 hs0 p0 p1 hb01 hs1 hb1 hown HB0;go_wp2
  exact bodyPost_ret (v:=.tuple #[.agg #[.int .i64 0,.string ⟨#[]⟩,.int .i64 0,.slice none 0 0,.int .i64 0],.int .i64 A,.int .i64 E]) (by simp [results,Tryz.results16,go_sem,z0,z1,z2,z3,z4]) rfl ⟨yZ,A,E,_,rfl,HI.out,rfl,.leaf 0 [] 0 0,HB3.out⟩
 ·have herr0:(zv l).2.2=0:=by simpa using herr
  have hE:=vG l herr0;obtain ⟨t0,ts0,hts⟩:=hE.cons;obtain ⟨g,cap,rfl,hg,hgl,hcap,hmax,hcell⟩:∃g cap,v=.slice (some ⟨g,0,none⟩) (zv l).1.length cap∧w0.heap.size≤g∧g<w1.heap.size∧(zv l).1.length≤cap∧cap≤maxLen∧∀j u,(zO (zv l).1)[j]?=some u→w1.cell? ⟨g,j,none⟩=some u:=Xr hown (by rw [hts];simp)
  have hlen:=XP l;obtain ⟨f,res,hf,-⟩:=(xw (zv l).1.length (zv l).1 (Nat.le_refl _)).1 1;have hp:zh f 1 (zv l).1=some res:=hf 0;have hsm:=Q5 l;obtain ⟨q,hq,hA⟩:=(zfQ f).1 0 (zv l).1 res (by omega) hp (fun t ht=>(hsm t ht).2) (2*f+10) (Nat.le_refl _)
  have HOK:Hid (∀x us,res=.ok (x,us)→Va x=true∧depthE x≤4098):=fun x us h=>by
   subst h
   have:=(XI f).1 _ _ _ _ hp
   exact ⟨(Q4 f).1 _ _ _ _ hp fun t ht=>(hsm t ht).1,by omega⟩
  have HI:Hid (∀x at0 err,(match Z2 res with | .error a=>x=yZ∧at0=a∧err=6 | .ok y=>if 24<depthE y then x=yZ∧at0=0∧err=7 else x=y∧at0=0∧err=0)→Zx l x at0 err):=fun x at0 err h=>by
   unfold Zx
   rw [if_neg herr];exact ⟨f,res,hp,h⟩
  obtain ⟨R,hR⟩:∃R,R=w1.heap.size:=⟨_,rfl⟩;obtain ⟨w2,hw2⟩:∃w2,w2=w1.alloc (.cells #[.slice (some ⟨g,0,none⟩) (zv l).1.length cap,.int .i64 0,.bool false] 66):=⟨_,rfl⟩
  have hrd2:z7 R g (false,(zv l).1) w2:=by
   refine ⟨0,cap,(zv l).1,rfl,by rw [hts];simp,?_,by omega,?_,hcap,hmax,by omega,fun j u hj=>?_,hE⟩
   ·rw [hw2,hR];exact World.alloc_heap_new _ _
   ·rw [hw2];simp;omega
   ·rw [hw2];exact zj (hcell j u hj) _
  have hk2:Below w.heap.size w w2:=by rw [hw2];exact hb01.alloc (by omega) _
  have p2:w2.heap[w.heap.size]?=some Ze:=by rw [hw2,Below.heap_alloc _ _ _ (by omega)];exact p1
  have hs2:R<w2.heap.size:=by rw [hw2,hR];simp
  have ce:Calls Tryz.prog 38 #[.pointer (some ⟨R,0,none⟩),.int .i64 0] w2 (Zq R g w2 q):=(zbn R g (2*f+10)).1 _ (Nat.le_refl _) 0 _ q w2 (by omega) hq hrd2
  have HK2:Hid (Below w.heap.size w w2∧w2.heap[w.heap.size]?=some Ze∧R<w2.heap.size∧w.heap.size<R):=⟨hk2,p2,hs2,by omega⟩
  have hw2':=hw2.symm;have h1:(((zv l).2.2:Nat):Int)=0:=by rw [herr0];rfl
  generalize (zv l).2.1=A at *;generalize (zv l).2.2=E at *;subst herr0;generalize (zv l).1.length=LL at *;clear hb0 hs0 p0 p1 hb01 hs1 hb1 hown HB0 hrd2 hk2 p2 hs2 hw2 hcell hcap hmax hgl hg hlen hf hp hq hsm hE hts herr h1;go_wp2_with fail
  rw [←hR];refine ce.mono ?_;clear ce hw2' a0 a1 a2 a3 a4 af hR;rintro e w3 ⟨hk3,v,rfl,hx,hrd⟩;obtain ⟨a,b,c,d0,d1,d2,k,rfl⟩:=hx.agg;obtain ⟨hk2,p2,hs2,hwR⟩:=HK2.out;have hs3:=hk3.size;obtain ⟨N,hN⟩:∃N,N=w3.heap.size:=⟨_,rfl⟩;obtain ⟨w4,hw4⟩:∃w4,w4=w3.alloc (.cells #[.int .i64 a,.string b,.int .i64 c,.slice d0 d1 d2,.int .i64 k] 40):=⟨_,rfl⟩
  have hkW:Below w.heap.size w w4:=by
   rw [hw4];exact Below.alloc ⟨hk3.os.trans hk2.os,hk3.tape.trans hk2.tape,hk3.output.trans hk2.output,Nat.le_trans hk2.size hk3.size,fun i hi=>(hk3.block i (by have:=hk2.size;omega) (by omega)).trans (hk2.block i hi)⟩ (by have:=hk2.size;omega) _
  have p4:w4.heap[w.heap.size]?=some Ze:=by rw [hw4,Below.heap_alloc _ _ _ (by omega),hk3.block _ (by omega) (by omega)];exact p2
  have n4:w4.heap[N]?=some (.cells #[.int .i64 a,.string b,.int .i64 c,.slice d0 d1 d2,.int .i64 k] 40 (0,0)):=by rw [hw4,hN];exact World.alloc_heap_new _ _
  have hx4:Zc w2.heap.size w4 q.1 (.agg #[.int .i64 a,.string b,.int .i64 c,.slice d0 d1 d2,.int .i64 k]):=by rw [hw4];exact Zc.kept hx (by simp) fun i _ hi=>Below.heap_alloc _ _ _ hi
  have hrd4:z7 R g q.2 w4:=by rw [hw4];exact hrd.alloc _
  have HW4:Hid (Below w.heap.size w w4∧w4.heap[w.heap.size]?=some Ze∧w4.heap[N]?=some (.cells #[.int .i64 a,.string b,.int .i64 c,.slice d0 d1 d2,.int .i64 k] 40 (0,0))∧w.heap.size<w2.heap.size∧w.heap.size<N):=⟨hkW,p4,n4,by omega,by omega⟩
  have HX4:Hid (Zc w2.heap.size w4 q.1 (.agg #[.int .i64 a,.string b,.int .i64 c,.slice d0 d1 d2,.int .i64 k])):=hx4;have HR4:Hid (z7 R g q.2 w4):=hrd4;obtain ⟨pp,cp,TS,hbk⟩:=hrd4;obtain ⟨m0,m1,m2,mf⟩:=ZO hbk.blk;have hw4':=hw4.symm;have hN':=hN.symm;have HQ:Hid (x7 res q):=hA
  -- what is done where it is none
  have HNO:Hid (∀W at0 err,Below w4.heap.size w4 W→Zx l yZ at0 err→W.heap[w.heap.size]?=some Ze∧∃(x:Ex) (at1 err1:Nat) (v:Value),(.returned (.tuple #[.agg #[.int .i64 0,.string ⟨#[]⟩,.int .i64 0,.slice none 0 0,.int .i64 0],.int .i64 at0,.int .i64 err]):Ending)=.returned (.tuple #[v,.int .i64 at1,.int .i64 err1])∧Zx l x at1 err1∧Va x=true∧Zc w.heap.size (set5 W w.heap.size (.int .i64 0) (.string ⟨#[]⟩) (.int .i64 0) (.slice none 0 0) (.int .i64 0)) x v∧Below w.heap.size w (set5 W w.heap.size (.int .i64 0) (.string ⟨#[]⟩) (.int .i64 0) (.slice none 0 0) (.int .i64 0))):=by
   intro W at0 err hW hI;obtain ⟨hkW,p4,n4,h9,h8⟩:=HW4.out;have hWW:Below w.heap.size w W:=zu hkW hW
   exact ⟨(hW.block _ (by have:=(Array.getElem?_eq_some_iff.1 p4).1;omega)).trans p4,yZ,at0,err,_,rfl,hI,rfl,.leaf 0 [] 0 0,
    ((((hWW.setCell (p:=⟨w.heap.size,0,none⟩) (by simp) _).setCell (p:=⟨w.heap.size,1,none⟩) (by simp) _).setCell (p:=⟨w.heap.size,2,none⟩) (by simp) _).setCell (p:=⟨w.heap.size,3,none⟩) (by simp) _).setCell (p:=⟨w.heap.size,4,none⟩) (by simp) _⟩
  have hf0:=Y8;have hf4:=qY;clear hk3 hx hrd hk2 p2 hs2 hwR hs3 hN hw4 hkW p4 n4 hx4 hbk HK2 hA;obtain ⟨x,bd,us⟩:=q;simp only at m2;cases bd
  ·
   obtain ⟨y,us',rfl⟩:∃y us',res=.ok (y,us'):=by
    rcases res with a | ⟨y,us'⟩
    ·exact absurd HQ.out.1 (by simp)
    ·exact ⟨y,us',rfl⟩
   obtain ⟨rfl,rfl⟩:x=y∧us=us':=by have:=HQ.out;simp only [x7,Prod.mk.injEq,true_and] at this;exact this
   obtain ⟨t,ht⟩:∃t,t=zz us:=⟨_,rfl⟩;have HT:Hid (t=zz us):=ht;have ct:=VM R g (false,us) w4 HR4.out;simp only at ct;rw [←ht] at ct;clear ht HQ
   by_cases hk0:t.k=0
   ·have hk0':(t.k:Int)=0:=by omega
    obtain ⟨hok,hdp⟩:=HOK.out _ _ rfl
    have HI2:Hid (∀x0 at0 err,(if 24<depthE x then x0=yZ∧at0=0∧err=7 else x0=x∧at0=0∧err=0)→Zx l x0 at0 err):=fun x0 at0 err h=>HI.out x0 at0 err (by
     have:Z2 (.ok (x,us))=.ok x:=by unfold Z2;simp only [←HT.out,if_pos hk0]
     rw [this]
     exact h)
    clear HI HOK;go_wp2_with fail
    refine ct.mono ?_;clear ct m0 m1 m2 mf hw4';rintro e w5 ⟨rfl,hb5⟩;obtain ⟨hkW,p4,n4,h9,h8⟩:=HW4.out;have hs4:=(Array.getElem?_eq_some_iff.1 n4).1;have p5:=(hb5.block _ (by omega)).trans p4
    have n5:=(hb5.block _ hs4).trans n4;have hx5:Zc w2.heap.size w5 x (.agg #[.int .i64 a,.string b,.int .i64 c,.slice d0 d1 d2,.int .i64 k]):=Zc.kept HX4.out hb5.size fun i _ hi=>hb5.block i hi
    have hez:Zs w5.heap.size w5 (UU x) (.agg #[.int .i64 a,.string b,.int .i64 c,.slice d0 d1 d2,.int .i64 k]):=zQ.ez hx5 (fun i _ hi=>hi) hok
    have cd:=uy 4611686018427387904 (UU x) _ w5 (Nat.le_refl _) (by rw [V8];omega) hez
    rw [V8] at cd;have HX5:Hid (Zc w2.heap.size w5 x (.agg #[.int .i64 a,.string b,.int .i64 c,.slice d0 d1 d2,.int .i64 k])∧Below w4.heap.size w4 w5∧w5.heap[N]?=some (.cells #[.int .i64 a,.string b,.int .i64 c,.slice d0 d1 d2,.int .i64 k] 40 (0,0))∧Va x=true∧w.heap.size<w2.heap.size):=⟨hx5,hb5,n5,hok,h9⟩;obtain ⟨e0,e1,e2,e3,e4,ef⟩:=zl n5;clear hkW p4 n4 hs4 p5 n5 hx5 hez hb5 hok h9 h8;simp only [Xc];go_wp2_with fail
    refine cd.mono ?_;clear cd e0 e1 e2 e3 e4 ef;rintro e w6 ⟨rfl,hb6⟩;obtain ⟨hx5,hb5,n5,hok,h9⟩:=HX5.out;have hb46:Below w4.heap.size w4 w6:=zu hb5 hb6
    by_cases hd:24<depthE x
    ·obtain ⟨p6,hres⟩:=HNO.out w6 0 7 hb46 (HI2.out yZ 0 7 (by rw [if_pos hd];exact ⟨rfl,rfl,rfl⟩))
     have HRES:=(show Hid _ from hres)
     have hd':(24:Int)<(depthE x:Int):=by omega
     generalize depthE x=D at *;obtain ⟨q0,q1,q2,q3,q4,qf⟩:=zl p6;obtain ⟨z0,z1,z2,z3,z4⟩:=zt p6 (.int .i64 0) (.string ⟨#[]⟩) (.int .i64 0) (.slice none 0 0) (.int .i64 0);clear hx5 hb5 n5 hok h9 hb46 hb6 p6 hres HX5 HX4 HW4 HI2 HNO HR4;go_wp2
     exact bodyPost_ret (v:=.tuple #[.agg #[.int .i64 0,.string ⟨#[]⟩,.int .i64 0,.slice none 0 0,.int .i64 0],.int .i64 0,.int .i64 7]) (by simp [results,Tryz.results16,go_sem,z0,z1,z2,z3,z4]) rfl HRES.out
    ·obtain ⟨hkW,p4,-,-,h8⟩:=HW4.out
     have hI:=HI2.out x 0 0 (by rw [if_neg hd];exact ⟨rfl,rfl,rfl⟩)
     have hd':¬ (24:Int)<(depthE x:Int):=by omega
     have hl4:=(Array.getElem?_eq_some_iff.1 p4).1;have p6:w6.heap[w.heap.size]?=some Ze:=(hb46.block _ hl4).trans p4;have n6:=(hb6.block _ (Array.getElem?_eq_some_iff.1 n5).1).trans n5;have hx6:Zc w2.heap.size w6 x (.agg #[.int .i64 a,.string b,.int .i64 c,.slice d0 d1 d2,.int .i64 k]):=Zc.kept hx5 hb6.size fun i _ hi=>hb6.block i hi
     have hW6:Below w.heap.size w w6:=zu hkW hb46
     have HRES:Hid (∃(x:Ex) (at1 err1:Nat) (v:Value),(.returned (.tuple #[.agg #[.int .i64 a,.string b,.int .i64 c,.slice d0 d1 d2,.int .i64 k],.int .i64 0,.int .i64 0]):Ending)=.returned (.tuple #[v,.int .i64 at1,.int .i64 err1])∧Zx l x at1 err1∧Va x=true∧Zc w.heap.size (set5 w6 w.heap.size (.int .i64 a) (.string b) (.int .i64 c) (.slice d0 d1 d2) (.int .i64 k)) x v∧Below w.heap.size w (set5 w6 w.heap.size (.int .i64 a) (.string b) (.int .i64 c) (.slice d0 d1 d2) (.int .i64 k))) :=
      ⟨x,0,0,_,rfl,hI,hok,Zc.mono (Zc.kept hx6 (by simp) fun i hi _=>zr _ _ _ _ _ _ _ (by omega)) (by omega),
       ((((hW6.setCell (p:=⟨w.heap.size,0,none⟩) (by simp) _).setCell (p:=⟨w.heap.size,1,none⟩) (by simp) _).setCell (p:=⟨w.heap.size,2,none⟩) (by simp) _).setCell (p:=⟨w.heap.size,3,none⟩) (by simp) _).setCell (p:=⟨w.heap.size,4,none⟩) (by simp) _⟩
     obtain ⟨q0,q1,q2,q3,q4,qf⟩:=zl p6;obtain ⟨e0,e1,e2,e3,e4,ef⟩:=zl n6;obtain ⟨z0,z1,z2,z3,z4⟩:=zt p6 (.int .i64 a) (.string b) (.int .i64 c) (.slice d0 d1 d2) (.int .i64 k);generalize depthE x=D at *;clear hx5 hb5 n5 hok h9 hb46 hb6 p6 n6 hx6 hW6 hkW p4 hl4 hI HX5 HX4 HW4 HI2 HNO HR4;go_wp2
     exact bodyPost_ret (v:=.tuple #[.agg #[.int .i64 a,.string b,.int .i64 c,.slice d0 d1 d2,.int .i64 k],.int .i64 0,.int .i64 0]) (by simp [results,Tryz.results16,go_sem,z0,z1,z2,z3,z4]) rfl HRES.out
   ·have hk0':¬ (t.k:Int)=0:=by omega
    have hk1:((t.k:Int)==0)=false:=by rw [beq_eq_false_iff_ne];exact hk0'
    have hk2:((t.k:Int) != 0)=true:=by simp [bne,hk1]
    have hI:Zx l yZ t.at0 6:=HI.out yZ t.at0 6 (by
     have:Z2 (.ok (x,us))=.error t.at0:=by unfold Z2;simp only [←HT.out,if_neg hk0]
     rw [this]
     exact ⟨rfl,rfl,rfl⟩)
    have HI3:Hid (Zx l yZ t.at0 6):=hI;clear HI HOK hI;go_wp2_with fail
    refine ct.mono ?_;clear ct m0 m1 m2 mf hw4';rintro e w5 ⟨rfl,hb5⟩;have ct2:=VM R g (false,us) w5 (HR4.out.below hb5);simp only at ct2;rw [←HT.out] at ct2;have HB5:Hid (Below w4.heap.size w4 w5):=hb5;clear hb5;simp only [Xc];go_wp2_with fail
    refine ct2.mono ?_;clear ct2;rintro e w6 ⟨rfl,hb6⟩;obtain ⟨p6,hres⟩:=HNO.out w6 t.at0 6 (zu HB5.out hb6) HI3.out;have HRES:=(show Hid _ from hres)
    obtain ⟨q0,q1,q2,q3,q4,qf⟩:=zl p6;obtain ⟨z0,z1,z2,z3,z4⟩:=zt p6 (.int .i64 0) (.string ⟨#[]⟩) (.int .i64 0) (.slice none 0 0) (.int .i64 0);clear hb6 p6 hres HX4 HW4 HI3 HNO HR4 HB5;simp only [Xc];go_wp2
    exact bodyPost_ret (v:=.tuple #[.agg #[.int .i64 0,.string ⟨#[]⟩,.int .i64 0,.slice none 0 0,.int .i64 0],.int .i64 t.at0,.int .i64 6]) (by simp [results,Tryz.results16,go_sem,z0,z1,z2,z3,z4]) rfl HRES.out
  ·
   obtain ⟨a',rfl⟩:∃a',res=.error a':=by
    rcases res with a | ⟨y,us'⟩
    ·exact ⟨a,rfl⟩
    ·have:=HQ.out;simp only [x7,Prod.mk.injEq,Bool.true_eq_false,false_and,and_false] at this
   have hat:(zz us).at0=a':=HQ.out.2;have HI3:Hid (Zx l yZ a' 6):=HI.out yZ a' 6 ⟨rfl,rfl,rfl⟩;have ct:=VM R g (true,us) w4 HR4.out;obtain ⟨t,ht⟩:∃t,t=zz us:=⟨_,rfl⟩;simp only at ct;rw [←ht] at ct hat;subst hat;clear HI HOK HQ ht;go_wp2_with fail
   refine ct.mono ?_;clear ct m0 m1 m2 mf hw4';rintro e w6 ⟨rfl,hb6⟩;obtain ⟨p6,hres⟩:=HNO.out w6 t.at0 6 hb6 HI3.out;have HRES:=(show Hid _ from hres)
   obtain ⟨q0,q1,q2,q3,q4,qf⟩:=zl p6;obtain ⟨z0,z1,z2,z3,z4⟩:=zt p6 (.int .i64 0) (.string ⟨#[]⟩) (.int .i64 0) (.slice none 0 0) (.int .i64 0);clear hb6 p6 hres HX4 HW4 HI3 HNO HR4;simp only [Xc];go_wp2
   exact bodyPost_ret (v:=.tuple #[.agg #[.int .i64 0,.string ⟨#[]⟩,.int .i64 0,.slice none 0 0,.int .i64 0],.int .i64 t.at0,.int .i64 6]) (by simp [results,Tryz.results16,go_sem,z0,z1,z2,z3,z4]) rfl HRES.out
end Go.Proofs.YtdgpapchkpnijaaGreatDoor
