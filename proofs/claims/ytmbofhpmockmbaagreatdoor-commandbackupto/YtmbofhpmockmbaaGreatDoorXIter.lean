import Derived.RangeFuncNested
import Derived.RangeFuncBound
import Derived.RangeFuncCalls
import Derived.RangeFuncLeaves
import Derived.RangeFuncBox
import Derived.Lib.Bytealg
import Derived.Shelf.Abstract
import Derived.Shelf.RegionOpen
import Derived.WalkKit
import Derived.OwnWalkIn
import Derived.TacticsInMore
import Derived.LoopNIn
import Derived.LoopIn
import Derived.Maps.AppendAt
import Derived.Test.YtmbofhpmockmbaaGreatDoorXTk
namespace Go.Proofs.YtmbofhpmockmbaaGreatDoor
open Go.RowKit Go.Shelf
set_option maxHeartbeats 16000000
set_option maxRecDepth 100000
attribute [local go_sem] Oper.semAt_some
theorem vh {x:UInt8} {r:List UInt8} (h:ZI x.toNat=true):1≤(ZH (x::r)).length:=by
 unfold ZH;simp [Yf,h]
theorem xK:∀(f:Nat) (meant:List UInt8) (at0:Nat) (r:List UInt8),(zY f meant at0 r).e=0→1≤(zY f meant at0 r).sz∧(zY f meant at0 r).sz≤at0+r.length
 | 0,_,_,_,h=>by simp [zY] at h
 | _+1,_,_,[],h=>by simp [zY] at h
 | f+1,meant,at0,x::r,h=>by
  have o:=(vY (x::r)).1
  unfold zY at h ⊢
  by_cases h1:x.toNat=34
  ·rw [if_pos h1];simp
  ·rw [if_neg h1] at h ⊢
   by_cases h2:(y5 (x::r)).2=0
   ·rw [if_pos h2] at h;simp at h
   ·rw [if_neg h2] at h ⊢
    by_cases h3:meant.length=255
    ·rw [if_pos h3] at h;simp at h
    ·rw [if_neg h3] at h ⊢
     have:=xK f _ _ _ h
     rw [List.length_drop] at this;omega
theorem vj (l:List UInt8):bestS l 25=[]∨Lib.hasPrefix l (bestS l 25)=true:=by
 have o:∀(e:List (List UInt8)) (b:List UInt8),(b=[]∨Lib.hasPrefix l b=true)→(e.foldl (longer l) b=[]∨Lib.hasPrefix l (e.foldl (longer l) b)=true):=by
  intro e
  induction e with
  | nil=>intro b y;exact y
  | cons x e ih =>
   intro b y;refine ih _ ?_
   unfold longer
   split
   ·rename_i h;exact .inr h.2
   ·exact y
 exact o _ _ (.inl rfl)
theorem Vv {l x:List UInt8} (h:Lib.hasPrefix l x=true):x.length≤l.length:=by
 unfold Lib.hasPrefix at h
 exact (List.isPrefixOf_iff_prefix.1 h).length_le
theorem XR (l:List UInt8) (he:(Zn l).e=0):(Zn l).sz≤l.length∧((Zn l).k≠0→1≤(Zn l).sz)∧((Zn l).k=0→l=[]):=by
 cases l with
 | nil=>simp [Zn]
 | cons x r =>
  unfold Zn at he ⊢
  simp only at he ⊢
  by_cases h1:ZI x.toNat=true
  ·rw [if_pos h1] at he ⊢
   have A:=vh (r:=r) h1;have o:=Yi (x::r)
   unfold Z2 at he ⊢
   split
   ·exact ⟨o,fun _=>A,fun h=>by simp at h⟩
   ·rename_i M
    rw [if_neg M] at he
    split
    ·rename_i G;rw [if_pos G] at he;simp at he
    ·exact ⟨o,fun _=>A,fun h=>by simp at h⟩
  ·rw [if_neg h1] at he ⊢
   by_cases h2:z8 x.toNat=true
   ·rw [if_pos h2] at he ⊢
    have A:1≤(digL (x::r)).length:=by unfold digL;simp [h2]
    have o:=XM (x::r)
    unfold Yj at he ⊢
    split
    ·exact ⟨o,fun _=>A,fun h=>by simp at h⟩
    ·rename_i H;rw [if_neg H] at he;simp at he
   ·rw [if_neg h2] at he ⊢
    by_cases h3:x.toNat=34
    ·rw [if_pos h3] at he ⊢
     have:=xK _ _ _ _ he
     unfold ZR
     have L:∀(f:Nat) (m:List UInt8) (a:Nat) (q:List UInt8),(zY f m a q).e=0→(zY f m a q).k=3:=by
      intro f
      induction f with
      | zero=>intro m a q h;simp [zY] at h
      | succ f ih =>
       intro m a q h;cases q with
       | nil=>simp [zY] at h
       | cons y q =>
        unfold zY at h ⊢
        split
        ·rfl
        ·rename_i K;rw [if_neg K] at h
         split
         ·rename_i D;rw [if_pos D] at h;simp at h
         ·rename_i D;rw [if_neg D] at h
          split
          ·rename_i E;rw [if_pos E] at h;simp at h
          ·rename_i E;rw [if_neg E] at h;exact ih _ _ _ h
     have I:=L _ _ _ _ he;refine ⟨?_,fun _=>this.1,fun h=>by rw [I] at h;simp at h⟩
     have J:=this.2;rw [List.length_drop] at J
     simp at J ⊢
     omega
    ·rw [if_neg h3] at he ⊢
     have z:=vj (x::r)
     unfold yn at he ⊢
     generalize bestS (x::r) 25=bb at he z ⊢;cases bb with
     | nil=>simp at he
     | cons y ys =>
      rw [if_neg (by simp)]
      exact ⟨Vv (z.resolve_left (by simp)),fun _=>by simp,fun h=>by simp at h⟩
structure Tk where
 k:Nat
 s:List UInt8
 n:Nat
 line:Nat
 at0:Nat
def vk (t:Tk):Value:=.agg #[.int .i64 t.k,.string (za t.s),.int .i64 t.n,.int .i64 t.line,.int .i64 t.at0]
def zs (l:List UInt8) (at0:Nat):TR:=Zn (l.drop (at0+ZF (l.drop at0)))
def Zo (l:List UInt8) (line at0:Nat):Nat:=line+Lib.countByte ((l.drop at0).take (ZF (l.drop at0))) 10
def zC (l:List UInt8) (at0:Nat):Nat:=at0+ZF (l.drop at0)
def tkT (l:List UInt8) (line at0:Nat):Tk:=⟨(zs l at0).k,(zs l at0).s,(zs l at0).n,Zo l line at0,zC l at0⟩
theorem YV {l:List UInt8} {at0:Nat} (h:at0≤l.length):zC l at0≤l.length:=by
 unfold zC
 have:=xe _ (l.drop at0) (Nat.le_refl _)
 rw [List.length_drop] at this;omega
theorem xL (l:List UInt8) (c:UInt8):Lib.countByte l c≤l.length:=List.count_le_length
theorem Xl (lp Bn:Nat) (l:List UInt8) (hlen:l.length≤4096) (J:List Tk→Nat→Nat→World→Prop) (E:List Tk→Nat→Nat→World→Prop)
  (hJc:∀x line a W,(∀t∈x,t.k≠0)→J x line a W→W.cell? ⟨Bn,0,none⟩=some (.string (za l))∧Zh W∧line≤a+1)
  (hJg:∀x line a W W',J x line a W→Below W.heap.size W W'→J x line a W')
  (hE:∀x line a W1 o,(∀t∈x,t.k≠0)→J x line a W1→(zs l a).e≠0→a≤l.length→YieldAt Fence.wide (6-1) Tryz.prog lp #[vk (tkT l line a),.int .i64 (zs l a).e] (W1.alloc o) fun e W'=>e=.returned (.bool false)∧E x line a W')
  (hY:∀x line a W1 o,(∀t∈x,t.k≠0)→J x line a W1→(zs l a).e=0→a≤l.length→YieldAt Fence.wide (6-1) Tryz.prog lp #[vk (tkT l line a),.int .i64 0] (W1.alloc o) fun e W'=>e=.returned (.bool true)∧J (x++[tkT l line a]) (Zo l line a) (zC l a+(zs l a).sz) W'∧W'.heap[W1.heap.size]?=some o)
  (W:World) (h0:J [] 1 0 W) :
  CallsIn Fence.wide 6 Tryz.prog 138 #[.func (.yield lp) #[] #[],.pointer (some ⟨Bn,0,none⟩)] W fun e W'=>(∃u,e=.returned u) ∧
   ((∃x line a,(∀t∈x,t.k≠0)∧(zs l a).e≠0∧E x line a W')∨∃x line a,(∀t∈x,t.k≠0)∧(zs l a).e=0∧(zs l a).k=0∧J (x++[tkT l line a]) (Zo l line a) (zC l a+(zs l a).sz) W'):=by
 refine callsIn_of_wp Tryz.func138 rfl trivial ?_ rfl;simp only [Tryz.ntmps138,List.size_toArray,List.length_cons,List.length_nil,Nat.reduceAdd,Nat.reduceSub,Array.replicate_succ,Array.replicate_zero,List.push_toArray,List.append_toArray,List.nil_append,List.cons_append]
 gi_wp2
 gi_loopw [3,4,5] (fun vl va vm wr=>(∃x line a,vl=.int .i64 (line:Nat)∧va=.int .i64 (a:Nat)∧vm=.bool true∧a≤l.length∧(∀t∈x,t.k≠0)∧J x line a wr) ∨
   (vm=.bool false∧((∃x line a,(∀t∈x,t.k≠0)∧(zs l a).e≠0∧E x line a wr)∨∃x line a,(∀t∈x,t.k≠0)∧(zs l a).e=0∧(zs l a).k=0∧J (x++[tkT l line a]) (Zo l line a) (zC l a+(zs l a).sz) wr)))
  (fun _ va vm _=>match vm with | .bool true=>l.length+1-(intOf va).toNat | _=>0)
 case atStart=>exact .inl ⟨[],1,0,rfl,rfl,rfl,Nat.zero_le _,(fun t h=>by cases h),h0⟩
 case round =>
  rcases hrel with ⟨x,line,a,rfl,rfl,rfl,ha,Q,hJ⟩ | ⟨rfl,ad⟩
  ·obtain ⟨hc,I,ao⟩:=hJc _ _ _ _ Q hJ
   have HJ:Hid (J x line a wr):=hJ;have A:Hid (∀t∈x,t.k≠0):=Q;clear Q;have V:Hid (Zh wr):=I;have U:=YV (l:=l) ha;obtain ⟨g,Z⟩:∃g,g=ZF (l.drop a):=⟨_,rfl⟩;have ab:a+g≤l.length:=by rw [Z];exact U
   have s1:=fun wx=>yi wx l a ha
   have s2:=fun wx=>Vq wx l a g ab
   have s3:=fun wx=>yi wx l (a+g) ab
   rw [Int.natCast_add] at s3;have cg:=fun wx=>Vs (l.drop a) wx (by rw [List.length_drop];omega)
   rw [←Z] at cg;obtain ⟨cn,G⟩:∃cn,cn=Lib.countByte ((l.drop a).take g) 10:=⟨_,rfl⟩;have am:cn≤g:=by rw [G];exact Nat.le_trans (xL _ _) (List.length_take_le ..)
   have cc:=fun wx=>Tryz.strings_Count_one (za ((l.drop a).take g)) 10 wx
   rw [show (za ((l.drop a).take g)).data.toList=(l.drop a).take g from rfl,←G] at cc
   have ct:=fun wx (h:Zh wx)=>vg (l.drop (a+g)) wx (by rw [List.length_drop];omega) h
   obtain ⟨R,T⟩:∃R,R=Zn (l.drop (a+g)):=⟨_,rfl⟩;rw [←T] at ct
   unfold zT at ct
   have y:Hid (zs l a=R):=show zs l a=R by unfold zs;rw [←Z,←T]
   have z:Hid (tkT l line a=⟨R.k,R.s,R.n,line+cn,a+g⟩):=show _=_ by unfold tkT Zo zC;rw [y.out,←Z,←G]
   have af:Hid (∀wx,Calls Tryz.prog 139 #[.string (za (l.drop a))] wx fun e w'=>e=.returned (.int .i64 g)∧wx=w'):=cg
   have ae:Hid (∀wx,Calls Tryz.prog 140 #[.string (za ((l.drop a).take g)),.string ⟨#[10]⟩] wx fun e w'=>e=.returned (.int .i64 cn)∧w'=wx):=cc
   have O:Hid (∀wx,Zh wx→Calls Tryz.prog 141 #[.string (za (l.drop (a+g)))] wx fun e w'=>e=.returned (.tuple #[.agg #[.int .i64 R.k,.string (za R.s),.int .i64 R.n,.int .i64 0,.int .i64 0],.int .i64 R.sz,.int .i64 R.e])∧Below wx.heap.size wx w'):=ct
   have ag:Hid (R.e=0→R.sz≤l.length-(a+g)∧(R.k≠0→1≤R.sz)):=fun h=>by
    have:=XR (l.drop (a+g)) (by rw [←T];exact h)
    rw [←T,List.length_drop] at this;exact ⟨this.1,this.2.1⟩
   clear cg cc ct Z G T hJ I U;have al:line+cn≤5000:=by omega
   have an:a+g≤4096:=by omega
   by_cases he:R.e=0
   ·obtain ⟨ap,aj⟩:=ag.out he
    have S:Hid (∀W1 o,J x line a W1→YieldAt Fence.wide (6-1) Tryz.prog lp #[.agg #[.int .i64 R.k,.string (za R.s),.int .i64 R.n,.int .i64 ((line:Int)+cn),.int .i64 ((a:Int)+g)],.int .i64 0] (W1.alloc o) fun e W'=>e=.returned (.bool true)∧J (x++[tkT l line a]) (line+cn) (a+g+R.sz) W'∧W'.heap[W1.heap.size]?=some o):=fun W1 o h=>by
     have:=hY x line a W1 o A.out h (by rw [y.out];exact he) ha
     rw [z.out,y.out] at this;have e1:Zo l line a=line+cn:=by have:=congrArg Tk.line z.out;exact this
     have e2:zC l a=a+g:=by have:=congrArg Tk.at0 z.out;exact this
     rw [e1,e2] at this
     unfold vk at this
     simp only [Int.natCast_add] at this;rw [z.out];exact this
    rw [he] at O
    gi_wp2_with (refine ⟨trivial,?_⟩;first
     | (gi_at_call 139;refine (callsIn_wide.2 (af.out _)).mono ?_;rintro e L ⟨rfl,N⟩;subst N)
     | (gi_at_call 140;refine (callsIn_wide.2 (ae.out _)).mono ?_;rintro e L ⟨rfl,N⟩;subst N)
     | (gi_at_call 141;refine (callsIn_wide.2 (O.out _ V.out)).mono ?_;rintro e L ⟨rfl,M⟩;obtain ⟨fn,X,H,aa,hy,D⟩:=S.out _ (.cells #[.int .i64 R.k,.string (za R.s),.int .i64 R.n,.int .i64 ((line:Int)+cn),.int .i64 ((a:Int)+g)] 142) (hJg _ _ _ _ _ HJ.out M)))
    refine D.mono ?_;rintro e W3 ⟨rfl,Y,K⟩
    have aq:W3.cell? ⟨L.heap.size,0,none⟩=some (.int .i64 R.k):=by
     rw [cell_of_row W3 L.heap.size 0 _ _ _ K];rfl
    clear D hy K
    by_cases hk:R.k=0
    ·have ah:((R.k:Int) != 0)=false:=by rw [hk];rfl
     gi_wp2
     refine ⟨.inr ⟨rfl,.inr ⟨x,line,a,A.out,by rw [y.out];exact he,by rw [y.out];exact hk,?_⟩⟩,?_⟩
     ·have e1:Zo l line a=line+cn:=by have:=congrArg Tk.line z.out;exact this
      have e2:zC l a=a+g:=by have:=congrArg Tk.at0 z.out;exact this
      rw [e1,e2,y.out];exact Y
     ·simp [intOf];omega
    ·have ah:((R.k:Int) != 0)=true:=by rw [bne_iff_ne];omega
     have ak:=aj hk
     gi_wp2
     refine ⟨.inl ⟨_,line+cn,a+g+R.sz,by go_num,by go_num,rfl,by omega,?_,Y⟩,?_⟩
     ·intro t ht
      rcases List.mem_append.1 ht with h | h
      ·exact A.out t h
      ·rw [List.mem_singleton] at h;rw [h,z.out];exact hk
     simp [intOf]
     omega
   ·have S:Hid (∀W1 o,J x line a W1→YieldAt Fence.wide (6-1) Tryz.prog lp #[.agg #[.int .i64 R.k,.string (za R.s),.int .i64 R.n,.int .i64 ((line:Int)+cn),.int .i64 ((a:Int)+g)],.int .i64 R.e] (W1.alloc o) fun e W'=>e=.returned (.bool false)∧E x line a W'):=fun W1 o h=>by
     have:=hE x line a W1 o A.out h (by rw [y.out];exact he) ha
     rw [z.out,y.out] at this
     unfold vk at this
     simp only [Int.natCast_add] at this;exact this
    gi_wp2_with (refine ⟨trivial,?_⟩;first
     | (gi_at_call 139;refine (callsIn_wide.2 (af.out _)).mono ?_;rintro e L ⟨rfl,N⟩;subst N)
     | (gi_at_call 140;refine (callsIn_wide.2 (ae.out _)).mono ?_;rintro e L ⟨rfl,N⟩;subst N)
     | (gi_at_call 141;refine (callsIn_wide.2 (O.out _ V.out)).mono ?_;rintro e L ⟨rfl,M⟩;obtain ⟨fn,X,H,aa,hy,D⟩:=S.out _ (.cells #[.int .i64 R.k,.string (za R.s),.int .i64 R.n,.int .i64 ((line:Int)+cn),.int .i64 ((a:Int)+g)] 142) (hJg _ _ _ _ _ HJ.out M)))
    refine D.mono ?_;rintro e W3 ⟨rfl,ai⟩;clear D hy
    gi_wp2
    refine ⟨.inr ⟨rfl,.inl ⟨x,line,a,A.out,by rw [y.out];exact he,ai⟩⟩,?_⟩
    simp [intOf]
    omega
  ·gi_wp2
   go_end0
   exact ⟨⟨_,rfl⟩,ad⟩
end Go.Proofs.YtmbofhpmockmbaaGreatDoor
