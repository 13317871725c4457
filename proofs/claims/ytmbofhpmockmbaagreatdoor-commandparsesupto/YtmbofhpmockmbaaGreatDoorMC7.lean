import Derived.RangeFuncNested
import Derived.RangeFuncBound
import Derived.RangeFuncCalls
import Derived.RangeFuncLeaves
import Derived.RangeFuncBox
import Derived.Lib.Bytealg
import Derived.Shelf.Abstract
import Derived.Shelf.RegionOpen
import Derived.WalkKit
import Derived.OwnWalkIn
import Derived.TacticsInMore
import Derived.LoopNIn
import Derived.LoopIn
import Derived.Maps.AppendAt
import Derived.Test.YtmbofhpmockmbaaGreatDoorXTk
namespace Go.Proofs.YtmbofhpmockmbaaGreatDoor
open Go.RowKit Go.Shelf
set_option maxHeartbeats 16000000
set_option maxRecDepth 100000
attribute [local go_sem] Oper.semAt_some
theorem qC {x:UInt8} {r:List UInt8} (h:zM x.toNat=true):1≤(Zh (x::r)).length:=by
 unfold Zh;simp [ZK,h]
theorem um:∀(f:Nat) (meant:List UInt8) (at0:Nat) (r:List UInt8),(zz f meant at0 r).e=0→1≤(zz f meant at0 r).sz∧(zz f meant at0 r).sz≤at0+r.length
 | 0,_,_,_,h=>by simp [zz] at h
 | _+1,_,_,[],h=>by simp [zz] at h
 | f+1,meant,at0,x::r,h=>by
  have o:=(Qy (x::r)).1
  unfold zz at h ⊢
  by_cases h1:x.toNat=34
  ·rw [if_pos h1];simp
  ·rw [if_neg h1] at h ⊢
   by_cases h2:(Ym (x::r)).2=0
   ·rw [if_pos h2] at h;simp at h
   ·rw [if_neg h2] at h ⊢
    by_cases h3:meant.length=255
    ·rw [if_pos h3] at h;simp at h
    ·rw [if_neg h3] at h ⊢
     have:=um f _ _ _ h
     rw [List.length_drop] at this;omega
theorem qD (l:List UInt8):bestS l 25=[]∨Lib.hasPrefix l (bestS l 25)=true:=by
 have y:∀(e:List (List UInt8)) (b:List UInt8),(b=[]∨Lib.hasPrefix l b=true)→(e.foldl (longer l) b=[]∨Lib.hasPrefix l (e.foldl (longer l) b)=true):=by
  intro e
  induction e with
  | nil=>intro b o;exact o
  | cons x e ih =>
   intro b o;refine ih _ ?_
   unfold longer
   split
   ·rename_i h;exact .inr h.2
   ·exact o
 exact y _ _ (.inl rfl)
theorem zao {l x:List UInt8} (h:Lib.hasPrefix l x=true):x.length≤l.length:=by
 unfold Lib.hasPrefix at h
 exact (List.isPrefixOf_iff_prefix.1 h).length_le
theorem xJ (l:List UInt8) (he:(zF l).e=0):(zF l).sz≤l.length∧((zF l).k≠0→1≤(zF l).sz)∧((zF l).k=0→l=[]):=by
 cases l with
 | nil=>simp [zF]
 | cons x r =>
  unfold zF at he ⊢
  simp only at he ⊢
  by_cases h1:zM x.toNat=true
  ·rw [if_pos h1] at he ⊢
   have A:=qC (r:=r) h1;have o:=XM (x::r)
   unfold Zo at he ⊢
   split
   ·exact ⟨o,fun _=>A,fun h=>by simp at h⟩
   ·rename_i L
    rw [if_neg L] at he
    split
    ·rename_i D;rw [if_pos D] at he;simp at he
    ·exact ⟨o,fun _=>A,fun h=>by simp at h⟩
  ·rw [if_neg h1] at he ⊢
   by_cases h2:zE x.toNat=true
   ·rw [if_pos h2] at he ⊢
    have A:1≤(digL (x::r)).length:=by unfold digL;simp [h2]
    have o:=UV (x::r)
    unfold ym at he ⊢
    split
    ·exact ⟨o,fun _=>A,fun h=>by simp at h⟩
    ·rename_i E;rw [if_neg E] at he;simp at he
   ·rw [if_neg h2] at he ⊢
    by_cases h3:x.toNat=34
    ·rw [if_pos h3] at he ⊢
     have:=um _ _ _ _ he
     unfold zQ
     have M:∀(f:Nat) (m:List UInt8) (a:Nat) (q:List UInt8),(zz f m a q).e=0→(zz f m a q).k=3:=by
      intro f
      induction f with
      | zero=>intro m a q h;simp [zz] at h
      | succ f ih =>
       intro m a q h;cases q with
       | nil=>simp [zz] at h
       | cons y q =>
        unfold zz at h ⊢
        split
        ·rfl
        ·rename_i K;rw [if_neg K] at h
         split
         ·rename_i G;rw [if_pos G] at h;simp at h
         ·rename_i G;rw [if_neg G] at h
          split
          ·rename_i H;rw [if_pos H] at h;simp at h
          ·rename_i H;rw [if_neg H] at h;exact ih _ _ _ h
     have I:=M _ _ _ _ he;refine ⟨?_,fun _=>this.1,fun h=>by rw [I] at h;simp at h⟩
     have J:=this.2;rw [List.length_drop] at J
     simp at J ⊢
     omega
    ·rw [if_neg h3] at he ⊢
     have z:=qD (x::r)
     unfold ZQ at he ⊢
     generalize bestS (x::r) 25=bb at he z ⊢;cases bb with
     | nil=>simp at he
     | cons y ys =>
      rw [if_neg (by simp)]
      exact ⟨zao (z.resolve_left (by simp)),fun _=>by simp,fun h=>by simp at h⟩
structure Tk where
 k:Nat
 s:List UInt8
 n:Nat
 line:Nat
 at0:Nat
def qE (t:Tk):Value:=.agg #[.int .i64 t.k,.string (za t.s),.int .i64 t.n,.int .i64 t.line,.int .i64 t.at0]
def zv (l:List UInt8) (at0:Nat):TR:=zF (l.drop (at0+ZL (l.drop at0)))
def Zc (l:List UInt8) (line at0:Nat):Nat:=line+Lib.countByte ((l.drop at0).take (ZL (l.drop at0))) 10
def zn (l:List UInt8) (at0:Nat):Nat:=at0+ZL (l.drop at0)
def tkT (l:List UInt8) (line at0:Nat):Tk:=⟨(zv l at0).k,(zv l at0).s,(zv l at0).n,Zc l line at0,zn l at0⟩
theorem Y7 {l:List UInt8} {at0:Nat} (h:at0≤l.length):zn l at0≤l.length:=by
 unfold zn
 have:=VD _ (l.drop at0) (Nat.le_refl _)
 rw [List.length_drop] at this;omega
theorem un (l:List UInt8) (c:UInt8):Lib.countByte l c≤l.length:=List.count_le_length
theorem Uq (lp Bn:Nat) (l:List UInt8) (hlen:l.length≤4096) (J:List Tk→Nat→Nat→World→Prop) (E:List Tk→Nat→Nat→World→Prop)
  (hJc:∀y line a W,(∀t∈y,t.k≠0)→J y line a W→W.cell? ⟨Bn,0,none⟩=some (.string (za l))∧Z4 W∧line≤a+1)
  (hJg:∀y line a W W',J y line a W→Below W.heap.size W W'→J y line a W')
  (hE:∀y line a W1 o,(∀t∈y,t.k≠0)→J y line a W1→(zv l a).e≠0→a≤l.length→YieldAt Fence.wide (6-1) Tryz.prog lp #[qE (tkT l line a),.int .i64 (zv l a).e] (W1.alloc o) fun e W'=>e=.returned (.bool false)∧E y line a W')
  (hY:∀y line a W1 o,(∀t∈y,t.k≠0)→J y line a W1→(zv l a).e=0→a≤l.length→YieldAt Fence.wide (6-1) Tryz.prog lp #[qE (tkT l line a),.int .i64 0] (W1.alloc o) fun e W'=>e=.returned (.bool true)∧J (y++[tkT l line a]) (Zc l line a) (zn l a+(zv l a).sz) W'∧W'.heap[W1.heap.size]?=some o)
  (W:World) (h0:J [] 1 0 W) :
  CallsIn Fence.wide 6 Tryz.prog 138 #[.func (.yield lp) #[] #[],.pointer (some ⟨Bn,0,none⟩)] W fun e W'=>(∃u,e=.returned u) ∧
   ((∃y line a,(∀t∈y,t.k≠0)∧(zv l a).e≠0∧E y line a W')∨∃y line a,(∀t∈y,t.k≠0)∧(zv l a).e=0∧(zv l a).k=0∧J (y++[tkT l line a]) (Zc l line a) (zn l a+(zv l a).sz) W'):=by
 refine callsIn_of_wp Tryz.func138 rfl trivial ?_ rfl;simp only [Tryz.ntmps138,List.size_toArray,List.length_cons,List.length_nil,Nat.reduceAdd,Nat.reduceSub,Array.replicate_succ,Array.replicate_zero,List.push_toArray,List.append_toArray,List.nil_append,List.cons_append]
 gi_wp2
 gi_loopw [3,4,5] (fun vl va vm wr=>(∃y line a,vl=.int .i64 (line:Nat)∧va=.int .i64 (a:Nat)∧vm=.bool true∧a≤l.length∧(∀t∈y,t.k≠0)∧J y line a wr) ∨
   (vm=.bool false∧((∃y line a,(∀t∈y,t.k≠0)∧(zv l a).e≠0∧E y line a wr)∨∃y line a,(∀t∈y,t.k≠0)∧(zv l a).e=0∧(zv l a).k=0∧J (y++[tkT l line a]) (Zc l line a) (zn l a+(zv l a).sz) wr)))
  (fun _ va vm _=>match vm with | .bool true=>l.length+1-(intOf va).toNat | _=>0)
 case atStart=>exact .inl ⟨[],1,0,rfl,rfl,rfl,Nat.zero_le _,(fun t h=>by cases h),h0⟩
 case round =>
  rcases hrel with ⟨y,line,a,rfl,rfl,rfl,ha,U,hJ⟩ | ⟨rfl,af⟩
  ·obtain ⟨hc,L,aq⟩:=hJc _ _ _ _ U hJ
   have HJ:Hid (J y line a wr):=hJ;have D:Hid (∀t∈y,t.k≠0):=U;clear U;have X:Hid (Z4 wr):=L;have Y:=Y7 (l:=l) ha;obtain ⟨g,hg⟩:∃g,g=ZL (l.drop a):=⟨_,rfl⟩;have aa:a+g≤l.length:=by rw [hg];exact Y
   have s1:=fun wx=>yR wx l a ha
   have s2:=fun wx=>Y5 wx l a g aa
   have s3:=fun wx=>yR wx l (a+g) aa
   rw [Int.natCast_add] at s3;have cg:=fun wx=>zal (l.drop a) wx (by rw [List.length_drop];omega)
   rw [←hg] at cg;obtain ⟨cn,I⟩:∃cn,cn=Lib.countByte ((l.drop a).take g) 10:=⟨_,rfl⟩;have ak:cn≤g:=by rw [I];exact Nat.le_trans (un _ _) (List.length_take_le ..)
   have cc:=fun wx=>Tryz.strings_Count_one (za ((l.drop a).take g)) 10 wx
   rw [show (za ((l.drop a).take g)).data.toList=(l.drop a).take g from rfl,←I] at cc
   have ct:=fun wx (h:Z4 wx)=>qB (l.drop (a+g)) wx (by rw [List.length_drop];omega) h
   obtain ⟨R,hR⟩:∃R,R=zF (l.drop (a+g)):=⟨_,rfl⟩;rw [←hR] at ct
   unfold ZD at ct
   have z:Hid (zv l a=R):=show zv l a=R by unfold zv;rw [←hg,←hR]
   have A:Hid (tkT l line a=⟨R.k,R.s,R.n,line+cn,a+g⟩):=show _=_ by unfold tkT Zc zn;rw [z.out,←hg,←I]
   have ae:Hid (∀wx,Calls Tryz.prog 139 #[.string (za (l.drop a))] wx fun e w'=>e=.returned (.int .i64 g)∧wx=w'):=cg
   have V:Hid (∀wx,Calls Tryz.prog 140 #[.string (za ((l.drop a).take g)),.string ⟨#[10]⟩] wx fun e w'=>e=.returned (.int .i64 cn)∧w'=wx):=cc
   have Q:Hid (∀wx,Z4 wx→Calls Tryz.prog 141 #[.string (za (l.drop (a+g)))] wx fun e w'=>e=.returned (.tuple #[.agg #[.int .i64 R.k,.string (za R.s),.int .i64 R.n,.int .i64 0,.int .i64 0],.int .i64 R.sz,.int .i64 R.e])∧Below wx.heap.size wx w'):=ct
   have ag:Hid (R.e=0→R.sz≤l.length-(a+g)∧(R.k≠0→1≤R.sz)):=fun h=>by
    have:=xJ (l.drop (a+g)) (by rw [←hR];exact h)
    rw [←hR,List.length_drop] at this;exact ⟨this.1,this.2.1⟩
   clear cg cc ct hg I hR hJ L Y;have al:line+cn≤5000:=by omega
   have am:a+g≤4096:=by omega
   by_cases he:R.e=0
   ·obtain ⟨ao,aj⟩:=ag.out he
    have O:Hid (∀W1 o,J y line a W1→YieldAt Fence.wide (6-1) Tryz.prog lp #[.agg #[.int .i64 R.k,.string (za R.s),.int .i64 R.n,.int .i64 ((line:Int)+cn),.int .i64 ((a:Int)+g)],.int .i64 0] (W1.alloc o) fun e W'=>e=.returned (.bool true)∧J (y++[tkT l line a]) (line+cn) (a+g+R.sz) W'∧W'.heap[W1.heap.size]?=some o):=fun W1 o h=>by
     have:=hY y line a W1 o D.out h (by rw [z.out];exact he) ha
     rw [A.out,z.out] at this;have e1:Zc l line a=line+cn:=by have:=congrArg Tk.line A.out;exact this
     have e2:zn l a=a+g:=by have:=congrArg Tk.at0 A.out;exact this
     rw [e1,e2] at this
     unfold qE at this
     simp only [Int.natCast_add] at this;rw [A.out];exact this
    rw [he] at Q
    gi_wp2_with (refine ⟨trivial,?_⟩;first
     | (gi_at_call 139;refine (callsIn_wide.2 (ae.out _)).mono ?_;rintro e T ⟨rfl,N⟩;subst N)
     | (gi_at_call 140;refine (callsIn_wide.2 (V.out _)).mono ?_;rintro e T ⟨rfl,N⟩;subst N)
     | (gi_at_call 141;refine (callsIn_wide.2 (Q.out _ X.out)).mono ?_;rintro e T ⟨rfl,M⟩;obtain ⟨fn,ab,H,ad,hy,G⟩:=O.out _ (.cells #[.int .i64 R.k,.string (za R.s),.int .i64 R.n,.int .i64 ((line:Int)+cn),.int .i64 ((a:Int)+g)] 142) (hJg _ _ _ _ _ HJ.out M)))
    refine G.mono ?_;rintro e W3 ⟨rfl,Z,K⟩
    have ap:W3.cell? ⟨T.heap.size,0,none⟩=some (.int .i64 R.k):=by
     rw [cell_of_row W3 T.heap.size 0 _ _ _ K];rfl
    clear G hy K
    by_cases hk:R.k=0
    ·have ah:((R.k:Int) != 0)=false:=by rw [hk];rfl
     gi_wp2
     refine ⟨.inr ⟨rfl,.inr ⟨y,line,a,D.out,by rw [z.out];exact he,by rw [z.out];exact hk,?_⟩⟩,?_⟩
     ·have e1:Zc l line a=line+cn:=by have:=congrArg Tk.line A.out;exact this
      have e2:zn l a=a+g:=by have:=congrArg Tk.at0 A.out;exact this
      rw [e1,e2,z.out];exact Z
     ·simp [intOf];omega
    ·have ah:((R.k:Int) != 0)=true:=by rw [bne_iff_ne];omega
     have an:=aj hk
     gi_wp2
     refine ⟨.inl ⟨_,line+cn,a+g+R.sz,by go_num,by go_num,rfl,by omega,?_,Z⟩,?_⟩
     ·intro t ht
      rcases List.mem_append.1 ht with h | h
      ·exact D.out t h
      ·rw [List.mem_singleton] at h;rw [h,A.out];exact hk
     simp [intOf]
     omega
   ·have O:Hid (∀W1 o,J y line a W1→YieldAt Fence.wide (6-1) Tryz.prog lp #[.agg #[.int .i64 R.k,.string (za R.s),.int .i64 R.n,.int .i64 ((line:Int)+cn),.int .i64 ((a:Int)+g)],.int .i64 R.e] (W1.alloc o) fun e W'=>e=.returned (.bool false)∧E y line a W'):=fun W1 o h=>by
     have:=hE y line a W1 o D.out h (by rw [z.out];exact he) ha
     rw [A.out,z.out] at this
     unfold qE at this
     simp only [Int.natCast_add] at this;exact this
    gi_wp2_with (refine ⟨trivial,?_⟩;first
     | (gi_at_call 139;refine (callsIn_wide.2 (ae.out _)).mono ?_;rintro e T ⟨rfl,N⟩;subst N)
     | (gi_at_call 140;refine (callsIn_wide.2 (V.out _)).mono ?_;rintro e T ⟨rfl,N⟩;subst N)
     | (gi_at_call 141;refine (callsIn_wide.2 (Q.out _ X.out)).mono ?_;rintro e T ⟨rfl,M⟩;obtain ⟨fn,ab,H,ad,hy,G⟩:=O.out _ (.cells #[.int .i64 R.k,.string (za R.s),.int .i64 R.n,.int .i64 ((line:Int)+cn),.int .i64 ((a:Int)+g)] 142) (hJg _ _ _ _ _ HJ.out M)))
    refine G.mono ?_;rintro e W3 ⟨rfl,ai⟩;clear G hy
    gi_wp2
    refine ⟨.inr ⟨rfl,.inl ⟨y,line,a,D.out,by rw [z.out];exact he,ai⟩⟩,?_⟩
    simp [intOf]
    omega
  ·gi_wp2
   go_end0
   exact ⟨⟨_,rfl⟩,af⟩
end Go.Proofs.YtmbofhpmockmbaaGreatDoor
namespace Go.Proofs.YtmbofhpmockmbaaGreatDoor
open Go.RowKit
set_option maxHeartbeats 16000000
set_option maxRecDepth 100000
def Yh (l:List UInt8):Nat→Nat→List Tk→Nat→Nat→Prop
 | line0,a0,[],line,a=>line=line0∧a=a0
 | line0,a0,t::ts,line,a=>(zv l a0).e=0∧t=tkT l line0 a0∧Yh l (Zc l line0 a0) (zn l a0+(zv l a0).sz) ts line a
theorem Xf {l:List UInt8} {line a:Nat} (he:(zv l a).e=0):∀{ts:List Tk} {line0 a0:Nat},Yh l line0 a0 ts line a →
  Yh l line0 a0 (ts++[tkT l line a]) (Zc l line a) (zn l a+(zv l a).sz)
 | [],line0,a0,⟨h1,h2⟩=>by subst h1;subst h2;exact ⟨he,rfl,rfl,rfl⟩
 | t::ts,line0,a0,⟨h1,h2,h3⟩=>⟨h1,h2,Xf he h3⟩
theorem Xg {l:List UInt8} {t:Tk} {line a:Nat}:∀{ts:List Tk} {line0 a0:Nat},Yh l line0 a0 (ts++[t]) line a →
  ∃o y,Yh l line0 a0 ts o y∧(zv l y).e=0∧t=tkT l o y
 | [],line0,a0,h=>⟨line0,a0,⟨rfl,rfl⟩,h.1,h.2.1⟩
 | _::ts,line0,a0,h=>by
  obtain ⟨o,y,D,z,A⟩:=Xg (ts:=ts) h.2.2;exact ⟨o,y,⟨h.1,h.2.1,D⟩,z,A⟩
def scanS (l:List UInt8):Nat→Nat→Nat→List Tk × Nat × Nat
 | 0,_,_=>([],0,0)
 | f+1,line,a =>
  if (zv l a).e≠0 then ([],zn l a,(zv l a).e) else if (zv l a).k=0 then ([tkT l line a],0,0)
  else if (scanS l f (Zc l line a) (zn l a+(zv l a).sz)).2.2≠0 then ([],(scanS l f (Zc l line a) (zn l a+(zv l a).sz)).2.1,(scanS l f (Zc l line a) (zn l a+(zv l a).sz)).2.2)
  else (tkT l line a::(scanS l f (Zc l line a) (zn l a+(zv l a).sz)).1,0,0)
def zp (l:List UInt8):List Tk × Nat × Nat:=if 4096<l.length then ([],0,5) else scanS l (l.length+1) 1 0
theorem yn {l:List UInt8} {a:Nat} (ha:a≤l.length) (he:(zv l a).e=0) (hk:(zv l a).k≠0):a<zn l a+(zv l a).sz∧zn l a+(zv l a).sz≤l.length:=by
 have o:=Y7 ha;have h:=xJ (l.drop (a+ZL (l.drop a))) he;have z:=h.2.1 hk;have y:=h.1;rw [List.length_drop] at y
 unfold zn at o ⊢
 unfold zv
 omega
theorem Vg {l:List UInt8} {line a:Nat} (he:(zv l a).e≠0):∀(ts:List Tk) (line0 a0 f:Nat),Yh l line0 a0 ts line a→(∀t∈ts,t.k≠0)→a0≤l.length→l.length<a0+f →
  scanS l f line0 a0=([],zn l a,(zv l a).e)
 | [],line0,a0,f,⟨h1,h2⟩,_,ha,hf=>by
  subst h1;subst h2;obtain ⟨f,rfl⟩:∃g,f=g+1:=⟨f-1,by omega⟩
  unfold scanS;rw [if_pos he]
 | t::ts,line0,a0,f,⟨h1,h2,h3⟩,hk,ha,hf=>by
  obtain ⟨f,rfl⟩:∃g,f=g+1:=⟨f-1,by omega⟩
  have h:(zv l a0).k≠0:=by have:=hk t (List.mem_cons_self ..);rw [h2] at this;exact this
  have o:=yn ha h1 h;have y:=Vg he ts _ _ f h3 (fun t ht=>hk t (List.mem_cons_of_mem _ ht)) o.2 (by omega)
  unfold scanS
  rw [if_neg (by simp [h1]),if_neg h,y,if_pos he]
theorem Vh {l:List UInt8} {line a:Nat} (he:(zv l a).e=0) (hz:(zv l a).k=0):∀(ts:List Tk) (line0 a0 f:Nat),Yh l line0 a0 ts line a→(∀t∈ts,t.k≠0)→a0≤l.length→l.length<a0+f →
  scanS l f line0 a0=(ts++[tkT l line a],0,0)
 | [],line0,a0,f,⟨h1,h2⟩,_,ha,hf=>by
  subst h1;subst h2;obtain ⟨f,rfl⟩:∃g,f=g+1:=⟨f-1,by omega⟩
  unfold scanS;rw [if_neg (by simp [he]),if_pos hz];rfl
 | t::ts,line0,a0,f,⟨h1,h2,h3⟩,hk,ha,hf=>by
  obtain ⟨f,rfl⟩:∃g,f=g+1:=⟨f-1,by omega⟩
  have h:(zv l a0).k≠0:=by have:=hk t (List.mem_cons_self ..);rw [h2] at this;exact this
  have o:=yn ha h1 h;have y:=Vh he hz ts _ _ f h3 (fun t ht=>hk t (List.mem_cons_of_mem _ ht)) o.2 (by omega)
  unfold scanS
  rw [if_neg (by simp [h1]),if_neg h,y,if_neg (by simp),h2]
  rfl
theorem xx {l:List UInt8} {line a:Nat}:∀(ts:List Tk) (line0 a0:Nat),Yh l line0 a0 ts line a→(∀t∈ts,t.k≠0)→a0≤l.length→line0≤a0+1→a0+ts.length≤a∧a≤l.length∧line≤a+1
 | [],line0,a0,⟨h1,e⟩,_,ha,hl=>by subst h1;subst e;exact ⟨by simp,ha,hl⟩
 | t::ts,line0,a0,⟨h1,e,h3⟩,hk,ha,hl=>by
  have h:(zv l a0).k≠0:=by have:=hk t (List.mem_cons_self ..);rw [e] at this;exact this
  have o:=yn ha h1 h
  have y:Zc l line0 a0≤zn l a0+1:=by
   unfold Zc zn
   have:=un ((l.drop a0).take (ZL (l.drop a0))) 10
   have e:((l.drop a0).take (ZL (l.drop a0))).length≤ZL (l.drop a0):=List.length_take_le ..;omega
  have:=xx ts _ _ h3 (fun t ht=>hk t (List.mem_cons_of_mem _ ht)) o.2 (by omega)
  rw [List.length_cons];omega
def zA (ts:List Tk):List Value:=ts.flatMap fun t=>[.int .i64 t.k,.string (za t.s),.int .i64 t.n,.int .i64 t.line,.int .i64 t.at0]
theorem YV (a b:List Tk):zA (a++b)=zA a++zA b:=by unfold zA;rw [List.flatMap_append]
theorem UW:∀(f:Nat) (meant:List UInt8) (at0:Nat) (r:List UInt8),meant.length≤255→(zz f meant at0 r).s.length≤255
 | 0,_,_,_,_=>by simp [zz]
 | _+1,_,_,[],_=>by simp [zz]
 | f+1,meant,at0,x::r,h=>by
  unfold zz
  split
  ·exact h
  ·split
   ·simp
   ·split
    ·simp
    ·rename_i e
     exact UW f _ _ _ (by rw [List.length_append];simp;omega)
theorem Qz (l:List UInt8):(zF l).s.length≤l.length+255:=by
 cases l with
 | nil=>simp [zF]
 | cons x r =>
  unfold zF
  simp only
  split
  ·have:=XM (x::r)
   unfold Zo
   split
   ·exact Nat.le_trans this (by omega)
   ·split
    ·simp
    ·exact Nat.le_trans this (by omega)
  ·split
   ·unfold ym;split <;> exact Nat.zero_le _
   ·split
    ·have e:(zQ (x::r)).s.length≤255:=UW (x::r).length [] 1 ((x::r).drop 1) (Nat.zero_le _)
     exact Nat.le_trans e (Nat.le_add_left 255 _)
    ·unfold ZQ
     have e:=Ve (x::r) 25;generalize bestS (x::r) 25=bb at e ⊢
     split
     ·exact Nat.zero_le _
     ·have h:2≤(x::r).length+255:=Nat.le_trans (by decide) (Nat.le_add_left 255 _)
      exact Nat.le_trans e h
def QA:Nat→List UInt8→Nat
 | 0,_=>0
 | f+1,l=>if Yg (l.drop (Ze zB l))=true then
   Ze zB l+(Ze zS (l.drop (Ze zB l))+QA f ((l.drop (Ze zB l)).drop (Ze zS (l.drop (Ze zB l)))))
  else Ze zB l
theorem UX:∀(f:Nat) (l:List UInt8),l.length<f→ZL l=QA f l
 | 0,l,h=>by omega
 | f+1,l,h=>by
  rw [ZL,QA]
  by_cases hr:Yg (l.drop (Ze zB l))=true
  ·rw [dif_pos hr,if_pos hr,UX f _ (by
    have:=yT hr
    have e:=y9 zS (l.drop (Ze zB l));simp only [List.length_drop] at *
    omega)]
  ·rw [dif_neg hr,if_neg hr]
theorem QB:ZL=fun l=>QA (l.length+1) l:=funext fun l=>UX _ l (Nat.lt_succ_self _)
def xi (g:List UInt8→Nat) (l:List UInt8) (a:Nat):TR:=zF (l.drop (a+g (l.drop a)))
def uo (g:List UInt8→Nat) (l:List UInt8) (line a:Nat):Nat:=line+Lib.countByte ((l.drop a).take (g (l.drop a))) 10
def xT (g:List UInt8→Nat) (l:List UInt8) (a:Nat):Nat:=a+g (l.drop a)
def tkG (g:List UInt8→Nat) (l:List UInt8) (line a:Nat):Tk:=⟨(xi g l a).k,(xi g l a).s,(xi g l a).n,uo g l line a,xT g l a⟩
def XO (g:List UInt8→Nat) (l:List UInt8):Nat→Nat→Nat→List Tk × Nat × Nat
 | 0,_,_=>([],0,0)
 | f+1,line,a =>
  if (xi g l a).e≠0 then ([],xT g l a,(xi g l a).e) else if (xi g l a).k=0 then ([tkG g l line a],0,0)
  else if (XO g l f (uo g l line a) (xT g l a+(xi g l a).sz)).2.2≠0 then ([],(XO g l f (uo g l line a) (xT g l a+(xi g l a).sz)).2.1,(XO g l f (uo g l line a) (xT g l a+(xi g l a).sz)).2.2)
  else (tkG g l line a::(XO g l f (uo g l line a) (xT g l a+(xi g l a).sz)).1,0,0)
theorem UY (l:List UInt8):∀(f line a:Nat),scanS l f line a=XO ZL l f line a
 | 0,_,_=>rfl
 | f+1,line,a=>by
  unfold scanS XO
  rw [UY l f]
  rfl
def xj (l:List UInt8):List Tk × Nat × Nat:=XO (fun l=>QA (l.length+1) l) l (l.length+1) 1 0
theorem UZ {l:List UInt8} (h:l.length≤4096):zp l=xj l:=by
 unfold zp xj
 rw [if_neg (by omega),UY,QB]
end Go.Proofs.YtmbofhpmockmbaaGreatDoor
