import Derived.RangeFuncNested
import Derived.RangeFuncBound
import Derived.RangeFuncCalls
import Derived.RangeFuncLeaves
import Derived.RangeFuncBox
import Derived.Lib.Bytealg
import Derived.Shelf.Abstract
import Derived.Shelf.RegionOpen
import Derived.WalkKit
import Derived.OwnWalkIn
import Derived.TacticsInMore
import Derived.LoopNIn
import Derived.LoopIn
import Derived.Maps.AppendAt
import Derived.Test.YtmbofhpmockmbaaGreatDoorXTk
namespace Go.Proofs.YtmbofhpmockmbaaGreatDoor
open Go.RowKit Go.Shelf
set_option maxHeartbeats 16000000
set_option maxRecDepth 100000
attribute [local go_sem] Oper.semAt_some
theorem qb {x:UInt8} {r:List UInt8} (h:zK x.toNat=true):1≤(Ze (x::r)).length:=by
 unfold Ze;simp [ZG,h]
theorem VX:∀(f:Nat) (meant:List UInt8) (at0:Nat) (r:List UInt8),(zx f meant at0 r).e=0→1≤(zx f meant at0 r).sz∧(zx f meant at0 r).sz≤at0+r.length
 | 0,_,_,_,h=>by simp [zx] at h
 | _+1,_,_,[],h=>by simp [zx] at h
 | f+1,meant,at0,x::r,h=>by
  have o:=(Qb (x::r)).1
  unfold zx at h ⊢
  by_cases h1:x.toNat=34
  ·rw [if_pos h1];simp
  ·rw [if_neg h1] at h ⊢
   by_cases h2:(Ye (x::r)).2=0
   ·rw [if_pos h2] at h;simp at h
   ·rw [if_neg h2] at h ⊢
    by_cases h3:meant.length=255
    ·rw [if_pos h3] at h;simp at h
    ·rw [if_neg h3] at h ⊢
     have:=VX f _ _ _ h
     rw [List.length_drop] at this;omega
theorem qc (l:List UInt8):bestS l 25=[]∨Lib.hasPrefix l (bestS l 25)=true:=by
 have o:∀(e:List (List UInt8)) (b:List UInt8),(b=[]∨Lib.hasPrefix l b=true)→(e.foldl (longer l) b=[]∨Lib.hasPrefix l (e.foldl (longer l) b)=true):=by
  intro e
  induction e with
  | nil=>intro b y;exact y
  | cons x e ih =>
   intro b y;refine ih _ ?_
   unfold longer
   split
   ·rename_i h;exact .inr h.2
   ·exact y
 exact o _ _ (.inl rfl)
theorem QY {l x:List UInt8} (h:Lib.hasPrefix l x=true):x.length≤l.length:=by
 unfold Lib.hasPrefix at h
 exact (List.isPrefixOf_iff_prefix.1 h).length_le
theorem xy (l:List UInt8) (he:(zD l).e=0):(zD l).sz≤l.length∧((zD l).k≠0→1≤(zD l).sz)∧((zD l).k=0→l=[]):=by
 cases l with
 | nil=>simp [zD]
 | cons x r =>
  unfold zD at he ⊢
  simp only at he ⊢
  by_cases h1:zK x.toNat=true
  ·rw [if_pos h1] at he ⊢
   have A:=qb (r:=r) h1;have o:=Xy (x::r)
   unfold Zk at he ⊢
   split
   ·exact ⟨o,fun _=>A,fun h=>by simp at h⟩
   ·rename_i M
    rw [if_neg M] at he
    split
    ·rename_i G;rw [if_pos G] at he;simp at he
    ·exact ⟨o,fun _=>A,fun h=>by simp at h⟩
  ·rw [if_neg h1] at he ⊢
   by_cases h2:zC x.toNat=true
   ·rw [if_pos h2] at he ⊢
    have A:1≤(digL (x::r)).length:=by unfold digL;simp [h2]
    have o:=UD (x::r)
    unfold yj at he ⊢
    split
    ·exact ⟨o,fun _=>A,fun h=>by simp at h⟩
    ·rename_i D;rw [if_neg D] at he;simp at he
   ·rw [if_neg h2] at he ⊢
    by_cases h3:x.toNat=34
    ·rw [if_pos h3] at he ⊢
     have:=VX _ _ _ _ he
     unfold zO
     have L:∀(f:Nat) (m:List UInt8) (a:Nat) (q:List UInt8),(zx f m a q).e=0→(zx f m a q).k=3:=by
      intro f
      induction f with
      | zero=>intro m a q h;simp [zx] at h
      | succ f ih =>
       intro m a q h;cases q with
       | nil=>simp [zx] at h
       | cons y q =>
        unfold zx at h ⊢
        split
        ·rfl
        ·rename_i K;rw [if_neg K] at h
         split
         ·rename_i E;rw [if_pos E] at h;simp at h
         ·rename_i E;rw [if_neg E] at h
          split
          ·rename_i I;rw [if_pos I] at h;simp at h
          ·rename_i I;rw [if_neg I] at h;exact ih _ _ _ h
     have H:=L _ _ _ _ he;refine ⟨?_,fun _=>this.1,fun h=>by rw [H] at h;simp at h⟩
     have J:=this.2;rw [List.length_drop] at J
     simp at J ⊢
     omega
    ·rw [if_neg h3] at he ⊢
     have z:=qc (x::r)
     unfold ZM at he ⊢
     generalize bestS (x::r) 25=bb at he z ⊢;cases bb with
     | nil=>simp at he
     | cons y ys =>
      rw [if_neg (by simp)]
      exact ⟨QY (z.resolve_left (by simp)),fun _=>by simp,fun h=>by simp at h⟩
structure Tk where
 k:Nat
 s:List UInt8
 n:Nat
 line:Nat
 at0:Nat
def qd (t:Tk):Value:=.agg #[.int .i64 t.k,.string (za t.s),.int .i64 t.n,.int .i64 t.line,.int .i64 t.at0]
def zt (l:List UInt8) (at0:Nat):TR:=zD (l.drop (at0+ZH (l.drop at0)))
def z8 (l:List UInt8) (line at0:Nat):Nat:=line+Lib.countByte ((l.drop at0).take (ZH (l.drop at0))) 10
def zl (l:List UInt8) (at0:Nat):Nat:=at0+ZH (l.drop at0)
def tkT (l:List UInt8) (line at0:Nat):Tk:=⟨(zt l at0).k,(zt l at0).s,(zt l at0).n,z8 l line at0,zl l at0⟩
theorem YY {l:List UInt8} {at0:Nat} (h:at0≤l.length):zl l at0≤l.length:=by
 unfold zl
 have:=Vi _ (l.drop at0) (Nat.le_refl _)
 rw [List.length_drop] at this;omega
theorem VY (l:List UInt8) (c:UInt8):Lib.countByte l c≤l.length:=List.count_le_length
theorem uT (lp Bn:Nat) (l:List UInt8) (hlen:l.length≤4096) (J:List Tk→Nat→Nat→World→Prop) (E:List Tk→Nat→Nat→World→Prop)
  (hJc:∀y line a W,(∀t∈y,t.k≠0)→J y line a W→W.cell? ⟨Bn,0,none⟩=some (.string (za l))∧Z1 W∧line≤a+1)
  (hJg:∀y line a W W',J y line a W→Below W.heap.size W W'→J y line a W')
  (hE:∀y line a W1 o,(∀t∈y,t.k≠0)→J y line a W1→(zt l a).e≠0→a≤l.length→YieldAt Fence.wide (6-1) Tryz.prog lp #[qd (tkT l line a),.int .i64 (zt l a).e] (W1.alloc o) fun e W'=>e=.returned (.bool false)∧E y line a W')
  (hY:∀y line a W1 o,(∀t∈y,t.k≠0)→J y line a W1→(zt l a).e=0→a≤l.length→YieldAt Fence.wide (6-1) Tryz.prog lp #[qd (tkT l line a),.int .i64 0] (W1.alloc o) fun e W'=>e=.returned (.bool true)∧J (y++[tkT l line a]) (z8 l line a) (zl l a+(zt l a).sz) W'∧W'.heap[W1.heap.size]?=some o)
  (W:World) (h0:J [] 1 0 W) :
  CallsIn Fence.wide 6 Tryz.prog 138 #[.func (.yield lp) #[] #[],.pointer (some ⟨Bn,0,none⟩)] W fun e W'=>(∃u,e=.returned u) ∧
   ((∃y line a,(∀t∈y,t.k≠0)∧(zt l a).e≠0∧E y line a W')∨∃y line a,(∀t∈y,t.k≠0)∧(zt l a).e=0∧(zt l a).k=0∧J (y++[tkT l line a]) (z8 l line a) (zl l a+(zt l a).sz) W'):=by
 refine callsIn_of_wp Tryz.func138 rfl trivial ?_ rfl;simp only [Tryz.ntmps138,List.size_toArray,List.length_cons,List.length_nil,Nat.reduceAdd,Nat.reduceSub,Array.replicate_succ,Array.replicate_zero,List.push_toArray,List.append_toArray,List.nil_append,List.cons_append]
 gi_wp2
 gi_loopw [3,4,5] (fun vl va vm wr=>(∃y line a,vl=.int .i64 (line:Nat)∧va=.int .i64 (a:Nat)∧vm=.bool true∧a≤l.length∧(∀t∈y,t.k≠0)∧J y line a wr) ∨
   (vm=.bool false∧((∃y line a,(∀t∈y,t.k≠0)∧(zt l a).e≠0∧E y line a wr)∨∃y line a,(∀t∈y,t.k≠0)∧(zt l a).e=0∧(zt l a).k=0∧J (y++[tkT l line a]) (z8 l line a) (zl l a+(zt l a).sz) wr)))
  (fun _ va vm _=>match vm with | .bool true=>l.length+1-(intOf va).toNat | _=>0)
 case atStart=>exact .inl ⟨[],1,0,rfl,rfl,rfl,Nat.zero_le _,(fun t h=>by cases h),h0⟩
 case round =>
  rcases hrel with ⟨y,line,a,rfl,rfl,rfl,ha,T,hJ⟩ | ⟨rfl,ae⟩
  ·obtain ⟨hc,L,ap⟩:=hJc _ _ _ _ T hJ
   have HJ:Hid (J y line a wr):=hJ;have G:Hid (∀t∈y,t.k≠0):=T;clear T;have ag:Hid (Z1 wr):=L;have af:=YY (l:=l) ha;obtain ⟨g,hg⟩:∃g,g=ZH (l.drop a):=⟨_,rfl⟩;have ab:a+g≤l.length:=by rw [hg];exact af
   have s1:=fun wx=>YJ wx l a ha
   have s2:=fun wx=>YW wx l a g ab
   have s3:=fun wx=>YJ wx l (a+g) ab
   rw [Int.natCast_add] at s3;have cg:=fun wx=>QV (l.drop a) wx (by rw [List.length_drop];omega)
   rw [←hg] at cg;obtain ⟨cn,I⟩:∃cn,cn=Lib.countByte ((l.drop a).take g) 10:=⟨_,rfl⟩;have an:cn≤g:=by rw [I];exact Nat.le_trans (VY _ _) (List.length_take_le ..)
   have cc:=fun wx=>Tryz.strings_Count_one (za ((l.drop a).take g)) 10 wx
   rw [show (za ((l.drop a).take g)).data.toList=(l.drop a).take g from rfl,←I] at cc
   have ct:=fun wx (h:Z1 wx)=>qa (l.drop (a+g)) wx (by rw [List.length_drop];omega) h
   obtain ⟨R,Z⟩:∃R,R=zD (l.drop (a+g)):=⟨_,rfl⟩;rw [←Z] at ct
   unfold Zx at ct
   have z:Hid (zt l a=R):=show zt l a=R by unfold zt;rw [←hg,←Z]
   have A:Hid (tkT l line a=⟨R.k,R.s,R.n,line+cn,a+g⟩):=show _=_ by unfold tkT z8 zl;rw [z.out,←hg,←I]
   have X:Hid (∀wx,Calls Tryz.prog 139 #[.string (za (l.drop a))] wx fun e w'=>e=.returned (.int .i64 g)∧wx=w'):=cg
   have aa:Hid (∀wx,Calls Tryz.prog 140 #[.string (za ((l.drop a).take g)),.string ⟨#[10]⟩] wx fun e w'=>e=.returned (.int .i64 cn)∧w'=wx):=cc
   have Q:Hid (∀wx,Z1 wx→Calls Tryz.prog 141 #[.string (za (l.drop (a+g)))] wx fun e w'=>e=.returned (.tuple #[.agg #[.int .i64 R.k,.string (za R.s),.int .i64 R.n,.int .i64 0,.int .i64 0],.int .i64 R.sz,.int .i64 R.e])∧Below wx.heap.size wx w'):=ct
   have ai:Hid (R.e=0→R.sz≤l.length-(a+g)∧(R.k≠0→1≤R.sz)):=fun h=>by
    have:=xy (l.drop (a+g)) (by rw [←Z];exact h)
    rw [←Z,List.length_drop] at this;exact ⟨this.1,this.2.1⟩
   clear cg cc ct hg I Z hJ L af;have am:line+cn≤5000:=by omega
   have ao:a+g≤4096:=by omega
   by_cases he:R.e=0
   ·obtain ⟨ar,aj⟩:=ai.out he
    have U:Hid (∀W1 o,J y line a W1→YieldAt Fence.wide (6-1) Tryz.prog lp #[.agg #[.int .i64 R.k,.string (za R.s),.int .i64 R.n,.int .i64 ((line:Int)+cn),.int .i64 ((a:Int)+g)],.int .i64 0] (W1.alloc o) fun e W'=>e=.returned (.bool true)∧J (y++[tkT l line a]) (line+cn) (a+g+R.sz) W'∧W'.heap[W1.heap.size]?=some o):=fun W1 o h=>by
     have:=hY y line a W1 o G.out h (by rw [z.out];exact he) ha
     rw [A.out,z.out] at this;have e1:z8 l line a=line+cn:=by have:=congrArg Tk.line A.out;exact this
     have e2:zl l a=a+g:=by have:=congrArg Tk.at0 A.out;exact this
     rw [e1,e2] at this
     unfold qd at this
     simp only [Int.natCast_add] at this;rw [A.out];exact this
    rw [he] at Q
    gi_wp2_with (refine ⟨trivial,?_⟩;first
     | (gi_at_call 139;refine (callsIn_wide.2 (X.out _)).mono ?_;rintro e M ⟨rfl,O⟩;subst O)
     | (gi_at_call 140;refine (callsIn_wide.2 (aa.out _)).mono ?_;rintro e M ⟨rfl,O⟩;subst O)
     | (gi_at_call 141;refine (callsIn_wide.2 (Q.out _ ag.out)).mono ?_;rintro e M ⟨rfl,N⟩;obtain ⟨fn,ad,H,V,hy,D⟩:=U.out _ (.cells #[.int .i64 R.k,.string (za R.s),.int .i64 R.n,.int .i64 ((line:Int)+cn),.int .i64 ((a:Int)+g)] 142) (hJg _ _ _ _ _ HJ.out N)))
    refine D.mono ?_;rintro e W3 ⟨rfl,Y,K⟩
    have aq:W3.cell? ⟨M.heap.size,0,none⟩=some (.int .i64 R.k):=by
     rw [cell_of_row W3 M.heap.size 0 _ _ _ K];rfl
    clear D hy K
    by_cases hk:R.k=0
    ·have ah:((R.k:Int) != 0)=false:=by rw [hk];rfl
     gi_wp2
     refine ⟨.inr ⟨rfl,.inr ⟨y,line,a,G.out,by rw [z.out];exact he,by rw [z.out];exact hk,?_⟩⟩,?_⟩
     ·have e1:z8 l line a=line+cn:=by have:=congrArg Tk.line A.out;exact this
      have e2:zl l a=a+g:=by have:=congrArg Tk.at0 A.out;exact this
      rw [e1,e2,z.out];exact Y
     ·simp [intOf];omega
    ·have ah:((R.k:Int) != 0)=true:=by rw [bne_iff_ne];omega
     have al:=aj hk
     gi_wp2
     refine ⟨.inl ⟨_,line+cn,a+g+R.sz,by go_num,by go_num,rfl,by omega,?_,Y⟩,?_⟩
     ·intro t ht
      rcases List.mem_append.1 ht with h | h
      ·exact G.out t h
      ·rw [List.mem_singleton] at h;rw [h,A.out];exact hk
     simp [intOf]
     omega
   ·have U:Hid (∀W1 o,J y line a W1→YieldAt Fence.wide (6-1) Tryz.prog lp #[.agg #[.int .i64 R.k,.string (za R.s),.int .i64 R.n,.int .i64 ((line:Int)+cn),.int .i64 ((a:Int)+g)],.int .i64 R.e] (W1.alloc o) fun e W'=>e=.returned (.bool false)∧E y line a W'):=fun W1 o h=>by
     have:=hE y line a W1 o G.out h (by rw [z.out];exact he) ha
     rw [A.out,z.out] at this
     unfold qd at this
     simp only [Int.natCast_add] at this;exact this
    gi_wp2_with (refine ⟨trivial,?_⟩;first
     | (gi_at_call 139;refine (callsIn_wide.2 (X.out _)).mono ?_;rintro e M ⟨rfl,O⟩;subst O)
     | (gi_at_call 140;refine (callsIn_wide.2 (aa.out _)).mono ?_;rintro e M ⟨rfl,O⟩;subst O)
     | (gi_at_call 141;refine (callsIn_wide.2 (Q.out _ ag.out)).mono ?_;rintro e M ⟨rfl,N⟩;obtain ⟨fn,ad,H,V,hy,D⟩:=U.out _ (.cells #[.int .i64 R.k,.string (za R.s),.int .i64 R.n,.int .i64 ((line:Int)+cn),.int .i64 ((a:Int)+g)] 142) (hJg _ _ _ _ _ HJ.out N)))
    refine D.mono ?_;rintro e W3 ⟨rfl,ak⟩;clear D hy
    gi_wp2
    refine ⟨.inr ⟨rfl,.inl ⟨y,line,a,G.out,by rw [z.out];exact he,ak⟩⟩,?_⟩
    simp [intOf]
    omega
  ·gi_wp2
   go_end0
   exact ⟨⟨_,rfl⟩,ae⟩
end Go.Proofs.YtmbofhpmockmbaaGreatDoor
namespace Go.Proofs.YtmbofhpmockmbaaGreatDoor
open Go.RowKit
set_option maxHeartbeats 16000000
set_option maxRecDepth 100000
def y9 (l:List UInt8):Nat→Nat→List Tk→Nat→Nat→Prop
 | line0,a0,[],line,a=>line=line0∧a=a0
 | line0,a0,t::ts,line,a=>(zt l a0).e=0∧t=tkT l line0 a0∧y9 l (z8 l line0 a0) (zl l a0+(zt l a0).sz) ts line a
theorem xZ {l:List UInt8} {line a:Nat} (he:(zt l a).e=0):∀{ts:List Tk} {line0 a0:Nat},y9 l line0 a0 ts line a →
  y9 l line0 a0 (ts++[tkT l line a]) (z8 l line a) (zl l a+(zt l a).sz)
 | [],line0,a0,⟨h1,h2⟩=>by subst h1;subst h2;exact ⟨he,rfl,rfl,rfl⟩
 | t::ts,line0,a0,⟨h1,h2,h3⟩=>⟨h1,h2,xZ he h3⟩
theorem x6 {l:List UInt8} {t:Tk} {line a:Nat}:∀{ts:List Tk} {line0 a0:Nat},y9 l line0 a0 (ts++[t]) line a →
  ∃o y,y9 l line0 a0 ts o y∧(zt l y).e=0∧t=tkT l o y
 | [],line0,a0,h=>⟨line0,a0,⟨rfl,rfl⟩,h.1,h.2.1⟩
 | _::ts,line0,a0,h=>by
  obtain ⟨o,y,D,A,z⟩:=x6 (ts:=ts) h.2.2;exact ⟨o,y,⟨h.1,h.2.1,D⟩,A,z⟩
def scanS (l:List UInt8):Nat→Nat→Nat→List Tk × Nat × Nat
 | 0,_,_=>([],0,0)
 | f+1,line,a =>
  if (zt l a).e≠0 then ([],zl l a,(zt l a).e) else if (zt l a).k=0 then ([tkT l line a],0,0)
  else if (scanS l f (z8 l line a) (zl l a+(zt l a).sz)).2.2≠0 then ([],(scanS l f (z8 l line a) (zl l a+(zt l a).sz)).2.1,(scanS l f (z8 l line a) (zl l a+(zt l a).sz)).2.2)
  else (tkT l line a::(scanS l f (z8 l line a) (zl l a+(zt l a).sz)).1,0,0)
def zn (l:List UInt8):List Tk × Nat × Nat:=if 4096<l.length then ([],0,5) else scanS l (l.length+1) 1 0
theorem yk {l:List UInt8} {a:Nat} (ha:a≤l.length) (he:(zt l a).e=0) (hk:(zt l a).k≠0):a<zl l a+(zt l a).sz∧zl l a+(zt l a).sz≤l.length:=by
 have y:=YY ha;have h:=xy (l.drop (a+ZH (l.drop a))) he;have z:=h.2.1 hk;have o:=h.1;rw [List.length_drop] at o
 unfold zl at y ⊢
 unfold zt
 omega
theorem vP {l:List UInt8} {line a:Nat} (he:(zt l a).e≠0):∀(ts:List Tk) (line0 a0 f:Nat),y9 l line0 a0 ts line a→(∀t∈ts,t.k≠0)→a0≤l.length→l.length<a0+f →
  scanS l f line0 a0=([],zl l a,(zt l a).e)
 | [],line0,a0,f,⟨h1,h2⟩,_,ha,hf=>by
  subst h1;subst h2;obtain ⟨f,rfl⟩:∃g,f=g+1:=⟨f-1,by omega⟩
  unfold scanS;rw [if_pos he]
 | t::ts,line0,a0,f,⟨h1,h2,h3⟩,hk,ha,hf=>by
  obtain ⟨f,rfl⟩:∃g,f=g+1:=⟨f-1,by omega⟩
  have h:(zt l a0).k≠0:=by have:=hk t (List.mem_cons_self ..);rw [h2] at this;exact this
  have y:=yk ha h1 h;have o:=vP he ts _ _ f h3 (fun t ht=>hk t (List.mem_cons_of_mem _ ht)) y.2 (by omega)
  unfold scanS
  rw [if_neg (by simp [h1]),if_neg h,o,if_pos he]
theorem vQ {l:List UInt8} {line a:Nat} (he:(zt l a).e=0) (hz:(zt l a).k=0):∀(ts:List Tk) (line0 a0 f:Nat),y9 l line0 a0 ts line a→(∀t∈ts,t.k≠0)→a0≤l.length→l.length<a0+f →
  scanS l f line0 a0=(ts++[tkT l line a],0,0)
 | [],line0,a0,f,⟨h1,h2⟩,_,ha,hf=>by
  subst h1;subst h2;obtain ⟨f,rfl⟩:∃g,f=g+1:=⟨f-1,by omega⟩
  unfold scanS;rw [if_neg (by simp [he]),if_pos hz];rfl
 | t::ts,line0,a0,f,⟨h1,h2,h3⟩,hk,ha,hf=>by
  obtain ⟨f,rfl⟩:∃g,f=g+1:=⟨f-1,by omega⟩
  have h:(zt l a0).k≠0:=by have:=hk t (List.mem_cons_self ..);rw [h2] at this;exact this
  have y:=yk ha h1 h;have o:=vQ he hz ts _ _ f h3 (fun t ht=>hk t (List.mem_cons_of_mem _ ht)) y.2 (by omega)
  unfold scanS
  rw [if_neg (by simp [h1]),if_neg h,o,if_neg (by simp),h2]
  rfl
theorem xj {l:List UInt8} {line a:Nat}:∀(ts:List Tk) (line0 a0:Nat),y9 l line0 a0 ts line a→(∀t∈ts,t.k≠0)→a0≤l.length→line0≤a0+1→a0+ts.length≤a∧a≤l.length∧line≤a+1
 | [],line0,a0,⟨h1,e⟩,_,ha,hl=>by subst h1;subst e;exact ⟨by simp,ha,hl⟩
 | t::ts,line0,a0,⟨h1,e,h3⟩,hk,ha,hl=>by
  have h:(zt l a0).k≠0:=by have:=hk t (List.mem_cons_self ..);rw [e] at this;exact this
  have o:=yk ha h1 h
  have y:z8 l line0 a0≤zl l a0+1:=by
   unfold z8 zl
   have:=VY ((l.drop a0).take (ZH (l.drop a0))) 10
   have e:((l.drop a0).take (ZH (l.drop a0))).length≤ZH (l.drop a0):=List.length_take_le ..;omega
  have:=xj ts _ _ h3 (fun t ht=>hk t (List.mem_cons_of_mem _ ht)) o.2 (by omega)
  rw [List.length_cons];omega
def zy (ts:List Tk):List Value:=ts.flatMap fun t=>[.int .i64 t.k,.string (za t.s),.int .i64 t.n,.int .i64 t.line,.int .i64 t.at0]
theorem YN (a b:List Tk):zy (a++b)=zy a++zy b:=by unfold zy;rw [List.flatMap_append]
theorem UE:∀(f:Nat) (meant:List UInt8) (at0:Nat) (r:List UInt8),meant.length≤255→(zx f meant at0 r).s.length≤255
 | 0,_,_,_,_=>by simp [zx]
 | _+1,_,_,[],_=>by simp [zx]
 | f+1,meant,at0,x::r,h=>by
  unfold zx
  split
  ·exact h
  ·split
   ·simp
   ·split
    ·simp
    ·rename_i e
     exact UE f _ _ _ (by rw [List.length_append];simp;omega)
theorem Qc (l:List UInt8):(zD l).s.length≤l.length+255:=by
 cases l with
 | nil=>simp [zD]
 | cons x r =>
  unfold zD
  simp only
  split
  ·have:=Xy (x::r)
   unfold Zk
   split
   ·exact Nat.le_trans this (by omega)
   ·split
    ·simp
    ·exact Nat.le_trans this (by omega)
  ·split
   ·unfold yj;split <;> exact Nat.zero_le _
   ·split
    ·have e:(zO (x::r)).s.length≤255:=UE (x::r).length [] 1 ((x::r).drop 1) (Nat.zero_le _)
     exact Nat.le_trans e (Nat.le_add_left 255 _)
    ·unfold ZM
     have e:=vN (x::r) 25;generalize bestS (x::r) 25=bb at e ⊢
     split
     ·exact Nat.zero_le _
     ·have h:2≤(x::r).length+255:=Nat.le_trans (by decide) (Nat.le_add_left 255 _)
      exact Nat.le_trans e h
def Qd:Nat→List UInt8→Nat
 | 0,_=>0
 | f+1,l=>if y8 (l.drop (Zb zz l))=true then
   Zb zz l+(Zb zQ (l.drop (Zb zz l))+Qd f ((l.drop (Zb zz l)).drop (Zb zQ (l.drop (Zb zz l)))))
  else Zb zz l
theorem UF:∀(f:Nat) (l:List UInt8),l.length<f→ZH l=Qd f l
 | 0,l,h=>by omega
 | f+1,l,h=>by
  rw [ZH,Qd]
  by_cases hr:y8 (l.drop (Zb zz l))=true
  ·rw [dif_pos hr,if_pos hr,UF f _ (by
    have:=yM hr
    have e:=yV zQ (l.drop (Zb zz l));simp only [List.length_drop] at *
    omega)]
  ·rw [dif_neg hr,if_neg hr]
theorem Qe:ZH=fun l=>Qd (l.length+1) l:=funext fun l=>UF _ l (Nat.lt_succ_self _)
def Y3 (g:List UInt8→Nat) (l:List UInt8) (a:Nat):TR:=zD (l.drop (a+g (l.drop a)))
def VZ (g:List UInt8→Nat) (l:List UInt8) (line a:Nat):Nat:=line+Lib.countByte ((l.drop a).take (g (l.drop a))) 10
def xJ (g:List UInt8→Nat) (l:List UInt8) (a:Nat):Nat:=a+g (l.drop a)
def tkG (g:List UInt8→Nat) (l:List UInt8) (line a:Nat):Tk:=⟨(Y3 g l a).k,(Y3 g l a).s,(Y3 g l a).n,VZ g l line a,xJ g l a⟩
def XA (g:List UInt8→Nat) (l:List UInt8):Nat→Nat→Nat→List Tk × Nat × Nat
 | 0,_,_=>([],0,0)
 | f+1,line,a =>
  if (Y3 g l a).e≠0 then ([],xJ g l a,(Y3 g l a).e) else if (Y3 g l a).k=0 then ([tkG g l line a],0,0)
  else if (XA g l f (VZ g l line a) (xJ g l a+(Y3 g l a).sz)).2.2≠0 then ([],(XA g l f (VZ g l line a) (xJ g l a+(Y3 g l a).sz)).2.1,(XA g l f (VZ g l line a) (xJ g l a+(Y3 g l a).sz)).2.2)
  else (tkG g l line a::(XA g l f (VZ g l line a) (xJ g l a+(Y3 g l a).sz)).1,0,0)
theorem UG (l:List UInt8):∀(f line a:Nat),scanS l f line a=XA ZH l f line a
 | 0,_,_=>rfl
 | f+1,line,a=>by
  unfold scanS XA
  rw [UG l f]
  rfl
def Y4 (l:List UInt8):List Tk × Nat × Nat:=XA (fun l=>Qd (l.length+1) l) l (l.length+1) 1 0
theorem UH {l:List UInt8} (h:l.length≤4096):zn l=Y4 l:=by
 unfold zn Y4
 rw [if_neg (by omega),UG,Qe]
end Go.Proofs.YtmbofhpmockmbaaGreatDoor
