import Derived.RangeFuncNested
import Derived.RangeFuncBound
import Derived.RangeFuncCalls
import Derived.RangeFuncLeaves
import Derived.RangeFuncBox
import Derived.Lib.Bytealg
import Derived.Shelf.Abstract
import Derived.Shelf.RegionOpen
import Derived.WalkKit
import Derived.OwnWalkIn
import Derived.TacticsInMore
import Derived.LoopNIn
import Derived.LoopIn
import Derived.Maps.AppendAt
import Derived.Test.YtpejpbbdgblbeaaGreatDoorXTk
namespace Go.Proofs.YtpejpbbdgblbeaaGreatDoor
open Go.RowKit Go.Shelf
set_option maxHeartbeats 16000000
set_option maxRecDepth 100000
attribute [local go_sem] Oper.semAt_some
theorem zb0 {x:UInt8} {r:List UInt8} (h:ZJ x.toNat=true):1≤(Z6 (x::r)).length:=by
 unfold Z6;simp [Yt,h]
theorem Qh:∀(f:Nat) (meant:List UInt8) (at0:Nat) (r:List UInt8),(Zj f meant at0 r).e=0→1≤(Zj f meant at0 r).sz∧(Zj f meant at0 r).sz≤at0+r.length
 | 0,_,_,_,h=>by simp [Zj] at h
 | _+1,_,_,[],h=>by simp [Zj] at h
 | f+1,meant,at0,x::r,h=>by
  have o:=(zc8 (x::r)).1
  unfold Zj at h ⊢
  by_cases h1:x.toNat=34
  ·rw [if_pos h1];simp
  ·rw [if_neg h1] at h ⊢
   by_cases h2:(vu (x::r)).2=0
   ·rw [if_pos h2] at h;simp at h
   ·rw [if_neg h2] at h ⊢
    by_cases h3:meant.length=255
    ·rw [if_pos h3] at h;simp at h
    ·rw [if_neg h3] at h ⊢
     have:=Qh f _ _ _ h
     rw [List.length_drop] at this;omega
theorem zb1 (l:List UInt8):bestS l 25=[]∨Lib.hasPrefix l (bestS l 25)=true:=by
 have s:∀(o:List (List UInt8)) (b:List UInt8),(b=[]∨Lib.hasPrefix l b=true)→(o.foldl (longer l) b=[]∨Lib.hasPrefix l (o.foldl (longer l) b)=true):=by
  intro o
  induction o with
  | nil=>intro b y;exact y
  | cons x o ih =>
   intro b y;refine ih _ ?_
   unfold longer
   split
   ·rename_i h;exact .inr h.2
   ·exact y
 exact s _ _ (.inl rfl)
theorem zep {l x:List UInt8} (h:Lib.hasPrefix l x=true):x.length≤l.length:=by
 unfold Lib.hasPrefix at h
 exact (List.isPrefixOf_iff_prefix.1 h).length_le
theorem vU (l:List UInt8) (he:(Zg l).e=0):(Zg l).sz≤l.length∧((Zg l).k≠0→1≤(Zg l).sz)∧((Zg l).k=0→l=[]):=by
 cases l with
 | nil=>simp [Zg]
 | cons x r =>
  unfold Zg at he ⊢
  simp only at he ⊢
  by_cases h1:ZJ x.toNat=true
  ·rw [if_pos h1] at he ⊢
   have z:=zb0 (r:=r) h1;have o:=ut (x::r)
   unfold Yk at he ⊢
   split
   ·exact ⟨o,fun _=>z,fun h=>by simp at h⟩
   ·rename_i K
    rw [if_neg K] at he
    split
    ·rename_i I;rw [if_pos I] at he;simp at he
    ·exact ⟨o,fun _=>z,fun h=>by simp at h⟩
  ·rw [if_neg h1] at he ⊢
   by_cases h2:ZB x.toNat=true
   ·rw [if_pos h2] at he ⊢
    have z:1≤(digL (x::r)).length:=by unfold digL;simp [h2]
    have o:=zbv (x::r)
    unfold Xy at he ⊢
    split
    ·exact ⟨o,fun _=>z,fun h=>by simp at h⟩
    ·rename_i H;rw [if_neg H] at he;simp at he
   ·rw [if_neg h2] at he ⊢
    by_cases h3:x.toNat=34
    ·rw [if_pos h3] at he ⊢
     have:=Qh _ _ _ _ he
     unfold yK
     have N:∀(f:Nat) (m:List UInt8) (a:Nat) (q:List UInt8),(Zj f m a q).e=0→(Zj f m a q).k=3:=by
      intro f
      induction f with
      | zero=>intro m a q h;simp [Zj] at h
      | succ f ih =>
       intro m a q h;cases q with
       | nil=>simp [Zj] at h
       | cons y q =>
        unfold Zj at h ⊢
        split
        ·rfl
        ·rename_i L;rw [if_neg L] at h
         split
         ·rename_i D;rw [if_pos D] at h;simp at h
         ·rename_i D;rw [if_neg D] at h
          split
          ·rename_i G;rw [if_pos G] at h;simp at h
          ·rename_i G;rw [if_neg G] at h;exact ih _ _ _ h
     have A:=N _ _ _ _ he;refine ⟨?_,fun _=>this.1,fun h=>by rw [A] at h;simp at h⟩
     have J:=this.2;rw [List.length_drop] at J
     simp at J ⊢
     omega
    ·rw [if_neg h3] at he ⊢
     have s:=zb1 (x::r)
     unfold Yu at he ⊢
     generalize bestS (x::r) 25=bb at he s ⊢;cases bb with
     | nil=>simp at he
     | cons y ys =>
      rw [if_neg (by simp)]
      exact ⟨zep (s.resolve_left (by simp)),fun _=>by simp,fun h=>by simp at h⟩
structure Tk where
 k:Nat
 s:List UInt8
 n:Nat
 line:Nat
 at0:Nat
def zb2 (t:Tk):Value:=.agg #[.int .i64 t.k,.string (zb t.s),.int .i64 t.n,.int .i64 t.line,.int .i64 t.at0]
def zG (l:List UInt8) (at0:Nat):TR:=Zg (l.drop (at0+yJ (l.drop at0)))
def ZF (l:List UInt8) (line at0:Nat):Nat:=line+Lib.countByte ((l.drop at0).take (yJ (l.drop at0))) 10
def zC (l:List UInt8) (at0:Nat):Nat:=at0+yJ (l.drop at0)
def tkT (l:List UInt8) (line at0:Nat):Tk:=⟨(zG l at0).k,(zG l at0).s,(zG l at0).n,ZF l line at0,zC l at0⟩
theorem xS {l:List UInt8} {at0:Nat} (h:at0≤l.length):zC l at0≤l.length:=by
 unfold zC
 have:=ud _ (l.drop at0) (Nat.le_refl _)
 rw [List.length_drop] at this;omega
theorem uu (l:List UInt8) (c:UInt8):Lib.countByte l c≤l.length:=List.count_le_length
theorem zat (lp Bn:Nat) (l:List UInt8) (hlen:l.length≤4096) (J:List Tk→Nat→Nat→World→Prop) (E:List Tk→Nat→Nat→World→Prop)
  (hJc:∀y line a W,(∀t∈y,t.k≠0)→J y line a W→W.cell? ⟨Bn,0,none⟩=some (.string (zb l))∧yz W∧line≤a+1)
  (hJg:∀y line a W W',J y line a W→Below W.heap.size W W'→J y line a W')
  (hE:∀y line a W1 o,(∀t∈y,t.k≠0)→J y line a W1→(zG l a).e≠0→a≤l.length→YieldAt Fence.wide (6-1) Tryz.prog lp #[zb2 (tkT l line a),.int .i64 (zG l a).e] (W1.alloc o) fun e W'=>e=.returned (.bool false)∧E y line a W')
  (hY:∀y line a W1 o,(∀t∈y,t.k≠0)→J y line a W1→(zG l a).e=0→a≤l.length→YieldAt Fence.wide (6-1) Tryz.prog lp #[zb2 (tkT l line a),.int .i64 0] (W1.alloc o) fun e W'=>e=.returned (.bool true)∧J (y++[tkT l line a]) (ZF l line a) (zC l a+(zG l a).sz) W'∧W'.heap[W1.heap.size]?=some o)
  (W:World) (h0:J [] 1 0 W) :
  CallsIn Fence.wide 6 Tryz.prog 126 #[.func (.yield lp) #[] #[],.pointer (some ⟨Bn,0,none⟩)] W fun e W'=>(∃u,e=.returned u) ∧
   ((∃y line a,(∀t∈y,t.k≠0)∧(zG l a).e≠0∧E y line a W')∨∃y line a,(∀t∈y,t.k≠0)∧(zG l a).e=0∧(zG l a).k=0∧J (y++[tkT l line a]) (ZF l line a) (zC l a+(zG l a).sz) W'):=by
 refine callsIn_of_wp Tryz.func126 rfl trivial ?_ rfl;simp only [Tryz.ntmps126,List.size_toArray,List.length_cons,List.length_nil,Nat.reduceAdd,Nat.reduceSub,Array.replicate_succ,Array.replicate_zero,List.push_toArray,List.append_toArray,List.nil_append,List.cons_append]
 gi_wp2
 gi_loopw [3,4,5] (fun vl va vm wr=>(∃y line a,vl=.int .i64 (line:Nat)∧va=.int .i64 (a:Nat)∧vm=.bool true∧a≤l.length∧(∀t∈y,t.k≠0)∧J y line a wr) ∨
   (vm=.bool false∧((∃y line a,(∀t∈y,t.k≠0)∧(zG l a).e≠0∧E y line a wr)∨∃y line a,(∀t∈y,t.k≠0)∧(zG l a).e=0∧(zG l a).k=0∧J (y++[tkT l line a]) (ZF l line a) (zC l a+(zG l a).sz) wr)))
  (fun _ va vm _=>match vm with | .bool true=>l.length+1-(intOf va).toNat | _=>0)
 case atStart=>exact .inl ⟨[],1,0,rfl,rfl,rfl,Nat.zero_le _,(fun t h=>by cases h),h0⟩
 case round =>
  rcases hrel with ⟨y,line,a,rfl,rfl,rfl,ha,O,hJ⟩ | ⟨rfl,aa⟩
  ·obtain ⟨hc,K,ar⟩:=hJc _ _ _ _ O hJ
   have HJ:Hid (J y line a wr):=hJ;have G:Hid (∀t∈y,t.k≠0):=O;clear O;have ab:Hid (yz wr):=K;have ae:=xS (l:=l) ha;obtain ⟨g,hg⟩:∃g,g=yJ (l.drop a):=⟨_,rfl⟩;have Y:a+g≤l.length:=by rw [hg];exact ae
   have s1:=fun wx=>xQ wx l a ha
   have s2:=fun wx=>zbt wx l a g Y
   have s3:=fun wx=>xQ wx l (a+g) Y
   rw [Int.natCast_add] at s3;have cg:=fun wx=>zem (l.drop a) wx (by rw [List.length_drop];omega)
   rw [←hg] at cg;obtain ⟨cn,H⟩:∃cn,cn=Lib.countByte ((l.drop a).take g) 10:=⟨_,rfl⟩;have am:cn≤g:=by rw [H];exact Nat.le_trans (uu _ _) (List.length_take_le ..)
   have cc:=fun wx=>Tryz.strings_Count_one (zb ((l.drop a).take g)) 10 wx
   rw [show (zb ((l.drop a).take g)).data.toList=(l.drop a).take g from rfl,←H] at cc
   have ct:=fun wx (h:yz wx)=>UP (l.drop (a+g)) wx (by rw [List.length_drop];omega) h
   obtain ⟨R,hR⟩:∃R,R=Zg (l.drop (a+g)):=⟨_,rfl⟩;rw [←hR] at ct
   unfold Z9 at ct
   have z:Hid (zG l a=R):=show zG l a=R by unfold zG;rw [←hg,←hR]
   have A:Hid (tkT l line a=⟨R.k,R.s,R.n,line+cn,a+g⟩):=show _=_ by unfold tkT ZF zC;rw [z.out,←hg,←H]
   have ag:Hid (∀wx,Calls Tryz.prog 127 #[.string (zb (l.drop a))] wx fun e w'=>e=.returned (.int .i64 g)∧wx=w'):=cg
   have af:Hid (∀wx,Calls Tryz.prog 128 #[.string (zb ((l.drop a).take g)),.string ⟨#[10]⟩] wx fun e w'=>e=.returned (.int .i64 cn)∧w'=wx):=cc
   have V:Hid (∀wx,yz wx→Calls Tryz.prog 129 #[.string (zb (l.drop (a+g)))] wx fun e w'=>e=.returned (.tuple #[.agg #[.int .i64 R.k,.string (zb R.s),.int .i64 R.n,.int .i64 0,.int .i64 0],.int .i64 R.sz,.int .i64 R.e])∧Below wx.heap.size wx w'):=ct
   have ak:Hid (R.e=0→R.sz≤l.length-(a+g)∧(R.k≠0→1≤R.sz)):=fun h=>by
    have:=vU (l.drop (a+g)) (by rw [←hR];exact h)
    rw [←hR,List.length_drop] at this;exact ⟨this.1,this.2.1⟩
   clear cg cc ct hg H hR hJ K ae;have ao:line+cn≤5000:=by omega
   have ap:a+g≤4096:=by omega
   by_cases he:R.e=0
   ·obtain ⟨au,ai⟩:=ak.out he
    have U:Hid (∀W1 o,J y line a W1→YieldAt Fence.wide (6-1) Tryz.prog lp #[.agg #[.int .i64 R.k,.string (zb R.s),.int .i64 R.n,.int .i64 ((line:Int)+cn),.int .i64 ((a:Int)+g)],.int .i64 0] (W1.alloc o) fun e W'=>e=.returned (.bool true)∧J (y++[tkT l line a]) (line+cn) (a+g+R.sz) W'∧W'.heap[W1.heap.size]?=some o):=fun W1 o h=>by
     have:=hY y line a W1 o G.out h (by rw [z.out];exact he) ha
     rw [A.out,z.out] at this;have e1:ZF l line a=line+cn:=by have:=congrArg Tk.line A.out;exact this
     have e2:zC l a=a+g:=by have:=congrArg Tk.at0 A.out;exact this
     rw [e1,e2] at this
     unfold zb2 at this
     simp only [Int.natCast_add] at this;rw [A.out];exact this
    rw [he] at V
    gi_wp2_with (refine ⟨trivial,?_⟩;first
     | (gi_at_call 127;refine (callsIn_wide.2 (ag.out _)).mono ?_;rintro e Q ⟨rfl,N⟩;subst N)
     | (gi_at_call 128;refine (callsIn_wide.2 (af.out _)).mono ?_;rintro e Q ⟨rfl,N⟩;subst N)
     | (gi_at_call 129;refine (callsIn_wide.2 (V.out _ ab.out)).mono ?_;rintro e Q ⟨rfl,T⟩;obtain ⟨fn,ad,I,ah,hy,D⟩:=U.out _ (.cells #[.int .i64 R.k,.string (zb R.s),.int .i64 R.n,.int .i64 ((line:Int)+cn),.int .i64 ((a:Int)+g)] 66) (hJg _ _ _ _ _ HJ.out T)))
    refine D.mono ?_;rintro e W3 ⟨rfl,Z,L⟩
    have aq:W3.cell? ⟨Q.heap.size,0,none⟩=some (.int .i64 R.k):=by
     rw [cell_of_row W3 Q.heap.size 0 _ _ _ L];rfl
    clear D hy L
    by_cases hk:R.k=0
    ·have al:((R.k:Int) != 0)=false:=by rw [hk];rfl
     gi_wp2
     refine ⟨.inr ⟨rfl,.inr ⟨y,line,a,G.out,by rw [z.out];exact he,by rw [z.out];exact hk,?_⟩⟩,?_⟩
     ·have e1:ZF l line a=line+cn:=by have:=congrArg Tk.line A.out;exact this
      have e2:zC l a=a+g:=by have:=congrArg Tk.at0 A.out;exact this
      rw [e1,e2,z.out];exact Z
     ·simp [intOf];omega
    ·have al:((R.k:Int) != 0)=true:=by rw [bne_iff_ne];omega
     have an:=ai hk
     gi_wp2
     refine ⟨.inl ⟨_,line+cn,a+g+R.sz,by go_num,by go_num,rfl,by omega,?_,Z⟩,?_⟩
     ·intro t ht
      rcases List.mem_append.1 ht with h | h
      ·exact G.out t h
      ·rw [List.mem_singleton] at h;rw [h,A.out];exact hk
     simp [intOf]
     omega
   ·have U:Hid (∀W1 o,J y line a W1→YieldAt Fence.wide (6-1) Tryz.prog lp #[.agg #[.int .i64 R.k,.string (zb R.s),.int .i64 R.n,.int .i64 ((line:Int)+cn),.int .i64 ((a:Int)+g)],.int .i64 R.e] (W1.alloc o) fun e W'=>e=.returned (.bool false)∧E y line a W'):=fun W1 o h=>by
     have:=hE y line a W1 o G.out h (by rw [z.out];exact he) ha
     rw [A.out,z.out] at this
     unfold zb2 at this
     simp only [Int.natCast_add] at this;exact this
    gi_wp2_with (refine ⟨trivial,?_⟩;first
     | (gi_at_call 127;refine (callsIn_wide.2 (ag.out _)).mono ?_;rintro e Q ⟨rfl,N⟩;subst N)
     | (gi_at_call 128;refine (callsIn_wide.2 (af.out _)).mono ?_;rintro e Q ⟨rfl,N⟩;subst N)
     | (gi_at_call 129;refine (callsIn_wide.2 (V.out _ ab.out)).mono ?_;rintro e Q ⟨rfl,T⟩;obtain ⟨fn,ad,I,ah,hy,D⟩:=U.out _ (.cells #[.int .i64 R.k,.string (zb R.s),.int .i64 R.n,.int .i64 ((line:Int)+cn),.int .i64 ((a:Int)+g)] 66) (hJg _ _ _ _ _ HJ.out T)))
    refine D.mono ?_;rintro e W3 ⟨rfl,aj⟩;clear D hy
    gi_wp2
    refine ⟨.inr ⟨rfl,.inl ⟨y,line,a,G.out,by rw [z.out];exact he,aj⟩⟩,?_⟩
    simp [intOf]
    omega
  ·gi_wp2
   go_end0
   exact ⟨⟨_,rfl⟩,aa⟩
end Go.Proofs.YtpejpbbdgblbeaaGreatDoor
namespace Go.Proofs.YtpejpbbdgblbeaaGreatDoor
open Go.RowKit
set_option maxHeartbeats 16000000
set_option maxRecDepth 100000
def xH (l:List UInt8):Nat→Nat→List Tk→Nat→Nat→Prop
 | line0,a0,[],line,a=>line=line0∧a=a0
 | line0,a0,t::ts,line,a=>(zG l a0).e=0∧t=tkT l line0 a0∧xH l (ZF l line0 a0) (zC l a0+(zG l a0).sz) ts line a
theorem VN {l:List UInt8} {line a:Nat} (he:(zG l a).e=0):∀{ts:List Tk} {line0 a0:Nat},xH l line0 a0 ts line a →
  xH l line0 a0 (ts++[tkT l line a]) (ZF l line a) (zC l a+(zG l a).sz)
 | [],line0,a0,⟨h1,h2⟩=>by subst h1;subst h2;exact ⟨he,rfl,rfl,rfl⟩
 | t::ts,line0,a0,⟨h1,h2,h3⟩=>⟨h1,h2,VN he h3⟩
theorem VO {l:List UInt8} {t:Tk} {line a:Nat}:∀{ts:List Tk} {line0 a0:Nat},xH l line0 a0 (ts++[t]) line a →
  ∃o s,xH l line0 a0 ts o s∧(zG l s).e=0∧t=tkT l o s
 | [],line0,a0,h=>⟨line0,a0,⟨rfl,rfl⟩,h.1,h.2.1⟩
 | _::ts,line0,a0,h=>by
  obtain ⟨o,s,y,A,z⟩:=VO (ts:=ts) h.2.2;exact ⟨o,s,⟨h.1,h.2.1,y⟩,A,z⟩
def scanS (l:List UInt8):Nat→Nat→Nat→List Tk × Nat × Nat
 | 0,_,_=>([],0,0)
 | f+1,line,a =>
  if (zG l a).e≠0 then ([],zC l a,(zG l a).e) else if (zG l a).k=0 then ([tkT l line a],0,0)
  else if (scanS l f (ZF l line a) (zC l a+(zG l a).sz)).2.2≠0 then ([],(scanS l f (ZF l line a) (zC l a+(zG l a).sz)).2.1,(scanS l f (ZF l line a) (zC l a+(zG l a).sz)).2.2)
  else (tkT l line a::(scanS l f (ZF l line a) (zC l a+(zG l a).sz)).1,0,0)
def zM (l:List UInt8):List Tk × Nat × Nat:=if 4096<l.length then ([],0,5) else scanS l (l.length+1) 1 0
theorem yM {l:List UInt8} {a:Nat} (ha:a≤l.length) (he:(zG l a).e=0) (hk:(zG l a).k≠0):a<zC l a+(zG l a).sz∧zC l a+(zG l a).sz≤l.length:=by
 have o:=xS ha;have h:=vU (l.drop (a+yJ (l.drop a))) he;have y:=h.2.1 hk;have s:=h.1;rw [List.length_drop] at s
 unfold zC at o ⊢
 unfold zG
 omega
theorem UQ {l:List UInt8} {line a:Nat} (he:(zG l a).e≠0):∀(ts:List Tk) (line0 a0 f:Nat),xH l line0 a0 ts line a→(∀t∈ts,t.k≠0)→a0≤l.length→l.length<a0+f →
  scanS l f line0 a0=([],zC l a,(zG l a).e)
 | [],line0,a0,f,⟨h1,h2⟩,_,ha,hf=>by
  subst h1;subst h2;obtain ⟨f,rfl⟩:∃g,f=g+1:=⟨f-1,by omega⟩
  unfold scanS;rw [if_pos he]
 | t::ts,line0,a0,f,⟨h1,h2,h3⟩,hk,ha,hf=>by
  obtain ⟨f,rfl⟩:∃g,f=g+1:=⟨f-1,by omega⟩
  have h:(zG l a0).k≠0:=by have:=hk t (List.mem_cons_self ..);rw [h2] at this;exact this
  have o:=yM ha h1 h;have s:=UQ he ts _ _ f h3 (fun t ht=>hk t (List.mem_cons_of_mem _ ht)) o.2 (by omega)
  unfold scanS
  rw [if_neg (by simp [h1]),if_neg h,s,if_pos he]
theorem UR {l:List UInt8} {line a:Nat} (he:(zG l a).e=0) (hz:(zG l a).k=0):∀(ts:List Tk) (line0 a0 f:Nat),xH l line0 a0 ts line a→(∀t∈ts,t.k≠0)→a0≤l.length→l.length<a0+f →
  scanS l f line0 a0=(ts++[tkT l line a],0,0)
 | [],line0,a0,f,⟨h1,h2⟩,_,ha,hf=>by
  subst h1;subst h2;obtain ⟨f,rfl⟩:∃g,f=g+1:=⟨f-1,by omega⟩
  unfold scanS;rw [if_neg (by simp [he]),if_pos hz];rfl
 | t::ts,line0,a0,f,⟨h1,h2,h3⟩,hk,ha,hf=>by
  obtain ⟨f,rfl⟩:∃g,f=g+1:=⟨f-1,by omega⟩
  have h:(zG l a0).k≠0:=by have:=hk t (List.mem_cons_self ..);rw [h2] at this;exact this
  have o:=yM ha h1 h;have s:=UR he hz ts _ _ f h3 (fun t ht=>hk t (List.mem_cons_of_mem _ ht)) o.2 (by omega)
  unfold scanS
  rw [if_neg (by simp [h1]),if_neg h,s,if_neg (by simp),h2]
  rfl
theorem vv {l:List UInt8} {line a:Nat}:∀(ts:List Tk) (line0 a0:Nat),xH l line0 a0 ts line a→(∀t∈ts,t.k≠0)→a0≤l.length→line0≤a0+1→a0+ts.length≤a∧a≤l.length∧line≤a+1
 | [],line0,a0,⟨h1,h⟩,_,ha,hl=>by subst h1;subst h;exact ⟨by simp,ha,hl⟩
 | t::ts,line0,a0,⟨h1,h,h3⟩,hk,ha,hl=>by
  have o:(zG l a0).k≠0:=by have:=hk t (List.mem_cons_self ..);rw [h] at this;exact this
  have s:=yM ha h1 o
  have y:ZF l line0 a0≤zC l a0+1:=by
   unfold ZF zC
   have:=uu ((l.drop a0).take (yJ (l.drop a0))) 10
   have h:((l.drop a0).take (yJ (l.drop a0))).length≤yJ (l.drop a0):=List.length_take_le ..;omega
  have:=vv ts _ _ h3 (fun t ht=>hk t (List.mem_cons_of_mem _ ht)) s.2 (by omega)
  rw [List.length_cons];omega
def ZE (ts:List Tk):List Value:=ts.flatMap fun t=>[.int .i64 t.k,.string (zb t.s),.int .i64 t.n,.int .i64 t.line,.int .i64 t.at0]
theorem uv (a b:List Tk):ZE (a++b)=ZE a++ZE b:=by unfold ZE;rw [List.flatMap_append]
theorem zbw:∀(f:Nat) (meant:List UInt8) (at0:Nat) (r:List UInt8),meant.length≤255→(Zj f meant at0 r).s.length≤255
 | 0,_,_,_,_=>by simp [Zj]
 | _+1,_,_,[],_=>by simp [Zj]
 | f+1,meant,at0,x::r,h=>by
  unfold Zj
  split
  ·exact h
  ·split
   ·simp
   ·split
    ·simp
    ·rename_i o
     exact zbw f _ _ _ (by rw [List.length_append];simp;omega)
theorem zc9 (l:List UInt8):(Zg l).s.length≤l.length+255:=by
 cases l with
 | nil=>simp [Zg]
 | cons x r =>
  unfold Zg
  simp only
  split
  ·have:=ut (x::r)
   unfold Yk
   split
   ·exact Nat.le_trans this (by omega)
   ·split
    ·simp
    ·exact Nat.le_trans this (by omega)
  ·split
   ·unfold Xy;split <;> exact Nat.zero_le _
   ·split
    ·have h:(yK (x::r)).s.length≤255:=zbw (x::r).length [] 1 ((x::r).drop 1) (Nat.zero_le _)
     exact Nat.le_trans h (Nat.le_add_left 255 _)
    ·unfold Yu
     have h:=UN (x::r) 25;generalize bestS (x::r) 25=bb at h ⊢
     split
     ·exact Nat.zero_le _
     ·have o:2≤(x::r).length+255:=Nat.le_trans (by decide) (Nat.le_add_left 255 _)
      exact Nat.le_trans h o
def zda:Nat→List UInt8→Nat
 | 0,_=>0
 | f+1,l=>if ur (l.drop (Z5 Zd l))=true then
   Z5 Zd l+(Z5 yh (l.drop (Z5 Zd l))+zda f ((l.drop (Z5 Zd l)).drop (Z5 yh (l.drop (Z5 Zd l)))))
  else Z5 Zd l
theorem zbx:∀(f:Nat) (l:List UInt8),l.length<f→yJ l=zda f l
 | 0,l,h=>by omega
 | f+1,l,h=>by
  rw [yJ,zda]
  by_cases hr:ur (l.drop (Z5 Zd l))=true
  ·rw [dif_pos hr,if_pos hr,zbx f _ (by
    have:=Xx hr
    have o:=xx yh (l.drop (Z5 Zd l));simp only [List.length_drop] at *
    omega)]
  ·rw [dif_neg hr,if_neg hr]
theorem zdb:yJ=fun l=>zda (l.length+1) l:=funext fun l=>zbx _ l (Nat.lt_succ_self _)
def XX (g:List UInt8→Nat) (l:List UInt8) (a:Nat):TR:=Zg (l.drop (a+g (l.drop a)))
def Qi (g:List UInt8→Nat) (l:List UInt8) (line a:Nat):Nat:=line+Lib.countByte ((l.drop a).take (g (l.drop a))) 10
def Vt (g:List UInt8→Nat) (l:List UInt8) (a:Nat):Nat:=a+g (l.drop a)
def tkG (g:List UInt8→Nat) (l:List UInt8) (line a:Nat):Tk:=⟨(XX g l a).k,(XX g l a).s,(XX g l a).n,Qi g l line a,Vt g l a⟩
def uw (g:List UInt8→Nat) (l:List UInt8):Nat→Nat→Nat→List Tk × Nat × Nat
 | 0,_,_=>([],0,0)
 | f+1,line,a =>
  if (XX g l a).e≠0 then ([],Vt g l a,(XX g l a).e) else if (XX g l a).k=0 then ([tkG g l line a],0,0)
  else if (uw g l f (Qi g l line a) (Vt g l a+(XX g l a).sz)).2.2≠0 then ([],(uw g l f (Qi g l line a) (Vt g l a+(XX g l a).sz)).2.1,(uw g l f (Qi g l line a) (Vt g l a+(XX g l a).sz)).2.2)
  else (tkG g l line a::(uw g l f (Qi g l line a) (Vt g l a+(XX g l a).sz)).1,0,0)
theorem zby (l:List UInt8):∀(f line a:Nat),scanS l f line a=uw yJ l f line a
 | 0,_,_=>rfl
 | f+1,line,a=>by
  unfold scanS uw
  rw [zby l f]
  rfl
def xy (l:List UInt8):List Tk × Nat × Nat:=uw (fun l=>zda (l.length+1) l) l (l.length+1) 1 0
theorem zbz {l:List UInt8} (h:l.length≤4096):zM l=xy l:=by
 unfold zM xy
 rw [if_neg (by omega),zby,zdb]
end Go.Proofs.YtpejpbbdgblbeaaGreatDoor
