import Derived.RangeFuncNested
import Derived.RangeFuncBound
import Derived.RangeFuncCalls
import Derived.RangeFuncLeaves
import Derived.RangeFuncBox
import Derived.Lib.Bytealg
import Derived.Shelf.Abstract
import Derived.Shelf.RegionOpen
import Derived.WalkKit
import Derived.OwnWalkIn
import Derived.TacticsInMore
import Derived.LoopNIn
import Derived.LoopIn
import Derived.Maps.AppendAt
import Derived.Test.YtpejpbbdgblbeaaGreatDoorXTk
namespace Go.Proofs.YtpejpbbdgblbeaaGreatDoor
open Go.RowKit Go.Shelf
set_option maxHeartbeats 16000000
set_option maxRecDepth 100000
attribute [local go_sem] Oper.semAt_some
theorem zdq {x:UInt8} {r:List UInt8} (h:Zv x.toNat=true):1≤(Z7 (x::r)).length:=by
 unfold Z7;simp [yu,h]
theorem zap:∀(f:Nat) (meant:List UInt8) (at0:Nat) (r:List UInt8),(Zq f meant at0 r).e=0→1≤(Zq f meant at0 r).sz∧(Zq f meant at0 r).sz≤at0+r.length
 | 0,_,_,_,h=>by simp [Zq] at h
 | _+1,_,_,[],h=>by simp [Zq] at h
 | f+1,meant,at0,x::r,h=>by
  have o:=(zeG (x::r)).1
  unfold Zq at h ⊢
  by_cases h1:x.toNat=34
  ·rw [if_pos h1];simp
  ·rw [if_neg h1] at h ⊢
   by_cases h2:(v7 (x::r)).2=0
   ·rw [if_pos h2] at h;simp at h
   ·rw [if_neg h2] at h ⊢
    by_cases h3:meant.length=255
    ·rw [if_pos h3] at h;simp at h
    ·rw [if_neg h3] at h ⊢
     have:=zap f _ _ _ h
     rw [List.length_drop] at this;omega
theorem zdr (l:List UInt8):bestS l 25=[]∨Lib.hasPrefix l (bestS l 25)=true:=by
 have y:∀(o:List (List UInt8)) (b:List UInt8),(b=[]∨Lib.hasPrefix l b=true)→(o.foldl (longer l) b=[]∨Lib.hasPrefix l (o.foldl (longer l) b)=true):=by
  intro o
  induction o with
  | nil=>intro b z;exact z
  | cons x o ih =>
   intro b z;refine ih _ ?_
   unfold longer
   split
   ·rename_i h;exact .inr h.2
   ·exact z
 exact y _ _ (.inl rfl)
theorem zgg {l x:List UInt8} (h:Lib.hasPrefix l x=true):x.length≤l.length:=by
 unfold Lib.hasPrefix at h
 exact (List.isPrefixOf_iff_prefix.1 h).length_le
theorem vG (l:List UInt8) (he:(Zc l).e=0):(Zc l).sz≤l.length∧((Zc l).k≠0→1≤(Zc l).sz)∧((Zc l).k=0→l=[]):=by
 cases l with
 | nil=>simp [Zc]
 | cons x r =>
  unfold Zc at he ⊢
  simp only at he ⊢
  by_cases h1:Zv x.toNat=true
  ·rw [if_pos h1] at he ⊢
   have A:=zdq (r:=r) h1;have o:=Uk (x::r)
   unfold Yd at he ⊢
   split
   ·exact ⟨o,fun _=>A,fun h=>by simp at h⟩
   ·rename_i N
    rw [if_neg N] at he
    split
    ·rename_i I;rw [if_pos I] at he;simp at he
    ·exact ⟨o,fun _=>A,fun h=>by simp at h⟩
  ·rw [if_neg h1] at he ⊢
   by_cases h2:Zw x.toNat=true
   ·rw [if_pos h2] at he ⊢
    have A:1≤(digL (x::r)).length:=by unfold digL;simp [h2]
    have o:=zcN (x::r)
    unfold XX at he ⊢
    split
    ·exact ⟨o,fun _=>A,fun h=>by simp at h⟩
    ·rename_i G;rw [if_neg G] at he;simp at he
   ·rw [if_neg h2] at he ⊢
    by_cases h3:x.toNat=34
    ·rw [if_pos h3] at he ⊢
     have:=zap _ _ _ _ he
     unfold yT
     have O:∀(f:Nat) (m:List UInt8) (a:Nat) (q:List UInt8),(Zq f m a q).e=0→(Zq f m a q).k=3:=by
      intro f
      induction f with
      | zero=>intro m a q h;simp [Zq] at h
      | succ f ih =>
       intro m a q h;cases q with
       | nil=>simp [Zq] at h
       | cons y q =>
        unfold Zq at h ⊢
        split
        ·rfl
        ·rename_i Q;rw [if_neg Q] at h
         split
         ·rename_i H;rw [if_pos H] at h;simp at h
         ·rename_i H;rw [if_neg H] at h
          split
          ·rename_i D;rw [if_pos D] at h;simp at h
          ·rename_i D;rw [if_neg D] at h;exact ih _ _ _ h
     have J:=O _ _ _ _ he;refine ⟨?_,fun _=>this.1,fun h=>by rw [J] at h;simp at h⟩
     have L:=this.2;rw [List.length_drop] at L
     simp at L ⊢
     omega
    ·rw [if_neg h3] at he ⊢
     have z:=zdr (x::r)
     unfold Yu at he ⊢
     generalize bestS (x::r) 25=bb at he z ⊢;cases bb with
     | nil=>simp at he
     | cons y ys =>
      rw [if_neg (by simp)]
      exact ⟨zgg (z.resolve_left (by simp)),fun _=>by simp,fun h=>by simp at h⟩
structure Tk where
 k:Nat
 s:List UInt8
 n:Nat
 line:Nat
 at0:Nat
def zds (t:Tk):Value:=.agg #[.int .i64 t.k,.string (zb t.s),.int .i64 t.n,.int .i64 t.line,.int .i64 t.at0]
def zQ (l:List UInt8) (at0:Nat):TR:=Zc (l.drop (at0+Z4 (l.drop at0)))
def yj (l:List UInt8) (line at0:Nat):Nat:=line+Lib.countByte ((l.drop at0).take (Z4 (l.drop at0))) 10
def zP (l:List UInt8) (at0:Nat):Nat:=at0+Z4 (l.drop at0)
def tkT (l:List UInt8) (line at0:Nat):Tk:=⟨(zQ l at0).k,(zQ l at0).s,(zQ l at0).n,yj l line at0,zP l at0⟩
theorem vH {l:List UInt8} {at0:Nat} (h:at0≤l.length):zP l at0≤l.length:=by
 unfold zP
 have:=Qx _ (l.drop at0) (Nat.le_refl _)
 rw [List.length_drop] at this;omega
theorem zaq (l:List UInt8) (c:UInt8):Lib.countByte l c≤l.length:=List.count_le_length
theorem zbB (lp Bn:Nat) (l:List UInt8) (hlen:l.length≤4096) (J:List Tk→Nat→Nat→World→Prop) (E:List Tk→Nat→Nat→World→Prop)
  (hJc:∀y line a W,(∀t∈y,t.k≠0)→J y line a W→W.cell? ⟨Bn,0,none⟩=some (.string (zb l))∧yI W∧line≤a+1)
  (hJg:∀y line a W W',J y line a W→Below W.heap.size W W'→J y line a W')
  (hE:∀y line a W1 o,(∀t∈y,t.k≠0)→J y line a W1→(zQ l a).e≠0→a≤l.length→YieldAt Fence.wide (6-1) Tryz.prog lp #[zds (tkT l line a),.int .i64 (zQ l a).e] (W1.alloc o) fun e W'=>e=.returned (.bool false)∧E y line a W')
  (hY:∀y line a W1 o,(∀t∈y,t.k≠0)→J y line a W1→(zQ l a).e=0→a≤l.length→YieldAt Fence.wide (6-1) Tryz.prog lp #[zds (tkT l line a),.int .i64 0] (W1.alloc o) fun e W'=>e=.returned (.bool true)∧J (y++[tkT l line a]) (yj l line a) (zP l a+(zQ l a).sz) W'∧W'.heap[W1.heap.size]?=some o)
  (W:World) (h0:J [] 1 0 W) :
  CallsIn Fence.wide 6 Tryz.prog 126 #[.func (.yield lp) #[] #[],.pointer (some ⟨Bn,0,none⟩)] W fun e W'=>(∃u,e=.returned u) ∧
   ((∃y line a,(∀t∈y,t.k≠0)∧(zQ l a).e≠0∧E y line a W')∨∃y line a,(∀t∈y,t.k≠0)∧(zQ l a).e=0∧(zQ l a).k=0∧J (y++[tkT l line a]) (yj l line a) (zP l a+(zQ l a).sz) W'):=by
 refine callsIn_of_wp Tryz.func126 rfl trivial ?_ rfl;simp only [Tryz.ntmps126,List.size_toArray,List.length_cons,List.length_nil,Nat.reduceAdd,Nat.reduceSub,Array.replicate_succ,Array.replicate_zero,List.push_toArray,List.append_toArray,List.nil_append,List.cons_append]
 gi_wp2
 gi_loopw [3,4,5] (fun vl va vm wr=>(∃y line a,vl=.int .i64 (line:Nat)∧va=.int .i64 (a:Nat)∧vm=.bool true∧a≤l.length∧(∀t∈y,t.k≠0)∧J y line a wr) ∨
   (vm=.bool false∧((∃y line a,(∀t∈y,t.k≠0)∧(zQ l a).e≠0∧E y line a wr)∨∃y line a,(∀t∈y,t.k≠0)∧(zQ l a).e=0∧(zQ l a).k=0∧J (y++[tkT l line a]) (yj l line a) (zP l a+(zQ l a).sz) wr)))
  (fun _ va vm _=>match vm with | .bool true=>l.length+1-(intOf va).toNat | _=>0)
 case atStart=>exact .inl ⟨[],1,0,rfl,rfl,rfl,Nat.zero_le _,(fun t h=>by cases h),h0⟩
 case round =>
  rcases hrel with ⟨y,line,a,rfl,rfl,rfl,ha,Y,hJ⟩ | ⟨rfl,ae⟩
  ·obtain ⟨hc,L,av⟩:=hJc _ _ _ _ Y hJ
   have HJ:Hid (J y line a wr):=hJ;have G:Hid (∀t∈y,t.k≠0):=Y;clear Y;have aj:Hid (yI wr):=L;have ai:=vH (l:=l) ha;obtain ⟨g,hg⟩:∃g,g=Z4 (l.drop a):=⟨_,rfl⟩;have af:a+g≤l.length:=by rw [hg];exact ai
   have s1:=fun wx=>Xd wx l a ha
   have s2:=fun wx=>zcL wx l a g af
   have s3:=fun wx=>Xd wx l (a+g) af
   rw [Int.natCast_add] at s3;have cg:=fun wx=>zgd (l.drop a) wx (by rw [List.length_drop];omega)
   rw [←hg] at cg;obtain ⟨cn,I⟩:∃cn,cn=Lib.countByte ((l.drop a).take g) 10:=⟨_,rfl⟩;have ar:cn≤g:=by rw [I];exact Nat.le_trans (zaq _ _) (List.length_take_le ..)
   have cc:=fun wx=>Tryz.strings_Count_one (zb ((l.drop a).take g)) 10 wx
   rw [show (zb ((l.drop a).take g)).data.toList=(l.drop a).take g from rfl,←I] at cc
   have ct:=fun wx (h:yI wx)=>qK (l.drop (a+g)) wx (by rw [List.length_drop];omega) h
   obtain ⟨R,Z⟩:∃R,R=Zc (l.drop (a+g)):=⟨_,rfl⟩;rw [←Z] at ct
   unfold yq at ct
   have z:Hid (zQ l a=R):=show zQ l a=R by unfold zQ;rw [←hg,←Z]
   have A:Hid (tkT l line a=⟨R.k,R.s,R.n,line+cn,a+g⟩):=show _=_ by unfold tkT yj zP;rw [z.out,←hg,←I]
   have ab:Hid (∀wx,Calls Tryz.prog 127 #[.string (zb (l.drop a))] wx fun e w'=>e=.returned (.int .i64 g)∧wx=w'):=cg
   have aa:Hid (∀wx,Calls Tryz.prog 128 #[.string (zb ((l.drop a).take g)),.string ⟨#[10]⟩] wx fun e w'=>e=.returned (.int .i64 cn)∧w'=wx):=cc
   have O:Hid (∀wx,yI wx→Calls Tryz.prog 129 #[.string (zb (l.drop (a+g)))] wx fun e w'=>e=.returned (.tuple #[.agg #[.int .i64 R.k,.string (zb R.s),.int .i64 R.n,.int .i64 0,.int .i64 0],.int .i64 R.sz,.int .i64 R.e])∧Below wx.heap.size wx w'):=ct
   have al:Hid (R.e=0→R.sz≤l.length-(a+g)∧(R.k≠0→1≤R.sz)):=fun h=>by
    have:=vG (l.drop (a+g)) (by rw [←Z];exact h)
    rw [←Z,List.length_drop] at this;exact ⟨this.1,this.2.1⟩
   clear cg cc ct hg I Z hJ L ai;have aq:line+cn≤5000:=by omega
   have ap:a+g≤4096:=by omega
   by_cases he:R.e=0
   ·obtain ⟨au,am⟩:=al.out he
    have Q:Hid (∀W1 o,J y line a W1→YieldAt Fence.wide (6-1) Tryz.prog lp #[.agg #[.int .i64 R.k,.string (zb R.s),.int .i64 R.n,.int .i64 ((line:Int)+cn),.int .i64 ((a:Int)+g)],.int .i64 0] (W1.alloc o) fun e W'=>e=.returned (.bool true)∧J (y++[tkT l line a]) (line+cn) (a+g+R.sz) W'∧W'.heap[W1.heap.size]?=some o):=fun W1 o h=>by
     have:=hY y line a W1 o G.out h (by rw [z.out];exact he) ha
     rw [A.out,z.out] at this;have e1:yj l line a=line+cn:=by have:=congrArg Tk.line A.out;exact this
     have e2:zP l a=a+g:=by have:=congrArg Tk.at0 A.out;exact this
     rw [e1,e2] at this
     unfold zds at this
     simp only [Int.natCast_add] at this;rw [A.out];exact this
    rw [he] at O
    gi_wp2_with (refine ⟨trivial,?_⟩;first
     | (gi_at_call 127;refine (callsIn_wide.2 (ab.out _)).mono ?_;rintro e T ⟨rfl,U⟩;subst U)
     | (gi_at_call 128;refine (callsIn_wide.2 (aa.out _)).mono ?_;rintro e T ⟨rfl,U⟩;subst U)
     | (gi_at_call 129;refine (callsIn_wide.2 (O.out _ aj.out)).mono ?_;rintro e T ⟨rfl,V⟩;obtain ⟨fn,ah,H,ag,hy,D⟩:=Q.out _ (.cells #[.int .i64 R.k,.string (zb R.s),.int .i64 R.n,.int .i64 ((line:Int)+cn),.int .i64 ((a:Int)+g)] 66) (hJg _ _ _ _ _ HJ.out V)))
    refine D.mono ?_;rintro e W3 ⟨rfl,ad,N⟩
    have aw:W3.cell? ⟨T.heap.size,0,none⟩=some (.int .i64 R.k):=by
     rw [cell_of_row W3 T.heap.size 0 _ _ _ N];rfl
    clear D hy N
    by_cases hk:R.k=0
    ·have an:((R.k:Int) != 0)=false:=by rw [hk];rfl
     gi_wp2
     refine ⟨.inr ⟨rfl,.inr ⟨y,line,a,G.out,by rw [z.out];exact he,by rw [z.out];exact hk,?_⟩⟩,?_⟩
     ·have e1:yj l line a=line+cn:=by have:=congrArg Tk.line A.out;exact this
      have e2:zP l a=a+g:=by have:=congrArg Tk.at0 A.out;exact this
      rw [e1,e2,z.out];exact ad
     ·simp [intOf];omega
    ·have an:((R.k:Int) != 0)=true:=by rw [bne_iff_ne];omega
     have ao:=am hk
     gi_wp2
     refine ⟨.inl ⟨_,line+cn,a+g+R.sz,by go_num,by go_num,rfl,by omega,?_,ad⟩,?_⟩
     ·intro t ht
      rcases List.mem_append.1 ht with h | h
      ·exact G.out t h
      ·rw [List.mem_singleton] at h;rw [h,A.out];exact hk
     simp [intOf]
     omega
   ·have Q:Hid (∀W1 o,J y line a W1→YieldAt Fence.wide (6-1) Tryz.prog lp #[.agg #[.int .i64 R.k,.string (zb R.s),.int .i64 R.n,.int .i64 ((line:Int)+cn),.int .i64 ((a:Int)+g)],.int .i64 R.e] (W1.alloc o) fun e W'=>e=.returned (.bool false)∧E y line a W'):=fun W1 o h=>by
     have:=hE y line a W1 o G.out h (by rw [z.out];exact he) ha
     rw [A.out,z.out] at this
     unfold zds at this
     simp only [Int.natCast_add] at this;exact this
    gi_wp2_with (refine ⟨trivial,?_⟩;first
     | (gi_at_call 127;refine (callsIn_wide.2 (ab.out _)).mono ?_;rintro e T ⟨rfl,U⟩;subst U)
     | (gi_at_call 128;refine (callsIn_wide.2 (aa.out _)).mono ?_;rintro e T ⟨rfl,U⟩;subst U)
     | (gi_at_call 129;refine (callsIn_wide.2 (O.out _ aj.out)).mono ?_;rintro e T ⟨rfl,V⟩;obtain ⟨fn,ah,H,ag,hy,D⟩:=Q.out _ (.cells #[.int .i64 R.k,.string (zb R.s),.int .i64 R.n,.int .i64 ((line:Int)+cn),.int .i64 ((a:Int)+g)] 66) (hJg _ _ _ _ _ HJ.out V)))
    refine D.mono ?_;rintro e W3 ⟨rfl,ak⟩;clear D hy
    gi_wp2
    refine ⟨.inr ⟨rfl,.inl ⟨y,line,a,G.out,by rw [z.out];exact he,ak⟩⟩,?_⟩
    simp [intOf]
    omega
  ·gi_wp2
   go_end0
   exact ⟨⟨_,rfl⟩,ae⟩
end Go.Proofs.YtpejpbbdgblbeaaGreatDoor
namespace Go.Proofs.YtpejpbbdgblbeaaGreatDoor
open Go.RowKit
set_option maxHeartbeats 16000000
set_option maxRecDepth 100000
def xV (l:List UInt8):Nat→Nat→List Tk→Nat→Nat→Prop
 | line0,a0,[],line,a=>line=line0∧a=a0
 | line0,a0,t::ts,line,a=>(zQ l a0).e=0∧t=tkT l line0 a0∧xV l (yj l line0 a0) (zP l a0+(zQ l a0).sz) ts line a
theorem uy {l:List UInt8} {line a:Nat} (he:(zQ l a).e=0):∀{ts:List Tk} {line0 a0:Nat},xV l line0 a0 ts line a →
  xV l line0 a0 (ts++[tkT l line a]) (yj l line a) (zP l a+(zQ l a).sz)
 | [],line0,a0,⟨h1,h2⟩=>by subst h1;subst h2;exact ⟨he,rfl,rfl,rfl⟩
 | t::ts,line0,a0,⟨h1,h2,h3⟩=>⟨h1,h2,uy he h3⟩
theorem uz {l:List UInt8} {t:Tk} {line a:Nat}:∀{ts:List Tk} {line0 a0:Nat},xV l line0 a0 (ts++[t]) line a →
  ∃o y,xV l line0 a0 ts o y∧(zQ l y).e=0∧t=tkT l o y
 | [],line0,a0,h=>⟨line0,a0,⟨rfl,rfl⟩,h.1,h.2.1⟩
 | _::ts,line0,a0,h=>by
  obtain ⟨o,y,D,z,A⟩:=uz (ts:=ts) h.2.2;exact ⟨o,y,⟨h.1,h.2.1,D⟩,z,A⟩
def scanS (l:List UInt8):Nat→Nat→Nat→List Tk × Nat × Nat
 | 0,_,_=>([],0,0)
 | f+1,line,a =>
  if (zQ l a).e≠0 then ([],zP l a,(zQ l a).e) else if (zQ l a).k=0 then ([tkT l line a],0,0)
  else if (scanS l f (yj l line a) (zP l a+(zQ l a).sz)).2.2≠0 then ([],(scanS l f (yj l line a) (zP l a+(zQ l a).sz)).2.1,(scanS l f (yj l line a) (zP l a+(zQ l a).sz)).2.2)
  else (tkT l line a::(scanS l f (yj l line a) (zP l a+(zQ l a).sz)).1,0,0)
def zW (l:List UInt8):List Tk × Nat × Nat:=if 4096<l.length then ([],0,5) else scanS l (l.length+1) 1 0
theorem YG {l:List UInt8} {a:Nat} (ha:a≤l.length) (he:(zQ l a).e=0) (hk:(zQ l a).k≠0):a<zP l a+(zQ l a).sz∧zP l a+(zQ l a).sz≤l.length:=by
 have y:=vH ha;have h:=vG (l.drop (a+Z4 (l.drop a))) he;have z:=h.2.1 hk;have o:=h.1;rw [List.length_drop] at o
 unfold zP at y ⊢
 unfold zQ
 omega
theorem qL {l:List UInt8} {line a:Nat} (he:(zQ l a).e≠0):∀(ts:List Tk) (line0 a0 f:Nat),xV l line0 a0 ts line a→(∀t∈ts,t.k≠0)→a0≤l.length→l.length<a0+f →
  scanS l f line0 a0=([],zP l a,(zQ l a).e)
 | [],line0,a0,f,⟨h1,h2⟩,_,ha,hf=>by
  subst h1;subst h2;obtain ⟨f,rfl⟩:∃g,f=g+1:=⟨f-1,by omega⟩
  unfold scanS;rw [if_pos he]
 | t::ts,line0,a0,f,⟨h1,h2,h3⟩,hk,ha,hf=>by
  obtain ⟨f,rfl⟩:∃g,f=g+1:=⟨f-1,by omega⟩
  have h:(zQ l a0).k≠0:=by have:=hk t (List.mem_cons_self ..);rw [h2] at this;exact this
  have y:=YG ha h1 h;have o:=qL he ts _ _ f h3 (fun t ht=>hk t (List.mem_cons_of_mem _ ht)) y.2 (by omega)
  unfold scanS
  rw [if_neg (by simp [h1]),if_neg h,o,if_pos he]
theorem qM {l:List UInt8} {line a:Nat} (he:(zQ l a).e=0) (hz:(zQ l a).k=0):∀(ts:List Tk) (line0 a0 f:Nat),xV l line0 a0 ts line a→(∀t∈ts,t.k≠0)→a0≤l.length→l.length<a0+f →
  scanS l f line0 a0=(ts++[tkT l line a],0,0)
 | [],line0,a0,f,⟨h1,h2⟩,_,ha,hf=>by
  subst h1;subst h2;obtain ⟨f,rfl⟩:∃g,f=g+1:=⟨f-1,by omega⟩
  unfold scanS;rw [if_neg (by simp [he]),if_pos hz];rfl
 | t::ts,line0,a0,f,⟨h1,h2,h3⟩,hk,ha,hf=>by
  obtain ⟨f,rfl⟩:∃g,f=g+1:=⟨f-1,by omega⟩
  have h:(zQ l a0).k≠0:=by have:=hk t (List.mem_cons_self ..);rw [h2] at this;exact this
  have y:=YG ha h1 h;have o:=qM he hz ts _ _ f h3 (fun t ht=>hk t (List.mem_cons_of_mem _ ht)) y.2 (by omega)
  unfold scanS
  rw [if_neg (by simp [h1]),if_neg h,o,if_neg (by simp),h2]
  rfl
theorem v8 {l:List UInt8} {line a:Nat}:∀(ts:List Tk) (line0 a0:Nat),xV l line0 a0 ts line a→(∀t∈ts,t.k≠0)→a0≤l.length→line0≤a0+1→a0+ts.length≤a∧a≤l.length∧line≤a+1
 | [],line0,a0,⟨h1,h⟩,_,ha,hl=>by subst h1;subst h;exact ⟨by simp,ha,hl⟩
 | t::ts,line0,a0,⟨h1,h,h3⟩,hk,ha,hl=>by
  have o:(zQ l a0).k≠0:=by have:=hk t (List.mem_cons_self ..);rw [h] at this;exact this
  have y:=YG ha h1 o
  have z:yj l line0 a0≤zP l a0+1:=by
   unfold yj zP
   have:=zaq ((l.drop a0).take (Z4 (l.drop a0))) 10
   have h:((l.drop a0).take (Z4 (l.drop a0))).length≤Z4 (l.drop a0):=List.length_take_le ..;omega
  have:=v8 ts _ _ h3 (fun t ht=>hk t (List.mem_cons_of_mem _ ht)) y.2 (by omega)
  rw [List.length_cons];omega
def ZG (ts:List Tk):List Value:=ts.flatMap fun t=>[.int .i64 t.k,.string (zb t.s),.int .i64 t.n,.int .i64 t.line,.int .i64 t.at0]
theorem Ul (a b:List Tk):ZG (a++b)=ZG a++ZG b:=by unfold ZG;rw [List.flatMap_append]
theorem zcO:∀(f:Nat) (meant:List UInt8) (at0:Nat) (r:List UInt8),meant.length≤255→(Zq f meant at0 r).s.length≤255
 | 0,_,_,_,_=>by simp [Zq]
 | _+1,_,_,[],_=>by simp [Zq]
 | f+1,meant,at0,x::r,h=>by
  unfold Zq
  split
  ·exact h
  ·split
   ·simp
   ·split
    ·simp
    ·rename_i o
     exact zcO f _ _ _ (by rw [List.length_append];simp;omega)
theorem zeH (l:List UInt8):(Zc l).s.length≤l.length+255:=by
 cases l with
 | nil=>simp [Zc]
 | cons x r =>
  unfold Zc
  simp only
  split
  ·have:=Uk (x::r)
   unfold Yd
   split
   ·exact Nat.le_trans this (by omega)
   ·split
    ·simp
    ·exact Nat.le_trans this (by omega)
  ·split
   ·unfold XX;split <;> exact Nat.zero_le _
   ·split
    ·have h:(yT (x::r)).s.length≤255:=zcO (x::r).length [] 1 ((x::r).drop 1) (Nat.zero_le _)
     exact Nat.le_trans h (Nat.le_add_left 255 _)
    ·unfold Yu
     have h:=qI (x::r) 25;generalize bestS (x::r) 25=bb at h ⊢
     split
     ·exact Nat.zero_le _
     ·have o:2≤(x::r).length+255:=Nat.le_trans (by decide) (Nat.le_add_left 255 _)
      exact Nat.le_trans h o
def zeI:Nat→List UInt8→Nat
 | 0,_=>0
 | f+1,l=>if XV (l.drop (Z6 zV l))=true then
   Z6 zV l+(Z6 yw (l.drop (Z6 zV l))+zeI f ((l.drop (Z6 zV l)).drop (Z6 yw (l.drop (Z6 zV l)))))
  else Z6 zV l
theorem zcP:∀(f:Nat) (l:List UInt8),l.length<f→Z4 l=zeI f l
 | 0,l,h=>by omega
 | f+1,l,h=>by
  rw [Z4,zeI]
  by_cases hr:XV (l.drop (Z6 zV l))=true
  ·rw [dif_pos hr,if_pos hr,zcP f _ (by
    have:=XW hr
    have o:=xN yw (l.drop (Z6 zV l));simp only [List.length_drop] at *
    omega)]
  ·rw [dif_neg hr,if_neg hr]
theorem zeJ:Z4=fun l=>zeI (l.length+1) l:=funext fun l=>zcP _ l (Nat.lt_succ_self _)
def vP (g:List UInt8→Nat) (l:List UInt8) (a:Nat):TR:=Zc (l.drop (a+g (l.drop a)))
def zar (g:List UInt8→Nat) (l:List UInt8) (line a:Nat):Nat:=line+Lib.countByte ((l.drop a).take (g (l.drop a))) 10
def V3 (g:List UInt8→Nat) (l:List UInt8) (a:Nat):Nat:=a+g (l.drop a)
def tkG (g:List UInt8→Nat) (l:List UInt8) (line a:Nat):Tk:=⟨(vP g l a).k,(vP g l a).s,(vP g l a).n,zar g l line a,V3 g l a⟩
def Um (g:List UInt8→Nat) (l:List UInt8):Nat→Nat→Nat→List Tk × Nat × Nat
 | 0,_,_=>([],0,0)
 | f+1,line,a =>
  if (vP g l a).e≠0 then ([],V3 g l a,(vP g l a).e) else if (vP g l a).k=0 then ([tkG g l line a],0,0)
  else if (Um g l f (zar g l line a) (V3 g l a+(vP g l a).sz)).2.2≠0 then ([],(Um g l f (zar g l line a) (V3 g l a+(vP g l a).sz)).2.1,(Um g l f (zar g l line a) (V3 g l a+(vP g l a).sz)).2.2)
  else (tkG g l line a::(Um g l f (zar g l line a) (V3 g l a+(vP g l a).sz)).1,0,0)
theorem zcQ (l:List UInt8):∀(f line a:Nat),scanS l f line a=Um Z4 l f line a
 | 0,_,_=>rfl
 | f+1,line,a=>by
  unfold scanS Um
  rw [zcQ l f]
  rfl
def xO (l:List UInt8):List Tk × Nat × Nat:=Um (fun l=>zeI (l.length+1) l) l (l.length+1) 1 0
theorem zcR {l:List UInt8} (h:l.length≤4096):zW l=xO l:=by
 unfold zW xO
 rw [if_neg (by omega),zcQ,zeJ]
end Go.Proofs.YtpejpbbdgblbeaaGreatDoor
