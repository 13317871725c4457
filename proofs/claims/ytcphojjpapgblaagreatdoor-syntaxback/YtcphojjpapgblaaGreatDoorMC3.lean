import Derived.RangeFuncNested
import Derived.RangeFuncBound
import Derived.RangeFuncCalls
import Derived.RangeFuncLeaves
import Derived.RangeFuncBox
import Derived.Lib.Bytealg
import Derived.Shelf.Abstract
import Derived.Shelf.RegionOpen
import Derived.WalkKit
import Derived.OwnWalkIn
import Derived.TacticsInMore
import Derived.LoopNIn
import Derived.LoopIn
import Derived.Maps.AppendAt
import Derived.Test.YtcphojjpapgblaaGreatDoorXTk
import Derived.Sort.QuietIn
namespace Go.Proofs.YtcphojjpapgblaaGreatDoor
open Go.RowKit Go.Shelf
set_option maxHeartbeats 16000000
set_option maxRecDepth 100000
attribute [local go_sem] Oper.semAt_some
theorem zdN {x:UInt8} {r:List UInt8} (h:Zw x.toNat=true):1≤(Z4 (x::r)).length:=by
 unfold Z4;simp [ym,h]
theorem zaF:∀(f:Nat) (meant:List UInt8) (at0:Nat) (r:List UInt8),(Zo f meant at0 r).e=0→1≤(Zo f meant at0 r).sz∧(Zo f meant at0 r).sz≤at0+r.length
 | 0,_,_,_,h=>by simp [Zo] at h
 | _+1,_,_,[],h=>by simp [Zo] at h
 | f+1,meant,at0,x::r,h=>by
  have o:=(zeZ (x::r)).1
  unfold Zo at h ⊢
  by_cases h1:x.toNat=34
  ·rw [if_pos h1];simp
  ·rw [if_neg h1] at h ⊢
   by_cases h2:(v6 (x::r)).2=0
   ·rw [if_pos h2] at h;simp at h
   ·rw [if_neg h2] at h ⊢
    by_cases h3:meant.length=255
    ·rw [if_pos h3] at h;simp at h
    ·rw [if_neg h3] at h ⊢
     have:=zaF f _ _ _ h
     rw [List.length_drop] at this;omega
theorem zdO (l:List UInt8):bestS l 25=[]∨Lib.hasPrefix l (bestS l 25)=true:=by
 have y:∀(o:List (List UInt8)) (b:List UInt8),(b=[]∨Lib.hasPrefix l b=true)→(o.foldl (longer l) b=[]∨Lib.hasPrefix l (o.foldl (longer l) b)=true):=by
  intro o
  induction o with
  | nil=>intro b z;exact z
  | cons x o ih =>
   intro b z;refine ih _ ?_
   unfold longer
   split
   ·rename_i h;exact .inr h.2
   ·exact z
 exact y _ _ (.inl rfl)
theorem zgA {l x:List UInt8} (h:Lib.hasPrefix l x=true):x.length≤l.length:=by
 unfold Lib.hasPrefix at h
 exact (List.isPrefixOf_iff_prefix.1 h).length_le
theorem vz (l:List UInt8) (he:(Zb l).e=0):(Zb l).sz≤l.length∧((Zb l).k≠0→1≤(Zb l).sz)∧((Zb l).k=0→l=[]):=by
 cases l with
 | nil=>simp [Zb]
 | cons x r =>
  unfold Zb at he ⊢
  simp only at he ⊢
  by_cases h1:Zw x.toNat=true
  ·rw [if_pos h1] at he ⊢
   have A:=zdN (r:=r) h1;have o:=Ur (x::r)
   unfold Yf at he ⊢
   split
   ·exact ⟨o,fun _=>A,fun h=>by simp at h⟩
   ·rename_i N
    rw [if_neg N] at he
    split
    ·rename_i H;rw [if_pos H] at he;simp at he
    ·exact ⟨o,fun _=>A,fun h=>by simp at h⟩
  ·rw [if_neg h1] at he ⊢
   by_cases h2:Zx x.toNat=true
   ·rw [if_pos h2] at he ⊢
    have A:1≤(digL (x::r)).length:=by unfold digL;simp [h2]
    have o:=zc9 (x::r)
    unfold XT at he ⊢
    split
    ·exact ⟨o,fun _=>A,fun h=>by simp at h⟩
    ·rename_i G;rw [if_neg G] at he;simp at he
   ·rw [if_neg h2] at he ⊢
    by_cases h3:x.toNat=34
    ·rw [if_pos h3] at he ⊢
     have:=zaF _ _ _ _ he
     unfold yT
     have Q:∀(f:Nat) (m:List UInt8) (a:Nat) (q:List UInt8),(Zo f m a q).e=0→(Zo f m a q).k=3:=by
      intro f
      induction f with
      | zero=>intro m a q h;simp [Zo] at h
      | succ f ih =>
       intro m a q h;cases q with
       | nil=>simp [Zo] at h
       | cons y q =>
        unfold Zo at h ⊢
        split
        ·rfl
        ·rename_i O;rw [if_neg O] at h
         split
         ·rename_i I;rw [if_pos I] at h;simp at h
         ·rename_i I;rw [if_neg I] at h
          split
          ·rename_i J;rw [if_pos J] at h;simp at h
          ·rename_i J;rw [if_neg J] at h;exact ih _ _ _ h
     have D:=Q _ _ _ _ he;refine ⟨?_,fun _=>this.1,fun h=>by rw [D] at h;simp at h⟩
     have L:=this.2;rw [List.length_drop] at L
     simp at L ⊢
     omega
    ·rw [if_neg h3] at he ⊢
     have z:=zdO (x::r)
     unfold Yu at he ⊢
     generalize bestS (x::r) 25=bb at he z ⊢;cases bb with
     | nil=>simp at he
     | cons y ys =>
      rw [if_neg (by simp)]
      exact ⟨zgA (z.resolve_left (by simp)),fun _=>by simp,fun h=>by simp at h⟩
structure Tk where
 k:Nat
 s:List UInt8
 n:Nat
 line:Nat
 at0:Nat
def zdP (t:Tk):Value:=.agg #[.int .i64 t.k,.string (zb t.s),.int .i64 t.n,.int .i64 t.line,.int .i64 t.at0]
def zQ (l:List UInt8) (at0:Nat):TR:=Zb (l.drop (at0+Z0 (l.drop at0)))
def yd (l:List UInt8) (line at0:Nat):Nat:=line+Lib.countByte ((l.drop at0).take (Z0 (l.drop at0))) 10
def zO (l:List UInt8) (at0:Nat):Nat:=at0+Z0 (l.drop at0)
def tkT (l:List UInt8) (line at0:Nat):Tk:=⟨(zQ l at0).k,(zQ l at0).s,(zQ l at0).n,yd l line at0,zO l at0⟩
theorem vA {l:List UInt8} {at0:Nat} (h:at0≤l.length):zO l at0≤l.length:=by
 unfold zO
 have:=QO _ (l.drop at0) (Nat.le_refl _)
 rw [List.length_drop] at this;omega
theorem zaG (l:List UInt8) (c:UInt8):Lib.countByte l c≤l.length:=List.count_le_length
theorem zbX (lp Bn:Nat) (l:List UInt8) (hlen:l.length≤4096) (J:List Tk→Nat→Nat→World→Prop) (E:List Tk→Nat→Nat→World→Prop)
  (hJc:∀y line a W,(∀t∈y,t.k≠0)→J y line a W→W.cell? ⟨Bn,0,none⟩=some (.string (zb l))∧yH W∧line≤a+1)
  (hJg:∀y line a W W',J y line a W→Below W.heap.size W W'→J y line a W')
  (hE:∀y line a W1 o,(∀t∈y,t.k≠0)→J y line a W1→(zQ l a).e≠0→a≤l.length→YieldAt Fence.wide (6-1) Tryz.prog lp #[zdP (tkT l line a),.int .i64 (zQ l a).e] (W1.alloc o) fun e W'=>e=.returned (.bool false)∧E y line a W')
  (hY:∀y line a W1 o,(∀t∈y,t.k≠0)→J y line a W1→(zQ l a).e=0→a≤l.length→YieldAt Fence.wide (6-1) Tryz.prog lp #[zdP (tkT l line a),.int .i64 0] (W1.alloc o) fun e W'=>e=.returned (.bool true)∧J (y++[tkT l line a]) (yd l line a) (zO l a+(zQ l a).sz) W'∧W'.heap[W1.heap.size]?=some o)
  (W:World) (h0:J [] 1 0 W) :
  CallsIn Fence.wide 6 Tryz.prog 124 #[.func (.yield lp) #[] #[],.pointer (some ⟨Bn,0,none⟩)] W fun e W'=>(∃u,e=.returned u) ∧
   ((∃y line a,(∀t∈y,t.k≠0)∧(zQ l a).e≠0∧E y line a W')∨∃y line a,(∀t∈y,t.k≠0)∧(zQ l a).e=0∧(zQ l a).k=0∧J (y++[tkT l line a]) (yd l line a) (zO l a+(zQ l a).sz) W'):=by
 refine callsIn_of_wp Tryz.func124 rfl trivial ?_ rfl;simp only [Tryz.ntmps124,List.size_toArray,List.length_cons,List.length_nil,Nat.reduceAdd,Nat.reduceSub,Array.replicate_succ,Array.replicate_zero,List.push_toArray,List.append_toArray,List.nil_append,List.cons_append]
 gi_wp2
 gi_loopw [3,4,5] (fun vl va vm wr=>(∃y line a,vl=.int .i64 (line:Nat)∧va=.int .i64 (a:Nat)∧vm=.bool true∧a≤l.length∧(∀t∈y,t.k≠0)∧J y line a wr) ∨
   (vm=.bool false∧((∃y line a,(∀t∈y,t.k≠0)∧(zQ l a).e≠0∧E y line a wr)∨∃y line a,(∀t∈y,t.k≠0)∧(zQ l a).e=0∧(zQ l a).k=0∧J (y++[tkT l line a]) (yd l line a) (zO l a+(zQ l a).sz) wr)))
  (fun _ va vm _=>match vm with | .bool true=>l.length+1-(intOf va).toNat | _=>0)
 case atStart=>exact .inl ⟨[],1,0,rfl,rfl,rfl,Nat.zero_le _,(fun t h=>by cases h),h0⟩
 case round =>
  rcases hrel with ⟨y,line,a,rfl,rfl,rfl,ha,T,hJ⟩ | ⟨rfl,Z⟩
  ·obtain ⟨hc,N,ar⟩:=hJc _ _ _ _ T hJ
   have HJ:Hid (J y line a wr):=hJ;have D:Hid (∀t∈y,t.k≠0):=T;clear T;have ag:Hid (yH wr):=N;have ah:=vA (l:=l) ha;obtain ⟨g,hg⟩:∃g,g=Z0 (l.drop a):=⟨_,rfl⟩;have af:a+g≤l.length:=by rw [hg];exact ah
   have s1:=fun wx=>Xd wx l a ha
   have s2:=fun wx=>zc7 wx l a g af
   have s3:=fun wx=>Xd wx l (a+g) af
   rw [Int.natCast_add] at s3;have cg:=fun wx=>zgx (l.drop a) wx (by rw [List.length_drop];omega)
   rw [←hg] at cg;obtain ⟨cn,I⟩:∃cn,cn=Lib.countByte ((l.drop a).take g) 10:=⟨_,rfl⟩;have ap:cn≤g:=by rw [I];exact Nat.le_trans (zaG _ _) (List.length_take_le ..)
   have cc:=fun wx=>Tryz.strings_Count_one (zb ((l.drop a).take g)) 10 wx
   rw [show (zb ((l.drop a).take g)).data.toList=(l.drop a).take g from rfl,←I] at cc
   have ct:=fun wx (h:yH wx)=>qX (l.drop (a+g)) wx (by rw [List.length_drop];omega) h
   obtain ⟨R,hR⟩:∃R,R=Zb (l.drop (a+g)):=⟨_,rfl⟩;rw [←hR] at ct
   unfold yi at ct
   have z:Hid (zQ l a=R):=show zQ l a=R by unfold zQ;rw [←hg,←hR]
   have A:Hid (tkT l line a=⟨R.k,R.s,R.n,line+cn,a+g⟩):=show _=_ by unfold tkT yd zO;rw [z.out,←hg,←I]
   have ab:Hid (∀wx,Calls Tryz.prog 125 #[.string (zb (l.drop a))] wx fun e w'=>e=.returned (.int .i64 g)∧wx=w'):=cg
   have Y:Hid (∀wx,Calls Tryz.prog 126 #[.string (zb ((l.drop a).take g)),.string ⟨#[10]⟩] wx fun e w'=>e=.returned (.int .i64 cn)∧w'=wx):=cc
   have O:Hid (∀wx,yH wx→Calls Tryz.prog 127 #[.string (zb (l.drop (a+g)))] wx fun e w'=>e=.returned (.tuple #[.agg #[.int .i64 R.k,.string (zb R.s),.int .i64 R.n,.int .i64 0,.int .i64 0],.int .i64 R.sz,.int .i64 R.e])∧Below wx.heap.size wx w'):=ct
   have aj:Hid (R.e=0→R.sz≤l.length-(a+g)∧(R.k≠0→1≤R.sz)):=fun h=>by
    have:=vz (l.drop (a+g)) (by rw [←hR];exact h)
    rw [←hR,List.length_drop] at this;exact ⟨this.1,this.2.1⟩
   clear cg cc ct hg I hR hJ N ah;have ao:line+cn≤5000:=by omega
   have am:a+g≤4096:=by omega
   by_cases he:R.e=0
   ·obtain ⟨au,al⟩:=aj.out he
    have U:Hid (∀W1 o,J y line a W1→YieldAt Fence.wide (6-1) Tryz.prog lp #[.agg #[.int .i64 R.k,.string (zb R.s),.int .i64 R.n,.int .i64 ((line:Int)+cn),.int .i64 ((a:Int)+g)],.int .i64 0] (W1.alloc o) fun e W'=>e=.returned (.bool true)∧J (y++[tkT l line a]) (line+cn) (a+g+R.sz) W'∧W'.heap[W1.heap.size]?=some o):=fun W1 o h=>by
     have:=hY y line a W1 o D.out h (by rw [z.out];exact he) ha
     rw [A.out,z.out] at this;have e1:yd l line a=line+cn:=by have:=congrArg Tk.line A.out;exact this
     have e2:zO l a=a+g:=by have:=congrArg Tk.at0 A.out;exact this
     rw [e1,e2] at this
     unfold zdP at this
     simp only [Int.natCast_add] at this;rw [A.out];exact this
    rw [he] at O
    gi_wp2_with (refine ⟨trivial,?_⟩;first
     | (gi_at_call 125;refine (callsIn_wide.2 (ab.out _)).mono ?_;rintro e X ⟨rfl,V⟩;subst V)
     | (gi_at_call 126;refine (callsIn_wide.2 (Y.out _)).mono ?_;rintro e X ⟨rfl,V⟩;subst V)
     | (gi_at_call 127;refine (callsIn_wide.2 (O.out _ ag.out)).mono ?_;rintro e X ⟨rfl,Q⟩;obtain ⟨fn,ae,H,ad,hy,G⟩:=U.out _ (.cells #[.int .i64 R.k,.string (zb R.s),.int .i64 R.n,.int .i64 ((line:Int)+cn),.int .i64 ((a:Int)+g)] 65) (hJg _ _ _ _ _ HJ.out Q)))
    refine G.mono ?_;rintro e W3 ⟨rfl,aa,L⟩
    have aq:W3.cell? ⟨X.heap.size,0,none⟩=some (.int .i64 R.k):=by
     rw [cell_of_row W3 X.heap.size 0 _ _ _ L];rfl
    clear G hy L
    by_cases hk:R.k=0
    ·have ak:((R.k:Int) != 0)=false:=by rw [hk];rfl
     gi_wp2
     refine ⟨.inr ⟨rfl,.inr ⟨y,line,a,D.out,by rw [z.out];exact he,by rw [z.out];exact hk,?_⟩⟩,?_⟩
     ·have e1:yd l line a=line+cn:=by have:=congrArg Tk.line A.out;exact this
      have e2:zO l a=a+g:=by have:=congrArg Tk.at0 A.out;exact this
      rw [e1,e2,z.out];exact aa
     ·simp [intOf];omega
    ·have ak:((R.k:Int) != 0)=true:=by rw [bne_iff_ne];omega
     have an:=al hk
     gi_wp2
     refine ⟨.inl ⟨_,line+cn,a+g+R.sz,by go_num,by go_num,rfl,by omega,?_,aa⟩,?_⟩
     ·intro t ht
      rcases List.mem_append.1 ht with h | h
      ·exact D.out t h
      ·rw [List.mem_singleton] at h;rw [h,A.out];exact hk
     simp [intOf]
     omega
   ·have U:Hid (∀W1 o,J y line a W1→YieldAt Fence.wide (6-1) Tryz.prog lp #[.agg #[.int .i64 R.k,.string (zb R.s),.int .i64 R.n,.int .i64 ((line:Int)+cn),.int .i64 ((a:Int)+g)],.int .i64 R.e] (W1.alloc o) fun e W'=>e=.returned (.bool false)∧E y line a W'):=fun W1 o h=>by
     have:=hE y line a W1 o D.out h (by rw [z.out];exact he) ha
     rw [A.out,z.out] at this
     unfold zdP at this
     simp only [Int.natCast_add] at this;exact this
    gi_wp2_with (refine ⟨trivial,?_⟩;first
     | (gi_at_call 125;refine (callsIn_wide.2 (ab.out _)).mono ?_;rintro e X ⟨rfl,V⟩;subst V)
     | (gi_at_call 126;refine (callsIn_wide.2 (Y.out _)).mono ?_;rintro e X ⟨rfl,V⟩;subst V)
     | (gi_at_call 127;refine (callsIn_wide.2 (O.out _ ag.out)).mono ?_;rintro e X ⟨rfl,Q⟩;obtain ⟨fn,ae,H,ad,hy,G⟩:=U.out _ (.cells #[.int .i64 R.k,.string (zb R.s),.int .i64 R.n,.int .i64 ((line:Int)+cn),.int .i64 ((a:Int)+g)] 65) (hJg _ _ _ _ _ HJ.out Q)))
    refine G.mono ?_;rintro e W3 ⟨rfl,ai⟩;clear G hy
    gi_wp2
    refine ⟨.inr ⟨rfl,.inl ⟨y,line,a,D.out,by rw [z.out];exact he,ai⟩⟩,?_⟩
    simp [intOf]
    omega
  ·gi_wp2
   go_end0
   exact ⟨⟨_,rfl⟩,Z⟩
end Go.Proofs.YtcphojjpapgblaaGreatDoor
namespace Go.Proofs.YtcphojjpapgblaaGreatDoor
open Go.RowKit
set_option maxHeartbeats 16000000
set_option maxRecDepth 100000
def xV (l:List UInt8):Nat→Nat→List Tk→Nat→Nat→Prop
 | line0,a0,[],line,a=>line=line0∧a=a0
 | line0,a0,t::ts,line,a=>(zQ l a0).e=0∧t=tkT l line0 a0∧xV l (yd l line0 a0) (zO l a0+(zQ l a0).sz) ts line a
theorem uH {l:List UInt8} {line a:Nat} (he:(zQ l a).e=0):∀{ts:List Tk} {line0 a0:Nat},xV l line0 a0 ts line a →
  xV l line0 a0 (ts++[tkT l line a]) (yd l line a) (zO l a+(zQ l a).sz)
 | [],line0,a0,⟨h1,h2⟩=>by subst h1;subst h2;exact ⟨he,rfl,rfl,rfl⟩
 | t::ts,line0,a0,⟨h1,h2,h3⟩=>⟨h1,h2,uH he h3⟩
theorem uI {l:List UInt8} {t:Tk} {line a:Nat}:∀{ts:List Tk} {line0 a0:Nat},xV l line0 a0 (ts++[t]) line a →
  ∃o y,xV l line0 a0 ts o y∧(zQ l y).e=0∧t=tkT l o y
 | [],line0,a0,h=>⟨line0,a0,⟨rfl,rfl⟩,h.1,h.2.1⟩
 | _::ts,line0,a0,h=>by
  obtain ⟨o,y,A,z,D⟩:=uI (ts:=ts) h.2.2;exact ⟨o,y,⟨h.1,h.2.1,A⟩,z,D⟩
def scanS (l:List UInt8):Nat→Nat→Nat→List Tk × Nat × Nat
 | 0,_,_=>([],0,0)
 | f+1,line,a =>
  if (zQ l a).e≠0 then ([],zO l a,(zQ l a).e) else if (zQ l a).k=0 then ([tkT l line a],0,0)
  else if (scanS l f (yd l line a) (zO l a+(zQ l a).sz)).2.2≠0 then ([],(scanS l f (yd l line a) (zO l a+(zQ l a).sz)).2.1,(scanS l f (yd l line a) (zO l a+(zQ l a).sz)).2.2)
  else (tkT l line a::(scanS l f (yd l line a) (zO l a+(zQ l a).sz)).1,0,0)
def zW (l:List UInt8):List Tk × Nat × Nat:=if 4096<l.length then ([],0,5) else scanS l (l.length+1) 1 0
theorem YH {l:List UInt8} {a:Nat} (ha:a≤l.length) (he:(zQ l a).e=0) (hk:(zQ l a).k≠0):a<zO l a+(zQ l a).sz∧zO l a+(zQ l a).sz≤l.length:=by
 have o:=vA ha;have h:=vz (l.drop (a+Z0 (l.drop a))) he;have z:=h.2.1 hk;have y:=h.1;rw [List.length_drop] at y
 unfold zO at o ⊢
 unfold zQ
 omega
theorem qY {l:List UInt8} {line a:Nat} (he:(zQ l a).e≠0):∀(ts:List Tk) (line0 a0 f:Nat),xV l line0 a0 ts line a→(∀t∈ts,t.k≠0)→a0≤l.length→l.length<a0+f →
  scanS l f line0 a0=([],zO l a,(zQ l a).e)
 | [],line0,a0,f,⟨h1,h2⟩,_,ha,hf=>by
  subst h1;subst h2;obtain ⟨f,rfl⟩:∃g,f=g+1:=⟨f-1,by omega⟩
  unfold scanS;rw [if_pos he]
 | t::ts,line0,a0,f,⟨h1,h2,h3⟩,hk,ha,hf=>by
  obtain ⟨f,rfl⟩:∃g,f=g+1:=⟨f-1,by omega⟩
  have h:(zQ l a0).k≠0:=by have:=hk t (List.mem_cons_self ..);rw [h2] at this;exact this
  have o:=YH ha h1 h;have y:=qY he ts _ _ f h3 (fun t ht=>hk t (List.mem_cons_of_mem _ ht)) o.2 (by omega)
  unfold scanS
  rw [if_neg (by simp [h1]),if_neg h,y,if_pos he]
theorem qZ {l:List UInt8} {line a:Nat} (he:(zQ l a).e=0) (hz:(zQ l a).k=0):∀(ts:List Tk) (line0 a0 f:Nat),xV l line0 a0 ts line a→(∀t∈ts,t.k≠0)→a0≤l.length→l.length<a0+f →
  scanS l f line0 a0=(ts++[tkT l line a],0,0)
 | [],line0,a0,f,⟨h1,h2⟩,_,ha,hf=>by
  subst h1;subst h2;obtain ⟨f,rfl⟩:∃g,f=g+1:=⟨f-1,by omega⟩
  unfold scanS;rw [if_neg (by simp [he]),if_pos hz];rfl
 | t::ts,line0,a0,f,⟨h1,h2,h3⟩,hk,ha,hf=>by
  obtain ⟨f,rfl⟩:∃g,f=g+1:=⟨f-1,by omega⟩
  have h:(zQ l a0).k≠0:=by have:=hk t (List.mem_cons_self ..);rw [h2] at this;exact this
  have o:=YH ha h1 h;have y:=qZ he hz ts _ _ f h3 (fun t ht=>hk t (List.mem_cons_of_mem _ ht)) o.2 (by omega)
  unfold scanS
  rw [if_neg (by simp [h1]),if_neg h,y,if_neg (by simp),h2]
  rfl
theorem v7 {l:List UInt8} {line a:Nat}:∀(ts:List Tk) (line0 a0:Nat),xV l line0 a0 ts line a→(∀t∈ts,t.k≠0)→a0≤l.length→line0≤a0+1→a0+ts.length≤a∧a≤l.length∧line≤a+1
 | [],line0,a0,⟨h1,h⟩,_,ha,hl=>by subst h1;subst h;exact ⟨by simp,ha,hl⟩
 | t::ts,line0,a0,⟨h1,h,h3⟩,hk,ha,hl=>by
  have o:(zQ l a0).k≠0:=by have:=hk t (List.mem_cons_self ..);rw [h] at this;exact this
  have y:=YH ha h1 o
  have z:yd l line0 a0≤zO l a0+1:=by
   unfold yd zO
   have:=zaG ((l.drop a0).take (Z0 (l.drop a0))) 10
   have h:((l.drop a0).take (Z0 (l.drop a0))).length≤Z0 (l.drop a0):=List.length_take_le ..;omega
  have:=v7 ts _ _ h3 (fun t ht=>hk t (List.mem_cons_of_mem _ ht)) y.2 (by omega)
  rw [List.length_cons];omega
def ZD (ts:List Tk):List Value:=ts.flatMap fun t=>[.int .i64 t.k,.string (zb t.s),.int .i64 t.n,.int .i64 t.line,.int .i64 t.at0]
theorem Us (a b:List Tk):ZD (a++b)=ZD a++ZD b:=by unfold ZD;rw [List.flatMap_append]
theorem zda:∀(f:Nat) (meant:List UInt8) (at0:Nat) (r:List UInt8),meant.length≤255→(Zo f meant at0 r).s.length≤255
 | 0,_,_,_,_=>by simp [Zo]
 | _+1,_,_,[],_=>by simp [Zo]
 | f+1,meant,at0,x::r,h=>by
  unfold Zo
  split
  ·exact h
  ·split
   ·simp
   ·split
    ·simp
    ·rename_i o
     exact zda f _ _ _ (by rw [List.length_append];simp;omega)
theorem ze0 (l:List UInt8):(Zb l).s.length≤l.length+255:=by
 cases l with
 | nil=>simp [Zb]
 | cons x r =>
  unfold Zb
  simp only
  split
  ·have:=Ur (x::r)
   unfold Yf
   split
   ·exact Nat.le_trans this (by omega)
   ·split
    ·simp
    ·exact Nat.le_trans this (by omega)
  ·split
   ·unfold XT;split <;> exact Nat.zero_le _
   ·split
    ·have h:(yT (x::r)).s.length≤255:=zda (x::r).length [] 1 ((x::r).drop 1) (Nat.zero_le _)
     exact Nat.le_trans h (Nat.le_add_left 255 _)
    ·unfold Yu
     have h:=qV (x::r) 25;generalize bestS (x::r) 25=bb at h ⊢
     split
     ·exact Nat.zero_le _
     ·have o:2≤(x::r).length+255:=Nat.le_trans (by decide) (Nat.le_add_left 255 _)
      exact Nat.le_trans h o
end Go.Proofs.YtcphojjpapgblaaGreatDoor
namespace Go.Proofs.YtcphojjpapgblaaGreatDoor
open Go.RowKit Go.Shelf
set_option maxHeartbeats 16000000
set_option maxRecDepth 100000
attribute [local go_sem] Oper.semAt_some
theorem Qa (l:List UInt8) (w:World) (hl:l.length≤281474976710656) :
  Calls Tryz.prog 87 #[.string (zb l)] w fun e w'=>e=.returned (.string (zb l))∧Below w.heap.size w w':=by
 go_enter Tryz.func87,Tryz.ntmps87
 go_wp2_with fail
 refine (Tryz.stringslite_Clone (zb l) w hl).mono ?_;rintro e o ⟨rfl,h⟩;have y:Hid (Below w.heap.size w o):=h;clear h;go_wp2
 go_ret
 exact ⟨rfl,y.out⟩
theorem zdQ (l:List UInt8) (w:World) :
  CallsIn Fence.wide 6 Tryz.prog 86 #[.string (zb l)] w fun e w'=>e=.returned (.func (.func 124) #[] #[.pointer (some ⟨w.heap.size,0,none⟩)])∧w'=w.alloc (.cells #[.string (zb l)] 9):=by
 refine callsIn_of_wp Tryz.func86 rfl trivial ?_ rfl;simp only [Tryz.ntmps86,List.size_toArray,List.length_cons,List.length_nil,Nat.reduceAdd,Nat.reduceSub,Array.replicate_succ,Array.replicate_zero,List.push_toArray,List.append_toArray,List.nil_append,List.cons_append]
 gi_wp2
 go_ret
 exact ⟨rfl,rfl⟩
theorem zaH {n:Nat} {P:Program} {g:Operand} {ps:Array Tmp} {assign body:Code} {Q:Exit→Act→World→Prop} {a:Act} {w:World} {gf:Nat} {lb:Array Value}
  (hg:a.eval g=.func (.func gf) #[] lb) (eg:∀args w,(callFunc gf args).run P w=.ok (.enter gf args) w)
  (h:∀r0:Loop,r0.state=.ready→r0.pending=none→r0.tmps=a.tmps→r0.params=ps→r0.assign=assign→r0.body=body →
   CallsIn Fence.wide (n-1) P gf (#[.func (.yield (w.heap.size+1)) #[] #[]]++lb) ((w.alloc (.deferred (some []))).alloc (.loop r0)) (rangePost Fence.wide n P (w.heap.size+1) Q { a with defers:=[{ target:=.collected w.heap.size,args:=#[] }]++a.defers })) :
  (Code.rangeFunc g ps assign body).wpIn Fence.wide n P Q a w :=
 wpIn_rangeFunc fun fn _=>⟨_,_,_,{ target:=.fn (.func gf) lb,args:=#[.func (.yield (w.heap.size+1)) #[] #[]] },_,gf,_,_,run_enterLoop_outer fn a.tmps ps assign body,
  by simp only [resolve,hg];simp [go_sem];rfl,fun _ _=>trivial,by simp [invoke,go_sem,eg];rfl,(fun hd=>by cases hd),h _ rfl rfl rfl rfl rfl rfl⟩
theorem ze1:(Tryz.prog.info? 65).map (fun i=>(i.zero,i.size,i.bytes))=some (some (.agg #[.int .i64 0,.string ⟨#[]⟩,.int .i64 0,.int .i64 0,.int .i64 0]),5,48):=by kernel_rfl
structure YV (N:Nat) (w:World) (l:List UInt8) (ob:Obj) (pre:List Tk) (line a:Nat) (W:World):Prop where
 all:∃r,Boxed W (N+3) 57 r∧W.ownsRow (N+7) 65 5 r pre.length (ZD pre)
 r0:Boxed W N 57 (.slice none 0 0)
 r1:Boxed W (N+1) 3 (.int .i64 0)
 r2:Boxed W (N+2) 26 (.int .i64 0)
 sb:Boxed W (N+4) 9 (.string (zb l))
 bel:Below N w W
 defd:W.heap[N+5]?=some (.deferred (some []))
 loop:W.heap[N+6]?=some ob
 unto:xV l 1 0 pre line a
structure zdb (N:Nat) (w:World) (l:List UInt8) (ob:Obj) (pre:List Tk) (line a:Nat) (W:World):Prop where
 r0:Boxed W N 57 (.slice none 0 0)
 r1:Boxed W (N+1) 3 (.int .i64 (zO l a))
 r2:Boxed W (N+2) 26 (.int .i64 (zQ l a).e)
 bel:Below N w W
 defd:W.heap[N+5]?=some (.deferred (some []))
 loop:W.heap[N+6]?=some ob
 unto:xV l 1 0 pre line a
theorem Ut {w w':World} {B e sz n:Nat} {v:Value} {xs:List Value} (h:w.ownsRow B e sz v n xs) (hk:∀(k:Nat) (o:Array Value),w.heap[k]?=some (Obj.cells o e (0,0))→w'.heap[k]?=w.heap[k]?):w'.ownsRow B e sz v n xs:=by
 obtain ⟨D,y⟩:=h;refine ⟨D,?_⟩;rcases y with y | ⟨g,z,o,G,H,A,r⟩
 ·exact .inl y
 ·exact .inr ⟨g,z,o,G,H,(hk g o A).trans A,r⟩
theorem zdR {w:World} {B B' e sz n:Nat} {v:Value} {xs:List Value} (h:w.ownsRow B e sz v n xs) (hB:B'≤B):w.ownsRow B' e sz v n xs:=by
 obtain ⟨A,o⟩:=h;refine ⟨A,?_⟩;rcases o with o | ⟨g,z,y,D,G,r⟩
 ·exact .inl o
 ·exact .inr ⟨g,z,y,D,Nat.le_trans hB G,r⟩
theorem YV.grow {N:Nat} {w:World} {l:List UInt8} {ob:Obj} {pre:List Tk} {line a:Nat} {W W':World} (h:YV N w l ob pre line a W) (hB:Below W.heap.size W W'):YV N w l ob pre line a W':=by
 have Q:N+6<W.heap.size:=(Array.getElem?_eq_some_iff.1 h.loop).1;obtain ⟨⟨r,I,A⟩,J,O,G,H,D,hd,z,L⟩:=h;have y:∀{k:Nat} {o:Obj},W.heap[k]?=some o→W'.heap[k]?=some o:=fun {k o} hk=>(hB.block k (Array.getElem?_eq_some_iff.1 hk).1).trans hk
 exact ⟨⟨r,y I,Ut A (fun k cur hk=>hB.block k (Array.getElem?_eq_some_iff.1 hk).1)⟩,y J,y O,y G,y H,D.trans (hB.mono (by omega)),y hd,y z,L⟩
theorem YV.put {N:Nat} {w:World} {l:List UInt8} {ob ob':Obj} {pre:List Tk} {line a:Nat} {W:World} (h:YV N w l ob pre line a W) (hob:ob.isCells=false):YV N w l ob' pre line a (W.putObj (N+6) ob'):=by
 have O:N+6<W.heap.size:=(Array.getElem?_eq_some_iff.1 h.loop).1;have y:=h.loop;obtain ⟨⟨r,H,z⟩,I,L,D,G,A,hd,_,J⟩:=h;have o:∀{k:Nat},k≠N+6→(W.putObj (N+6) ob').heap[k]?=W.heap[k]?:=fun {k} hk=>World.putObj_heap_other hk
 refine ⟨⟨r,(o (by omega)).trans H,Ut z (fun k cur hk=>o (fun e=>?_))⟩,(o (by omega)).trans I,(o (by omega)).trans L,(o (by omega)).trans D,(o (by omega)).trans G,?_,(o (by omega)).trans hd,World.putObj_heap_same O,J⟩
 ·rw [e,y] at hk;cases hk;cases hob
 ·exact A.trans ((Below.refl N W).grown (grownBy_putObj' W _ _) (by omega) (fun k e=>by cases e;omega))
theorem Y7 {W:World} {b i:Nat} {v:Value} {cur:Array Value} {t:TypeId} {fr:Nat × Nat} (h:W.heap[b]?=some (.cells cur t fr)) (hv:cur[i]?=some v):W.setCell ⟨b,i,none⟩ v=W:=by
 have e:W.heap.modify b (fun | .cells c elem frozen=>.cells (if (none:Option Unit).isSome then c else c.setIfInBounds i v) elem frozen | o=>o)=W.heap:=by
  apply Array.ext_getElem?
  intro k
  by_cases hk:k=b
  ·subst hk
   rw [Array.getElem?_modify,h]
   have:cur.setIfInBounds i v=cur:=by
    apply Array.ext_getElem?
    intro j;rw [Array.getElem?_setIfInBounds]
    by_cases hj:i=j
    ·subst hj
     rw [hv]
     have:=(Array.getElem?_eq_some_iff.1 hv).1
     simp [this]
    ·simp [hj]
   simp [this]
  ·rw [Array.getElem?_modify,if_neg (by omega)]
 cases W
 unfold World.setCell
 simp only at e ⊢
 congr 1
theorem xW {fn:Func} {p q s:Tmp} {t1 t2 t3:TypeId} (h:fn.results=#[.cell p t1,.cell q t2,.cell s t3]) (tmps:Array Value) (P:Program) (w:World) {a1 a2 a3:Addr} {v1 v2 v3:Value}
  (h1:tmps.getD p undef=.pointer (some a1)) (h2:tmps.getD q undef=.pointer (some a2)) (h3:tmps.getD s undef=.pointer (some a3))
  (l1:(loadVar t1 a1).run P w=.ok v1 w) (l2:(loadVar t2 a2).run P w=.ok v2 w) (l3:(loadVar t3 a3).run P w=.ok v3 w) :
  (results fn tmps).run P w=.ok (.tuple #[v1,v2,v3]) w:=by
 rw [Array.getD_eq_getD_getElem?] at h1 h2 h3;simp only [results,h]
 simp [Sem.run_bind,Result.andThen,h1,h2,h3,l1,l2,l3,asAddr]
theorem zbY {W:World} {b i:Nat} {cur:Array Value} {t:TypeId} (h:W.heap[b]?=some (.cells cur t (0,0))):W.frozen? ⟨b,i,none⟩=false:=by simp [World.frozen?,h]
theorem ZP (W:World) (cs:List Value) (t:TypeId):∀j u,cs[j]?=some u→(W.alloc (.cells cs.toArray t)).cell? ((⟨W.heap.size,0,none⟩:Addr).add j)=some u:=fun j u h=>by
 rw [show (⟨W.heap.size,0,none⟩:Addr).add j=⟨W.heap.size,j,none⟩ by simp [Addr.add];try omega,cell_of_row _ _ _ _ _ _ (World.alloc_heap_new W _)]
 simpa using h
theorem zgB (l:List UInt8) (w:World) (hl:l.length≤4096) (ht:yH w) :
  Calls Tryz.prog 45 #[.string (zb l)] w fun e w'=>∃(r:Value),e=.returned (.tuple #[r,.int .i64 (scanS l (l.length+1) 1 0).2.1,.int .i64 (scanS l (l.length+1) 1 0).2.2]) ∧
   w'.ownsRow w.heap.size 65 5 r (scanS l (l.length+1) 1 0).1.length (ZD (scanS l (l.length+1) 1 0).1)∧Below w.heap.size w w':=by
 obtain ⟨i0,hi,a0,a5,aU⟩:=info_parts ze1;have HT:Hid (yH w):=ht;have be:(zb l).size=l.length:=rfl;clear ht;refine (callsIn_wide (n:=7)).1 ?_;refine callsIn_of_wp_marks Tryz.func45 rfl trivial ?_ rfl;simp only [Tryz.ntmps45,List.size_toArray,List.length_cons,List.length_nil,Nat.reduceAdd,Nat.reduceSub,Array.replicate_succ,Array.replicate_zero,List.push_toArray,List.append_toArray,List.nil_append,List.cons_append]
 gi_wp2_with (refine ⟨trivial,?_⟩;gi_at_call 86;refine (zdQ _ _).mono ?_;rintro e w' ⟨rfl,rfl⟩)
 refine zaH rfl (enters_of Tryz.func124 (by kernel_rfl) rfl) (fun r0 hst hpe htm hpa has hbo=>?_)
 obtain ⟨N,hN⟩:∃N,N=w.heap.size:=⟨_,rfl⟩;obtain ⟨W0,I⟩:∃W0,W0=((((w.alloc (.cells #[.slice none 0 0] 57)).alloc (.cells #[.int .i64 0] 3)).alloc (.cells #[.int .i64 0] 26)).alloc (.cells #[.slice none 0 0] 57)).alloc (.cells #[.string (zb l)] 9):=⟨_,rfl⟩;have az:W0.heap.size=N+5:=by rw [I,hN];simp
 have a2:Below N w W0:=by
  rw [I,hN];exact (((((Below.refl _ w).alloc (Nat.le_refl _) _).alloc (by simp) _).alloc (by simp;omega) _).alloc (by simp;omega) _).alloc (by simp;omega) _
 have b0:Boxed W0 N 57 (.slice none 0 0):=by rw [I,hN];exact ((((Boxed.new w _ _).alloc _).alloc _).alloc _).alloc _
 have b1:Boxed W0 (N+1) 3 (.int .i64 0):=by
  have h:=(((Boxed.new (w.alloc (.cells #[.slice none 0 0] 57)) 3 (.int .i64 0)).alloc (.cells #[.int .i64 0] 26)).alloc (.cells #[.slice none 0 0] 57)).alloc (.cells #[.string (zb l)] 9);rw [World.size_alloc] at h;rw [I,hN];exact h
 have b2:Boxed W0 (N+2) 26 (.int .i64 0):=by
  have h:=((Boxed.new ((w.alloc (.cells #[.slice none 0 0] 57)).alloc (.cells #[.int .i64 0] 3)) 26 (.int .i64 0)).alloc (.cells #[.slice none 0 0] 57)).alloc (.cells #[.string (zb l)] 9);rw [World.size_alloc,World.size_alloc] at h;rw [I,hN];exact h
 have b3:Boxed W0 (N+3) 57 (.slice none 0 0):=by
  have h:=(Boxed.new (((w.alloc (.cells #[.slice none 0 0] 57)).alloc (.cells #[.int .i64 0] 3)).alloc (.cells #[.int .i64 0] 26)) 57 (.slice none 0 0)).alloc (.cells #[.string (zb l)] 9);rw [World.size_alloc,World.size_alloc,World.size_alloc] at h;rw [I,hN];exact h
 have b4:Boxed W0 (N+4) 9 (.string (zb l)):=by
  have h:=Boxed.new ((((w.alloc (.cells #[.slice none 0 0] 57)).alloc (.cells #[.int .i64 0] 3)).alloc (.cells #[.int .i64 0] 26)).alloc (.cells #[.slice none 0 0] 57)) 9 (.string (zb l));rw [World.size_alloc,World.size_alloc,World.size_alloc,World.size_alloc] at h;rw [I,hN];exact h
 rw [←I,az];simp only [Nat.add_assoc,Nat.reduceAdd] at htm ⊢;rw [←hN] at htm ⊢;have HN:Hid (N=w.heap.size):=hN;clear hN I
 have ap:((W0.alloc (.deferred (some []))).alloc (.loop r0)).heap[N+5]?=some (.deferred (some [])):=by
  rw [←az];exact (Below.heap_alloc _ _ _ (by simp)).trans (World.alloc_heap_new W0 _)
 have ay:((W0.alloc (.deferred (some []))).alloc (.loop r0)).heap[N+6]?=some (.loop r0):=by
  have:=World.alloc_heap_new (W0.alloc (.deferred (some []))) (.loop r0)
  rwa [World.size_alloc,az] at this
 have au:YV N w l (.loop r0) [] 1 0 ((W0.alloc (.deferred (some []))).alloc (.loop r0)) :=
  ⟨⟨.slice none 0 0,(b3.alloc _).alloc _,World.ownsRow_nil _ _ _ _⟩,(b0.alloc _).alloc _,(b1.alloc _).alloc _,(b2.alloc _).alloc _,(b4.alloc _).alloc _,((a2.alloc (by omega) _).alloc (by simp;omega) _),ap,ay,rfl,rfl⟩
 obtain ⟨rE,aK⟩:∃rE:Loop,rE={ r0 with state:=.done,pending:=some .ret }:=⟨_,rfl⟩;have av:Hid (rE={ r0 with state:=.done,pending:=some .ret }):=aK;clear aK;refine (zbX (N+6) (N+4) l hl (YV N w l (.loop r0)) (zdb N w l (.loop rE)) ?hJc ?hJg ?hE ?hY _ au).mono ?_
 case hJc =>
  intro y line a W Y V;exact ⟨V.sb.cell,HT.out.below V.bel (by rw [HN.out];exact Nat.le_refl _),(v7 y 1 0 V.unto Y (Nat.zero_le _) (by omega)).2.2⟩
 case hJg =>
  intro y line a W W' h hB;exact h.grow hB
 case hE =>
  intro y line a A o Y V he ha;have ab:YV N w l (.loop r0) y line a (A.alloc o):=V.grow ((Below.refl _ A).alloc (Nat.le_refl _) o);have D:=ab.loop;refine ⟨_,_,_,_,run_yield D (by rw [hpa];rfl),roundIn_of_wpIn trivial ?_⟩
  rw [has,hbo,htm,hpa];obtain ⟨T,hT⟩:∃T,T=tkT l line a:=⟨_,rfl⟩;rw [←hT];have ao:Hid (T=tkT l line a):=hT;clear hT;obtain ⟨er,ar⟩:∃er,er=(zQ l a).e:=⟨_,rfl⟩;rw [←ar] at he ⊢;have aW:Hid (er=(zQ l a).e):=ar;clear ar;have bq:((er:Int) != 0)=true:=by rw [bne_iff_ne];omega
  unfold zdP
  simp only [List.zip_toArray,List.zip_cons_cons,List.zip_nil_right]
  gi_wp2
  have af:YV N w l (.loop r0) y line a ((A.alloc o).alloc (.cells #[.int .i64 T.k,.string (zb T.s),.int .i64 T.n,.int .i64 T.line,.int .i64 T.at0] 65)):=ab.grow ((Below.refl _ _).alloc (Nat.le_refl _) _);have al:=af.loop;refine ⟨_,run_beginRound (P:=Tryz.prog) al hst,?_⟩;have G:=af.put (ob':=.loop { r0 with state:=.busy }) rfl;have ax:N+6<A.heap.size:=(Array.getElem?_eq_some_iff.1 V.loop).1
  have U:(((A.alloc o).alloc (.cells #[.int .i64 T.k,.string (zb T.s),.int .i64 T.n,.int .i64 T.line,.int .i64 T.at0] 65)).putObj (N+6) (.loop { r0 with state:=.busy })).heap[A.heap.size+1]?=some (.cells #[.int .i64 T.k,.string (zb T.s),.int .i64 T.n,.int .i64 T.line,.int .i64 T.at0] 65 (0,0)):=by
   rw [World.putObj_heap_other (by omega)]
   have:=World.alloc_heap_new (A.alloc o) (.cells #[.int .i64 T.k,.string (zb T.s),.int .i64 T.n,.int .i64 T.line,.int .i64 T.at0] 65)
   rwa [World.size_alloc] at this
  generalize ((A.alloc o).alloc (.cells #[.int .i64 T.k,.string (zb T.s),.int .i64 T.n,.int .i64 T.line,.int .i64 T.at0] 65)).putObj (N+6) (.loop { r0 with state:=.busy })=Wb at G U ⊢;obtain ⟨M,hM⟩:∃M,M=A.heap.size:=⟨_,rfl⟩;rw [←hM] at U ax ⊢;clear hM al af D ab V;have aC:Hid (YV N w l (.loop { r0 with state:=.busy }) y line a Wb):=G;have k0:=G.r0;have k1:=G.r1;have k2:=G.r2;have aO:=k0.cell;have a9:=k0.frozen;have aH:=k1.cell;have a3:=k1.frozen;have aL:=k2.cell;have ba:=k2.frozen;clear G;have q4:Wb.cell? ⟨M+1,4,none⟩=some (.int .i64 T.at0):=by rw [cell_of_row _ _ _ _ _ _ U];rfl
  have s0:Wb.setCell ⟨N,0,none⟩ (.slice none 0 0)=Wb:=Y7 k0 rfl;have bc:(Wb.setCell ⟨N+1,0,none⟩ (.int .i64 T.at0)).cell? ⟨N+2,0,none⟩=some (.int .i64 0):=(k2.kept (grownBy_setCell' Wb (N+1) _) (by simp)).cell
  have bt:(Wb.setCell ⟨N+1,0,none⟩ (.int .i64 T.at0)).frozen? ⟨N+2,0,none⟩=false:=(k2.kept (grownBy_setCell' Wb (N+1) _) (by simp)).frozen
  have HF:Hid (∀aP,roundPost Tryz.prog (N+6) (fun e W'=>e=Ending.returned (Value.bool false)∧zdb N w l (Obj.loop rE) y line a W') Exit.ret aP ((Wb.setCell ⟨N+1,0,none⟩ (.int .i64 T.at0)).setCell ⟨N+2,0,none⟩ (.int .i64 er)).drew):=by
   intro aP;have J:=aC.out
   have aj:∀{k:Nat} {ob:Obj},k≠N+1→k≠N+2→Wb.heap[k]?=some ob→((Wb.setCell ⟨N+1,0,none⟩ (.int .i64 T.at0)).setCell ⟨N+2,0,none⟩ (.int .i64 er)).drew.heap[k]?=some ob:=fun {k ob} Q L h3=>by
    show ((Wb.setCell ⟨N+1,0,none⟩ (.int .i64 T.at0)).setCell ⟨N+2,0,none⟩ (.int .i64 er)).heap[k]?=some ob
    rw [Below.heap_setCell _ _ _ _ (by simpa using L),Below.heap_setCell _ _ _ _ (by simpa using Q),h3]
   have m1:Boxed ((Wb.setCell ⟨N+1,0,none⟩ (.int .i64 T.at0)).setCell ⟨N+2,0,none⟩ (.int .i64 er)).drew (N+1) 3 (.int .i64 T.at0):=by
    have h:=(k1.set (.int .i64 T.at0)).kept (grownBy_setCell' (Wb.setCell ⟨N+1,0,none⟩ (.int .i64 T.at0)) (N+2) (.int .i64 er)) (by simp)
    exact h
   have m2:Boxed ((Wb.setCell ⟨N+1,0,none⟩ (.int .i64 T.at0)).setCell ⟨N+2,0,none⟩ (.int .i64 er)).drew (N+2) 26 (.int .i64 er):=(k2.kept (grownBy_setCell' Wb (N+1) (.int .i64 T.at0)) (by simp)).set (.int .i64 er)
   have hB:Below N Wb ((Wb.setCell ⟨N+1,0,none⟩ (.int .i64 T.at0)).setCell ⟨N+2,0,none⟩ (.int .i64 er)).drew:=(((Below.refl N Wb).setCell (p:=⟨N+1,0,none⟩) (by simp) _).setCell (p:=⟨N+2,0,none⟩) (by simp) _).trans (⟨rfl,rfl,rfl,Nat.le_refl _,fun _ _=>rfl⟩:Below N ((Wb.setCell ⟨N+1,0,none⟩ (.int .i64 T.at0)).setCell ⟨N+2,0,none⟩ (.int .i64 er)) ((Wb.setCell ⟨N+1,0,none⟩ (.int .i64 T.at0)).setCell ⟨N+2,0,none⟩ (.int .i64 er)).drew)
   have m0:=aj (k:=N) (by omega) (by omega) J.r0
   have md:=aj (k:=N+5) (by omega) (by omega) J.defd
   have ml:=aj (k:=N+6) (by omega) (by omega) J.loop
   generalize ((Wb.setCell ⟨N+1,0,none⟩ (.int .i64 T.at0)).setCell ⟨N+2,0,none⟩ (.int .i64 er)).drew=X at m0 m1 m2 md ml hB ⊢;have hX:=(Array.getElem?_eq_some_iff.1 ml).1;refine ⟨_,_,run_endRound (some .ret) ml,rfl,?_⟩
   have aw:({ { r0 with state:=.busy } with state:=if (some Code.ret).isNone then .ready else .done,pending:=some .ret }:Loop)=rE:=by
    rw [av.out];rfl
   rw [aw];have e1:T.at0=zO l a:=by rw [ao.out];rfl
   rw [e1] at m1;rw [aW.out] at m2;have put:∀{k:Nat} {ob:Obj},k≠N+6→X.heap[k]?=some ob→(X.putObj (N+6) (.loop rE)).heap[k]?=some ob:=fun {k ob} Q L=>(World.putObj_heap_other Q).trans L
   exact ⟨put (by omega) m0,put (by omega) m1,put (by omega) m2,(J.bel.trans hB).trans ((Below.refl N X).grown (grownBy_putObj' X _ _) (by omega) (fun k e=>by cases e;omega)),put (by omega) md,World.putObj_heap_same hX,J.unto⟩
  gi_wp2
  gi_region
  all_goals (gi_wp2;exact HF.out _)
 case hY =>
  intro y line a A o Y V he ha;have ab:YV N w l (.loop r0) y line a (A.alloc o):=V.grow ((Below.refl _ A).alloc (Nat.le_refl _) o);have bh:=v7 y 1 0 V.unto Y (Nat.zero_le _) (by omega)
  have D:=ab.loop;refine ⟨_,_,_,_,run_yield D (by rw [hpa];rfl),roundIn_of_wpIn trivial ?_⟩
  rw [has,hbo,htm,hpa];obtain ⟨T,hT⟩:∃T,T=tkT l line a:=⟨_,rfl⟩;rw [←hT];have ao:Hid (T=tkT l line a):=hT;clear hT
  unfold zdP
  simp only [List.zip_toArray,List.zip_cons_cons,List.zip_nil_right]
  gi_wp2
  have af:YV N w l (.loop r0) y line a ((A.alloc o).alloc (.cells #[.int .i64 T.k,.string (zb T.s),.int .i64 T.n,.int .i64 T.line,.int .i64 T.at0] 65)):=ab.grow ((Below.refl _ _).alloc (Nat.le_refl _) _);have al:=af.loop;refine ⟨_,run_beginRound (P:=Tryz.prog) al hst,?_⟩;have G:=af.put (ob':=.loop { r0 with state:=.busy }) rfl;have ax:N+6<A.heap.size:=(Array.getElem?_eq_some_iff.1 V.loop).1
  have ho:(((A.alloc o).alloc (.cells #[.int .i64 T.k,.string (zb T.s),.int .i64 T.n,.int .i64 T.line,.int .i64 T.at0] 65)).putObj (N+6) (.loop { r0 with state:=.busy })).heap[A.heap.size]?=some o:=by
   rw [World.putObj_heap_other (by omega),Below.heap_alloc _ _ _ (by simp)]
   exact World.alloc_heap_new A _
  have U:(((A.alloc o).alloc (.cells #[.int .i64 T.k,.string (zb T.s),.int .i64 T.n,.int .i64 T.line,.int .i64 T.at0] 65)).putObj (N+6) (.loop { r0 with state:=.busy })).heap[A.heap.size+1]?=some (.cells #[.int .i64 T.k,.string (zb T.s),.int .i64 T.n,.int .i64 T.line,.int .i64 T.at0] 65 (0,0)):=by
   rw [World.putObj_heap_other (by omega)]
   have:=World.alloc_heap_new (A.alloc o) (.cells #[.int .i64 T.k,.string (zb T.s),.int .i64 T.n,.int .i64 T.line,.int .i64 T.at0] 65)
   rwa [World.size_alloc] at this
  have ah:∀k,k≠N+6→k<A.heap.size→∀ob,A.heap[k]?=some ob→(((A.alloc o).alloc (.cells #[.int .i64 T.k,.string (zb T.s),.int .i64 T.n,.int .i64 T.line,.int .i64 T.at0] 65)).putObj (N+6) (.loop { r0 with state:=.busy })).heap[k]?=some ob:=fun k Q L ob h3=>by
   rw [World.putObj_heap_other Q,Below.heap_alloc _ _ _ (by simp;omega),Below.heap_alloc _ _ _ L,h3]
  have aA:(((A.alloc o).alloc (.cells #[.int .i64 T.k,.string (zb T.s),.int .i64 T.n,.int .i64 T.line,.int .i64 T.at0] 65)).putObj (N+6) (.loop { r0 with state:=.busy })).heap.size=A.heap.size+2:=by
   simp
  generalize ((A.alloc o).alloc (.cells #[.int .i64 T.k,.string (zb T.s),.int .i64 T.n,.int .i64 T.line,.int .i64 T.at0] 65)).putObj (N+6) (.loop { r0 with state:=.busy })=Wb at G ho U aA ah ⊢
  have aZ:T.s.length≤281474976710656:=by
   rw [ao.out];have Q:=ze0 (l.drop (a+Z0 (l.drop a)));rw [List.length_drop] at Q;have L:(tkT l line a).s=(Zb (l.drop (a+Z0 (l.drop a)))).s:=rfl;rw [L];omega
  obtain ⟨ra,aG,aR⟩:=V.all;have aN:Boxed Wb (N+3) 57 ra:=ah _ (by omega) (by omega) _ aG
  have aD:∀g,some g=ra.ownBlock→g<A.heap.size:=fun g e=>(aR.lt g e.symm).2
  obtain ⟨M,hM⟩:∃M,M=A.heap.size:=⟨_,rfl⟩;rw [←hM] at ho U aA ax aD ⊢;have aV:Hid (Boxed Wb (N+3) 57 ra):=aN;have a8:Hid (∀g,some g=ra.ownBlock→g<M):=aD;have HM:Hid (M=A.heap.size):=hM;clear hM al af D ab ah aN aD aG aR V;have aC:Hid (YV N w l (.loop { r0 with state:=.busy }) y line a Wb):=G;clear G;have q1:Wb.cell? ⟨M+1,1,none⟩=some (.string (zb T.s)):=by rw [cell_of_row _ _ _ _ _ _ U];rfl
  have bg:y.length≤5000:=by omega
  gi_wp2_with (first
   | (refine ⟨trivial,?_⟩;gi_at_call 87;refine (callsIn_wide.2 (Qa _ _ aZ)).mono ?_;rintro e w3 ⟨rfl,an⟩
      have ag:w3.heap[M+1]?=some (.cells #[.int .i64 T.k,.string (zb T.s),.int .i64 T.n,.int .i64 T.line,.int .i64 T.at0] 65 (0,0)):=(an.block _ (by omega)).trans U
      have q2:w3.setCell ⟨M+1,1,none⟩ (.string (zb T.s))=w3:=Y7 ag rfl;have q3:=zbY (i:=1) ag;have c0:w3.cell? ⟨M+1,0,none⟩=some (.int .i64 T.k):=by rw [cell_of_row _ _ _ _ _ _ ag];rfl
      have c1:w3.cell? ⟨M+1,1,none⟩=some (.string (zb T.s)):=by rw [cell_of_row _ _ _ _ _ _ ag];rfl
      have c2:w3.cell? ⟨M+1,2,none⟩=some (.int .i64 T.n):=by rw [cell_of_row _ _ _ _ _ _ ag];rfl
      have c3:w3.cell? ⟨M+1,3,none⟩=some (.int .i64 T.line):=by rw [cell_of_row _ _ _ _ _ _ ag];rfl
      have c4:w3.cell? ⟨M+1,4,none⟩=some (.int .i64 T.at0):=by rw [cell_of_row _ _ _ _ _ _ ag];rfl
      have aF:Hid (YV N w l (.loop { r0 with state:=.busy }) y line a w3):=aC.out.grow an;obtain ⟨r,ak,R⟩:=aF.out.all;have bk:=ak.cell;have bo:M+2≤w3.heap.size:=by rw [←aA];exact an.size
      have a1:w3.heap[M]?=some o:=(an.block _ (by omega)).trans ho)
   | (gi_at_builtin;refine wpListIn_append_own _ rfl _ _ 57 rfl (N+7) 65 i0 _ 5 48 Tryz.underlying57 hi a0 a5 aU rfl (by decide) _ _ _ rfl (R.alloc _) ⟨w3.heap.size,0,none⟩ 1 1 [.int .i64 T.k,.string (zb T.s),.int .i64 T.n,.int .i64 T.line,.int .i64 T.at0] rfl rfl (ZP _ _ _) (by simp [Value.oneCell']) (by unfold maxLen;omega) (by omega) (by simp;omega) ?_;intro v' w4 aa am _;obtain ⟨O,z,rfl⟩:=ownsRow_succ aa;have Z:=(ak.alloc (.cells #[.int .i64 T.k,.string (zb T.s),.int .i64 T.n,.int .i64 T.line,.int .i64 T.at0] 65)).kept am (ak.not_row (by decide) R);have bu:=Z.cell;have bf:=Z.frozen))
  have aM:(w3.alloc (.cells #[.int .i64 T.k,.string (zb T.s),.int .i64 T.n,.int .i64 T.line,.int .i64 T.at0] 65)).grownBy w4 r.ownBlock:=am
  have a4:r=ra:=by
   have Q:Boxed w3 (N+3) 57 ra:=(an.block _ (by omega)).trans aV.out
   have L:=ak.cell.symm.trans Q.cell;exact Option.some.inj L
  have aj:∀k,k<w3.heap.size→some k≠r.ownBlock→w4.heap[k]?=w3.heap[k]?:=fun k hk hn=>(aM.block k (by simp;omega) hn).trans (Below.heap_alloc _ _ _ hk)
  have H:∀{k:Nat} {ob:Obj},k<N+7→k≠N+3→w3.heap[k]?=some ob→(w4.setCell ⟨N+3,0,none⟩ (.slice (some ⟨O,0,none⟩) (y.length+1) z)).heap[k]?=some ob:=fun {k ob} Q L h3=>by
   rw [Below.heap_setCell _ _ _ _ (by simpa using L),aj k (Array.getElem?_eq_some_iff.1 h3).1 (fun e=>by have:=(R.lt _ e.symm).1;omega),h3]
  have aT:YV N w l (.loop { r0 with state:=.busy }) (y++[T]) (yd l line a) (zO l a+(zQ l a).sz) (w4.setCell ⟨N+3,0,none⟩ (.slice (some ⟨O,0,none⟩) (y.length+1) z)):=by
   have J:=aF.out;refine ⟨⟨_,Z.set _,?_⟩,H (by omega) (by omega) J.r0,H (by omega) (by omega) J.r1,H (by omega) (by omega) J.r2,H (by omega) (by omega) J.sb,?_,H (by omega) (by omega) J.defd,H (by omega) (by omega) J.loop,?_⟩
   ·rw [List.length_append,Us]
    exact aa.kept (grownBy_setCell' w4 (N+3) _) (.inr (Z.not_row (by decide) aa).symm)
   ·exact J.bel.trans ((((Below.refl N w3).alloc (by omega) _).grown aM (by simp;omega) (fun j ej=>by have:=(R.lt j ej).1;omega)).setCell (p:=⟨N+3,0,none⟩) (by simp) _)
   ·rw [ao.out];exact uH he J.unto
  have a7:=aT.loop
  have bd:(w4.setCell ⟨N+3,0,none⟩ (.slice (some ⟨O,0,none⟩) (y.length+1) z)).heap[M]?=some o:=by
   rw [Below.heap_setCell _ _ _ _ (by simp;omega),aj M (by omega) (fun e=>by rw [a4] at e;have:=a8.out _ e;omega),a1]
  refine ⟨_,_,run_endRound none a7,rfl,?_⟩
  have aw:({ { r0 with state:=.busy } with state:=if (none:Option Code).isNone then .ready else .done,pending:=none }:Loop)=r0:=by
   cases r0;simp_all
  rw [aw];refine ⟨aT.put rfl,?_⟩;rw [World.putObj_heap_other (by omega)]
  exact bd
 rintro e W2 ⟨⟨u,rfl⟩,aE⟩;rcases aE with ⟨y,line,a,Y,he,hE⟩ | ⟨y,line,a,Y,he,hk,V⟩
 ·have D:=hE.loop
  have bb:rE.state≠.busy:=by rw [av.out];simp
  have aS:rE.pending=some .ret:=by rw [av.out]
  refine ⟨rE.pending,_,run_endLoop (P:=Tryz.prog) D bb,?_⟩;rw [aS];have hX:=(Array.getElem?_eq_some_iff.1 D).1
  have ad:zdb N w l (.loop { rE with state:=.exhausted }) y line a (W2.putObj (N+6) (.loop { rE with state:=.exhausted })):=by
   have put:∀{k:Nat} {ob:Obj},k≠N+6→W2.heap[k]?=some ob→(W2.putObj (N+6) (.loop { rE with state:=.exhausted })).heap[k]?=some ob:=fun {k ob} Q L=>(World.putObj_heap_other Q).trans L
   exact ⟨put (by omega) hE.r0,put (by omega) hE.r1,put (by omega) hE.r2,hE.bel.trans ((Below.refl N W2).grown (grownBy_putObj' W2 _ _) (by omega) (fun k e=>by cases e;omega)),put (by omega) hE.defd,World.putObj_heap_same hX,hE.unto⟩
  rw [aS] at ad
  dsimp only
  generalize W2.putObj (N+6) (.loop { rE with state:=.exhausted,pending:=some .ret })=W4 at ad ⊢;have ai:Hid (zdb N w l (.loop { rE with state:=.exhausted,pending:=some .ret }) y line a W4):=ad;have aO:=ad.r0.cell;have aH:=ad.r1.cell;have aL:=ad.r2.cell;clear ad hE D au ay ap
  gi_wp2
  have hK:=ai.out.defd;have aI:=(Array.getElem?_eq_some_iff.1 hK).1;refine ⟨by simp,.inl ⟨_,_,rfl,run_takeDeferred hK,?_⟩⟩
  have put:∀{k:Nat} {ob:Obj} (ob':Obj),k≠N+5→W4.heap[k]?=some ob→(W4.putObj (N+5) ob').heap[k]?=some ob:=fun {k ob} ob' Q L=>(World.putObj_heap_other Q).trans L
  have m0:Boxed (W4.putObj (N+5) (.deferred none)) N 57 (.slice none 0 0):=put _ (by omega) ai.out.r0
  have m1:Boxed (W4.putObj (N+5) (.deferred none)) (N+1) 3 (.int .i64 (zO l a)):=put _ (by omega) ai.out.r1
  have m2:Boxed (W4.putObj (N+5) (.deferred none)) (N+2) 26 (.int .i64 (zQ l a).e):=put _ (by omega) ai.out.r2
  have c0:=m0.cell;have c1:=m1.cell;have c2:=m2.cell;refine ⟨_,xW rfl _ _ _ rfl rfl rfl (by simp [go_sem,c0];rfl) (by simp [go_sem,c1];rfl) (by simp [go_sem,c2];rfl),.slice none 0 0,?_⟩
  rw [qY he y 1 0 (l.length+1) ai.out.unto Y (Nat.zero_le _) (by omega),←HN.out]
  exact ⟨rfl,World.ownsRow_nil _ _ _ _,ai.out.bel.trans ((Below.refl N W4).grown (grownBy_putObj' W4 _ _) (by omega) (fun k e=>by cases e;omega))⟩
 ·have D:=V.loop
  refine ⟨r0.pending,_,run_endLoop (P:=Tryz.prog) D (by rw [hst];simp),?_⟩
  have ae:=V.put (ob':=.loop { r0 with state:=.exhausted }) rfl;generalize W2.putObj (N+6) (.loop { r0 with state:=.exhausted })=W4 at ae ⊢;rw [hpe];show Exit.inBlock 0 _ Exit.normal _ W4
  have aB:Hid (YV N w l (Obj.loop { r0 with state:=.exhausted }) (y++[tkT l line a]) (yd l line a) (zO l a+(zQ l a).sz) W4):=ae;obtain ⟨r,ak,R⟩:=ae.all;have aq:=R;rw [List.length_append] at aq;obtain ⟨O,z,rfl⟩:=ownsRow_succ aq;clear aq;have k0:=ae.r0;have k1:=ae.r1;have k2:=ae.r2;have aO:=k0.cell;have a9:=k0.frozen;have aH:=k1.cell;have a3:=k1.frozen;have aL:=k2.cell;have ba:=k2.frozen;have bc:=ak.cell;have j1:=k1.kept (grownBy_setCell' W4 N (.slice (some ⟨O,0,none⟩) (y.length+1) z)) (by simp)
  have j2:=k2.kept (grownBy_setCell' W4 N (.slice (some ⟨O,0,none⟩) (y.length+1) z)) (by simp)
  have bp:=j1.cell;have bs:=j1.frozen;have bi:=j2.cell;have bm:=j2.frozen;have bj:(W4.setCell ⟨N,0,none⟩ (.slice (some ⟨O,0,none⟩) (y.length+1) z)).setCell ⟨N+1,0,none⟩ (.int .i64 0)=W4.setCell ⟨N,0,none⟩ (.slice (some ⟨O,0,none⟩) (y.length+1) z):=Y7 j1 rfl;have bn:(W4.setCell ⟨N,0,none⟩ (.slice (some ⟨O,0,none⟩) (y.length+1) z)).setCell ⟨N+2,0,none⟩ (.int .i64 0)=W4.setCell ⟨N,0,none⟩ (.slice (some ⟨O,0,none⟩) (y.length+1) z):=Y7 j2 rfl;have br:=(k0.set (.slice (some ⟨O,0,none⟩) (y.length+1) z)).cell;clear ae V D au ay ap
  gi_wp2
  have a6:=aB.out.unto
  have hK:(W4.setCell ⟨N,0,none⟩ (.slice (some ⟨O,0,none⟩) (y.length+1) z)).heap[N+5]?=some (.deferred (some [])):=by
   rw [Below.heap_setCell _ _ _ _ (by simp)];exact aB.out.defd
  have aI:=(Array.getElem?_eq_some_iff.1 hK).1;have aQ:=k0.set (.slice (some ⟨O,0,none⟩) (y.length+1) z);have Z:=R.kept (grownBy_setCell' W4 N (.slice (some ⟨O,0,none⟩) (y.length+1) z)) (.inr (k0.not_row (by decide) R).symm)
  have aJ:Below N w (W4.setCell ⟨N,0,none⟩ (.slice (some ⟨O,0,none⟩) (y.length+1) z)):=aB.out.bel.trans ((Below.refl N W4).setCell (p:=⟨N,0,none⟩) (Nat.le_refl _) _);generalize W4.setCell ⟨N,0,none⟩ (.slice (some ⟨O,0,none⟩) (y.length+1) z)=W5 at hK aI aQ Z aJ j1 j2 ⊢;refine ⟨by simp,.inl ⟨_,_,rfl,run_takeDeferred hK,?_⟩⟩
  have put:∀{k:Nat} {ob:Obj} (ob':Obj),k≠N+5→W5.heap[k]?=some ob→(W5.putObj (N+5) ob').heap[k]?=some ob:=fun {k ob} ob' Q L=>(World.putObj_heap_other Q).trans L
  have m0:Boxed (W5.putObj (N+5) (.deferred none)) N 57 (.slice (some ⟨O,0,none⟩) (y.length+1) z):=put _ (by omega) aQ
  have m1:Boxed (W5.putObj (N+5) (.deferred none)) (N+1) 3 (.int .i64 0):=put _ (by omega) j1
  have m2:Boxed (W5.putObj (N+5) (.deferred none)) (N+2) 26 (.int .i64 0):=put _ (by omega) j2
  have c0:=m0.cell;have c1:=m1.cell;have c2:=m2.cell;refine ⟨_,xW rfl _ _ _ rfl rfl rfl (by simp [go_sem,c0];rfl) (by simp [go_sem,c1];rfl) (by simp [go_sem,c2];rfl),.slice (some ⟨O,0,none⟩) (y.length+1) z,?_⟩
  obtain ⟨aY,a',Q,L,h3⟩:=uI a6;have aX:(zQ l a').k=0:=by rw [←hk];exact (congrArg Tk.k h3).symm
  rw [qZ L aX y 1 0 (l.length+1) Q Y (Nat.zero_le _) (by omega),←HN.out,←h3,List.length_append]
  rw [List.length_append] at Z;exact ⟨rfl,ownsRow_putObj (zdR Z (show N≤N+7 by omega)) _ hK rfl,aJ.trans ((Below.refl N W5).grown (grownBy_putObj' W5 _ _) (by omega) (fun k e=>by cases e;omega))⟩
end Go.Proofs.YtcphojjpapgblaaGreatDoor
namespace Go.Proofs.YtcphojjpapgblaaGreatDoor
open Go.RowKit
set_option maxHeartbeats 16000000
set_option maxRecDepth 100000
def ze2:Nat→List UInt8→Nat
 | 0,_=>0
 | f+1,l=>if XR (l.drop (Z3 zV l))=true then
   Z3 zV l+(Z3 yq (l.drop (Z3 zV l))+ze2 f ((l.drop (Z3 zV l)).drop (Z3 yq (l.drop (Z3 zV l)))))
  else Z3 zV l
theorem zdc:∀(f:Nat) (l:List UInt8),l.length<f→Z0 l=ze2 f l
 | 0,l,h=>by omega
 | f+1,l,h=>by
  rw [Z0,ze2]
  by_cases hr:XR (l.drop (Z3 zV l))=true
  ·rw [dif_pos hr,if_pos hr,zdc f _ (by
    have:=XS hr
    have o:=xM yq (l.drop (Z3 zV l));simp only [List.length_drop] at *
    omega)]
  ·rw [dif_neg hr,if_neg hr]
theorem ze3:Z0=fun l=>ze2 (l.length+1) l:=funext fun l=>zdc _ l (Nat.lt_succ_self _)
def vN (g:List UInt8→Nat) (l:List UInt8) (a:Nat):TR:=Zb (l.drop (a+g (l.drop a)))
def zaI (g:List UInt8→Nat) (l:List UInt8) (line a:Nat):Nat:=line+Lib.countByte ((l.drop a).take (g (l.drop a))) 10
def V5 (g:List UInt8→Nat) (l:List UInt8) (a:Nat):Nat:=a+g (l.drop a)
def tkG (g:List UInt8→Nat) (l:List UInt8) (line a:Nat):Tk:=⟨(vN g l a).k,(vN g l a).s,(vN g l a).n,zaI g l line a,V5 g l a⟩
def Uu (g:List UInt8→Nat) (l:List UInt8):Nat→Nat→Nat→List Tk × Nat × Nat
 | 0,_,_=>([],0,0)
 | f+1,line,a =>
  if (vN g l a).e≠0 then ([],V5 g l a,(vN g l a).e) else if (vN g l a).k=0 then ([tkG g l line a],0,0)
  else if (Uu g l f (zaI g l line a) (V5 g l a+(vN g l a).sz)).2.2≠0 then ([],(Uu g l f (zaI g l line a) (V5 g l a+(vN g l a).sz)).2.1,(Uu g l f (zaI g l line a) (V5 g l a+(vN g l a).sz)).2.2)
  else (tkG g l line a::(Uu g l f (zaI g l line a) (V5 g l a+(vN g l a).sz)).1,0,0)
theorem zdd (l:List UInt8):∀(f line a:Nat),scanS l f line a=Uu Z0 l f line a
 | 0,_,_=>rfl
 | f+1,line,a=>by
  unfold scanS Uu
  rw [zdd l f]
  rfl
def xN (l:List UInt8):List Tk × Nat × Nat:=Uu (fun l=>ze2 (l.length+1) l) l (l.length+1) 1 0
theorem zde {l:List UInt8} (h:l.length≤4096):zW l=xN l:=by
 unfold zW xN
 rw [if_neg (by omega),zdd,ze3]
end Go.Proofs.YtcphojjpapgblaaGreatDoor
