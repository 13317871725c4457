import Derived.RangeFuncNested
import Derived.RangeFuncBound
import Derived.RangeFuncCalls
import Derived.RangeFuncLeaves
import Derived.RangeFuncBox
import Derived.Lib.Bytealg
import Derived.Shelf.Abstract
import Derived.Shelf.RegionOpen
import Derived.WalkKit
import Derived.OwnWalkIn
import Derived.TacticsInMore
import Derived.LoopNIn
import Derived.LoopIn
import Derived.Maps.AppendAt
import Derived.Test.YtmbofhpmockmbaaGreatDoorXTk
namespace Go.Proofs.YtmbofhpmockmbaaGreatDoor
open Go.RowKit Go.Shelf
set_option maxHeartbeats 16000000
set_option maxRecDepth 100000
attribute [local go_sem] Oper.semAt_some
theorem un {x:UInt8} {r:List UInt8} (h:Z9 x.toNat=true):1≤(Z8 (x::r)).length:=by
 unfold Z8;simp [xr,h]
theorem vB:∀(f:Nat) (meant:List UInt8) (at0:Nat) (r:List UInt8),(Zj f meant at0 r).e=0→1≤(Zj f meant at0 r).sz∧(Zj f meant at0 r).sz≤at0+r.length
 | 0,_,_,_,h=>by simp [Zj] at h
 | _+1,_,_,[],h=>by simp [Zj] at h
 | f+1,meant,at0,x::r,h=>by
  have o:=(Uk (x::r)).1
  unfold Zj at h ⊢
  by_cases h1:x.toNat=34
  ·rw [if_pos h1];simp
  ·rw [if_neg h1] at h ⊢
   by_cases h2:(Y5 (x::r)).2=0
   ·rw [if_pos h2] at h;simp at h
   ·rw [if_neg h2] at h ⊢
    by_cases h3:meant.length=255
    ·rw [if_pos h3] at h;simp at h
    ·rw [if_neg h3] at h ⊢
     have:=vB f _ _ _ h
     rw [List.length_drop] at this;omega
theorem uo (l:List UInt8):bestS l 25=[]∨Lib.hasPrefix l (bestS l 25)=true:=by
 have y:∀(o:List (List UInt8)) (b:List UInt8),(b=[]∨Lib.hasPrefix l b=true)→(o.foldl (longer l) b=[]∨Lib.hasPrefix l (o.foldl (longer l) b)=true):=by
  intro o
  induction o with
  | nil=>intro b z;exact z
  | cons x o ih =>
   intro b z;refine ih _ ?_
   unfold longer
   split
   ·rename_i h;exact .inr h.2
   ·exact z
 exact y _ _ (.inl rfl)
theorem UU {l x:List UInt8} (h:Lib.hasPrefix l x=true):x.length≤l.length:=by
 unfold Lib.hasPrefix at h
 exact (List.isPrefixOf_iff_prefix.1 h).length_le
theorem VS (l:List UInt8) (he:(ZJ l).e=0):(ZJ l).sz≤l.length∧((ZJ l).k≠0→1≤(ZJ l).sz)∧((ZJ l).k=0→l=[]):=by
 cases l with
 | nil=>simp [ZJ]
 | cons x r =>
  unfold ZJ at he ⊢
  simp only at he ⊢
  by_cases h1:Z9 x.toNat=true
  ·rw [if_pos h1] at he ⊢
   have A:=un (r:=r) h1;have o:=xx (x::r)
   unfold yy at he ⊢
   split
   ·exact ⟨o,fun _=>A,fun h=>by simp at h⟩
   ·rename_i L
    rw [if_neg L] at he
    split
    ·rename_i H;rw [if_pos H] at he;simp at he
    ·exact ⟨o,fun _=>A,fun h=>by simp at h⟩
  ·rw [if_neg h1] at he ⊢
   by_cases h2:Zp x.toNat=true
   ·rw [if_pos h2] at he ⊢
    have A:1≤(digL (x::r)).length:=by unfold digL;simp [h2]
    have o:=VN (x::r)
    unfold xy at he ⊢
    split
    ·exact ⟨o,fun _=>A,fun h=>by simp at h⟩
    ·rename_i I;rw [if_neg I] at he;simp at he
   ·rw [if_neg h2] at he ⊢
    by_cases h3:x.toNat=34
    ·rw [if_pos h3] at he ⊢
     have:=vB _ _ _ _ he
     unfold yh
     have K:∀(f:Nat) (m:List UInt8) (a:Nat) (q:List UInt8),(Zj f m a q).e=0→(Zj f m a q).k=3:=by
      intro f
      induction f with
      | zero=>intro m a q h;simp [Zj] at h
      | succ f ih =>
       intro m a q h;cases q with
       | nil=>simp [Zj] at h
       | cons y q =>
        unfold Zj at h ⊢
        split
        ·rfl
        ·rename_i M;rw [if_neg M] at h
         split
         ·rename_i E;rw [if_pos E] at h;simp at h
         ·rename_i E;rw [if_neg E] at h
          split
          ·rename_i G;rw [if_pos G] at h;simp at h
          ·rename_i G;rw [if_neg G] at h;exact ih _ _ _ h
     have D:=K _ _ _ _ he;refine ⟨?_,fun _=>this.1,fun h=>by rw [D] at h;simp at h⟩
     have J:=this.2;rw [List.length_drop] at J
     simp at J ⊢
     omega
    ·rw [if_neg h3] at he ⊢
     have z:=uo (x::r)
     unfold Ya at he ⊢
     generalize bestS (x::r) 25=bb at he z ⊢;cases bb with
     | nil=>simp at he
     | cons y ys =>
      rw [if_neg (by simp)]
      exact ⟨UU (z.resolve_left (by simp)),fun _=>by simp,fun h=>by simp at h⟩
structure Tk where
 k:Nat
 s:List UInt8
 n:Nat
 line:Nat
 at0:Nat
def uq (t:Tk):Value:=.agg #[.int .i64 t.k,.string (za t.s),.int .i64 t.n,.int .i64 t.line,.int .i64 t.at0]
def zw (l:List UInt8) (at0:Nat):TR:=ZJ (l.drop (at0+Z7 (l.drop at0)))
def ZK (l:List UInt8) (line at0:Nat):Nat:=line+Lib.countByte ((l.drop at0).take (Z7 (l.drop at0))) 10
def zG (l:List UInt8) (at0:Nat):Nat:=at0+Z7 (l.drop at0)
def tkT (l:List UInt8) (line at0:Nat):Tk:=⟨(zw l at0).k,(zw l at0).s,(zw l at0).n,ZK l line at0,zG l at0⟩
theorem Xs {l:List UInt8} {at0:Nat} (h:at0≤l.length):zG l at0≤l.length:=by
 unfold zG
 have:=XK _ (l.drop at0) (Nat.le_refl _)
 rw [List.length_drop] at this;omega
theorem vC (l:List UInt8) (c:UInt8):Lib.countByte l c≤l.length:=List.count_le_length
theorem Vi (lp Bn:Nat) (l:List UInt8) (hlen:l.length≤4096) (J:List Tk→Nat→Nat→World→Prop) (E:List Tk→Nat→Nat→World→Prop)
  (hJc:∀y line a W,(∀t∈y,t.k≠0)→J y line a W→W.cell? ⟨Bn,0,none⟩=some (.string (za l))∧ZB W∧line≤a+1)
  (hJg:∀y line a W W',J y line a W→Below W.heap.size W W'→J y line a W')
  (hE:∀y line a W1 o,(∀t∈y,t.k≠0)→J y line a W1→(zw l a).e≠0→a≤l.length→YieldAt Fence.wide (6-1) Tryz.prog lp #[uq (tkT l line a),.int .i64 (zw l a).e] (W1.alloc o) fun e W'=>e=.returned (.bool false)∧E y line a W')
  (hY:∀y line a W1 o,(∀t∈y,t.k≠0)→J y line a W1→(zw l a).e=0→a≤l.length→YieldAt Fence.wide (6-1) Tryz.prog lp #[uq (tkT l line a),.int .i64 0] (W1.alloc o) fun e W'=>e=.returned (.bool true)∧J (y++[tkT l line a]) (ZK l line a) (zG l a+(zw l a).sz) W'∧W'.heap[W1.heap.size]?=some o)
  (W:World) (h0:J [] 1 0 W) :
  CallsIn Fence.wide 6 Tryz.prog 138 #[.func (.yield lp) #[] #[],.pointer (some ⟨Bn,0,none⟩)] W fun e W'=>(∃u,e=.returned u) ∧
   ((∃y line a,(∀t∈y,t.k≠0)∧(zw l a).e≠0∧E y line a W')∨∃y line a,(∀t∈y,t.k≠0)∧(zw l a).e=0∧(zw l a).k=0∧J (y++[tkT l line a]) (ZK l line a) (zG l a+(zw l a).sz) W'):=by
 refine callsIn_of_wp Tryz.func138 rfl trivial ?_ rfl;simp only [Tryz.ntmps138,List.size_toArray,List.length_cons,List.length_nil,Nat.reduceAdd,Nat.reduceSub,Array.replicate_succ,Array.replicate_zero,List.push_toArray,List.append_toArray,List.nil_append,List.cons_append]
 gi_wp2
 gi_loopw [3,4,5] (fun vl va vm wr=>(∃y line a,vl=.int .i64 (line:Nat)∧va=.int .i64 (a:Nat)∧vm=.bool true∧a≤l.length∧(∀t∈y,t.k≠0)∧J y line a wr) ∨
   (vm=.bool false∧((∃y line a,(∀t∈y,t.k≠0)∧(zw l a).e≠0∧E y line a wr)∨∃y line a,(∀t∈y,t.k≠0)∧(zw l a).e=0∧(zw l a).k=0∧J (y++[tkT l line a]) (ZK l line a) (zG l a+(zw l a).sz) wr)))
  (fun _ va vm _=>match vm with | .bool true=>l.length+1-(intOf va).toNat | _=>0)
 case atStart=>exact .inl ⟨[],1,0,rfl,rfl,rfl,Nat.zero_le _,(fun t h=>by cases h),h0⟩
 case round =>
  rcases hrel with ⟨y,line,a,rfl,rfl,rfl,ha,M,hJ⟩ | ⟨rfl,af⟩
  ·obtain ⟨hc,L,ar⟩:=hJc _ _ _ _ M hJ
   have HJ:Hid (J y line a wr):=hJ;have G:Hid (∀t∈y,t.k≠0):=M;clear M;have ae:Hid (ZB wr):=L;have ab:=Xs (l:=l) ha;obtain ⟨g,hg⟩:∃g,g=Z7 (l.drop a):=⟨_,rfl⟩;have Z:a+g≤l.length:=by rw [hg];exact ab
   have s1:=fun wx=>yW wx l a ha
   have s2:=fun wx=>UO wx l a g Z
   have s3:=fun wx=>yW wx l (a+g) Z
   rw [Int.natCast_add] at s3;have cg:=fun wx=>UR (l.drop a) wx (by rw [List.length_drop];omega)
   rw [←hg] at cg;obtain ⟨cn,H⟩:∃cn,cn=Lib.countByte ((l.drop a).take g) 10:=⟨_,rfl⟩;have am:cn≤g:=by rw [H];exact Nat.le_trans (vC _ _) (List.length_take_le ..)
   have cc:=fun wx=>Tryz.strings_Count_one (za ((l.drop a).take g)) 10 wx
   rw [show (za ((l.drop a).take g)).data.toList=(l.drop a).take g from rfl,←H] at cc
   have ct:=fun wx (h:ZB wx)=>um (l.drop (a+g)) wx (by rw [List.length_drop];omega) h
   obtain ⟨R,hR⟩:∃R,R=ZJ (l.drop (a+g)):=⟨_,rfl⟩;rw [←hR] at ct
   unfold Ze at ct
   have z:Hid (zw l a=R):=show zw l a=R by unfold zw;rw [←hg,←hR]
   have A:Hid (tkT l line a=⟨R.k,R.s,R.n,line+cn,a+g⟩):=show _=_ by unfold tkT ZK zG;rw [z.out,←hg,←H]
   have Y:Hid (∀wx,Calls Tryz.prog 139 #[.string (za (l.drop a))] wx fun e w'=>e=.returned (.int .i64 g)∧wx=w'):=cg
   have ag:Hid (∀wx,Calls Tryz.prog 140 #[.string (za ((l.drop a).take g)),.string ⟨#[10]⟩] wx fun e w'=>e=.returned (.int .i64 cn)∧w'=wx):=cc
   have U:Hid (∀wx,ZB wx→Calls Tryz.prog 141 #[.string (za (l.drop (a+g)))] wx fun e w'=>e=.returned (.tuple #[.agg #[.int .i64 R.k,.string (za R.s),.int .i64 R.n,.int .i64 0,.int .i64 0],.int .i64 R.sz,.int .i64 R.e])∧Below wx.heap.size wx w'):=ct
   have ah:Hid (R.e=0→R.sz≤l.length-(a+g)∧(R.k≠0→1≤R.sz)):=fun h=>by
    have:=VS (l.drop (a+g)) (by rw [←hR];exact h)
    rw [←hR,List.length_drop] at this;exact ⟨this.1,this.2.1⟩
   clear cg cc ct hg H hR hJ L ab;have al:line+cn≤5000:=by omega
   have ao:a+g≤4096:=by omega
   by_cases he:R.e=0
   ·obtain ⟨ap,ai⟩:=ah.out he
    have V:Hid (∀W1 o,J y line a W1→YieldAt Fence.wide (6-1) Tryz.prog lp #[.agg #[.int .i64 R.k,.string (za R.s),.int .i64 R.n,.int .i64 ((line:Int)+cn),.int .i64 ((a:Int)+g)],.int .i64 0] (W1.alloc o) fun e W'=>e=.returned (.bool true)∧J (y++[tkT l line a]) (line+cn) (a+g+R.sz) W'∧W'.heap[W1.heap.size]?=some o):=fun W1 o h=>by
     have:=hY y line a W1 o G.out h (by rw [z.out];exact he) ha
     rw [A.out,z.out] at this;have e1:ZK l line a=line+cn:=by have:=congrArg Tk.line A.out;exact this
     have e2:zG l a=a+g:=by have:=congrArg Tk.at0 A.out;exact this
     rw [e1,e2] at this
     unfold uq at this
     simp only [Int.natCast_add] at this;rw [A.out];exact this
    rw [he] at U
    gi_wp2_with (refine ⟨trivial,?_⟩;first
     | (gi_at_call 139;refine (callsIn_wide.2 (Y.out _)).mono ?_;rintro e O ⟨rfl,Q⟩;subst Q)
     | (gi_at_call 140;refine (callsIn_wide.2 (ag.out _)).mono ?_;rintro e O ⟨rfl,Q⟩;subst Q)
     | (gi_at_call 141;refine (callsIn_wide.2 (U.out _ ae.out)).mono ?_;rintro e O ⟨rfl,T⟩;obtain ⟨fn,X,I,aa,hy,D⟩:=V.out _ (.cells #[.int .i64 R.k,.string (za R.s),.int .i64 R.n,.int .i64 ((line:Int)+cn),.int .i64 ((a:Int)+g)] 142) (hJg _ _ _ _ _ HJ.out T)))
    refine D.mono ?_;rintro e W3 ⟨rfl,ad,K⟩
    have aq:W3.cell? ⟨O.heap.size,0,none⟩=some (.int .i64 R.k):=by
     rw [cell_of_row W3 O.heap.size 0 _ _ _ K];rfl
    clear D hy K
    by_cases hk:R.k=0
    ·have ak:((R.k:Int) != 0)=false:=by rw [hk];rfl
     gi_wp2
     refine ⟨.inr ⟨rfl,.inr ⟨y,line,a,G.out,by rw [z.out];exact he,by rw [z.out];exact hk,?_⟩⟩,?_⟩
     ·have e1:ZK l line a=line+cn:=by have:=congrArg Tk.line A.out;exact this
      have e2:zG l a=a+g:=by have:=congrArg Tk.at0 A.out;exact this
      rw [e1,e2,z.out];exact ad
     ·simp [intOf];omega
    ·have ak:((R.k:Int) != 0)=true:=by rw [bne_iff_ne];omega
     have an:=ai hk
     gi_wp2
     refine ⟨.inl ⟨_,line+cn,a+g+R.sz,by go_num,by go_num,rfl,by omega,?_,ad⟩,?_⟩
     ·intro t ht
      rcases List.mem_append.1 ht with h | h
      ·exact G.out t h
      ·rw [List.mem_singleton] at h;rw [h,A.out];exact hk
     simp [intOf]
     omega
   ·have V:Hid (∀W1 o,J y line a W1→YieldAt Fence.wide (6-1) Tryz.prog lp #[.agg #[.int .i64 R.k,.string (za R.s),.int .i64 R.n,.int .i64 ((line:Int)+cn),.int .i64 ((a:Int)+g)],.int .i64 R.e] (W1.alloc o) fun e W'=>e=.returned (.bool false)∧E y line a W'):=fun W1 o h=>by
     have:=hE y line a W1 o G.out h (by rw [z.out];exact he) ha
     rw [A.out,z.out] at this
     unfold uq at this
     simp only [Int.natCast_add] at this;exact this
    gi_wp2_with (refine ⟨trivial,?_⟩;first
     | (gi_at_call 139;refine (callsIn_wide.2 (Y.out _)).mono ?_;rintro e O ⟨rfl,Q⟩;subst Q)
     | (gi_at_call 140;refine (callsIn_wide.2 (ag.out _)).mono ?_;rintro e O ⟨rfl,Q⟩;subst Q)
     | (gi_at_call 141;refine (callsIn_wide.2 (U.out _ ae.out)).mono ?_;rintro e O ⟨rfl,T⟩;obtain ⟨fn,X,I,aa,hy,D⟩:=V.out _ (.cells #[.int .i64 R.k,.string (za R.s),.int .i64 R.n,.int .i64 ((line:Int)+cn),.int .i64 ((a:Int)+g)] 142) (hJg _ _ _ _ _ HJ.out T)))
    refine D.mono ?_;rintro e W3 ⟨rfl,aj⟩;clear D hy
    gi_wp2
    refine ⟨.inr ⟨rfl,.inl ⟨y,line,a,G.out,by rw [z.out];exact he,aj⟩⟩,?_⟩
    simp [intOf]
    omega
  ·gi_wp2
   go_end0
   exact ⟨⟨_,rfl⟩,af⟩
end Go.Proofs.YtmbofhpmockmbaaGreatDoor
