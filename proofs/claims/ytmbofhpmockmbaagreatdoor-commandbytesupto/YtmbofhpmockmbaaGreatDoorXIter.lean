import Derived.RangeFuncNested
import Derived.RangeFuncBound
import Derived.RangeFuncCalls
import Derived.RangeFuncLeaves
import Derived.RangeFuncBox
import Derived.Lib.Bytealg
import Derived.Shelf.Abstract
import Derived.Shelf.RegionOpen
import Derived.WalkKit
import Derived.OwnWalkIn
import Derived.TacticsInMore
import Derived.LoopNIn
import Derived.LoopIn
import Derived.Maps.AppendAt
import Derived.Test.YtmbofhpmockmbaaGreatDoorXTk
namespace Go.Proofs.YtmbofhpmockmbaaGreatDoor
open Go.RowKit Go.Shelf
set_option maxHeartbeats 16000000
set_option maxRecDepth 100000
attribute [local go_sem] Oper.semAt_some
theorem VL {x:UInt8} {r:List UInt8} (h:ZZ x.toNat=true):1≤(ZX (x::r)).length:=by
 unfold ZX;simp [YV,h]
theorem XS:∀(f:Nat) (meant:List UInt8) (at0:Nat) (r:List UInt8),(Zc f meant at0 r).e=0→1≤(Zc f meant at0 r).sz∧(Zc f meant at0 r).sz≤at0+r.length
 | 0,_,_,_,h=>by simp [Zc] at h
 | _+1,_,_,[],h=>by simp [Zc] at h
 | f+1,meant,at0,x::r,h=>by
  have o:=(uC (x::r)).1
  unfold Zc at h ⊢
  by_cases h1:x.toNat=34
  ·rw [if_pos h1];simp
  ·rw [if_neg h1] at h ⊢
   by_cases h2:(YF (x::r)).2=0
   ·rw [if_pos h2] at h;simp at h
   ·rw [if_neg h2] at h ⊢
    by_cases h3:meant.length=255
    ·rw [if_pos h3] at h;simp at h
    ·rw [if_neg h3] at h ⊢
     have:=XS f _ _ _ h
     rw [List.length_drop] at this;omega
theorem VM (l:List UInt8):bestS l 25=[]∨Lib.hasPrefix l (bestS l 25)=true:=by
 have y:∀(e:List (List UInt8)) (b:List UInt8),(b=[]∨Lib.hasPrefix l b=true)→(e.foldl (longer l) b=[]∨Lib.hasPrefix l (e.foldl (longer l) b)=true):=by
  intro e
  induction e with
  | nil=>intro b o;exact o
  | cons x e ih =>
   intro b o;refine ih _ ?_
   unfold longer
   split
   ·rename_i h;exact .inr h.2
   ·exact o
 exact y _ _ (.inl rfl)
theorem Ui {l x:List UInt8} (h:Lib.hasPrefix l x=true):x.length≤l.length:=by
 unfold Lib.hasPrefix at h
 exact (List.isPrefixOf_iff_prefix.1 h).length_le
theorem Vh (l:List UInt8) (he:(ZB l).e=0):(ZB l).sz≤l.length∧((ZB l).k≠0→1≤(ZB l).sz)∧((ZB l).k=0→l=[]):=by
 cases l with
 | nil=>simp [ZB]
 | cons x r =>
  unfold ZB at he ⊢
  simp only at he ⊢
  by_cases h1:ZZ x.toNat=true
  ·rw [if_pos h1] at he ⊢
   have A:=VL (r:=r) h1;have o:=Y0 (x::r)
   unfold yo at he ⊢
   split
   ·exact ⟨o,fun _=>A,fun h=>by simp at h⟩
   ·rename_i M
    rw [if_neg M] at he
    split
    ·rename_i G;rw [if_pos G] at he;simp at he
    ·exact ⟨o,fun _=>A,fun h=>by simp at h⟩
  ·rw [if_neg h1] at he ⊢
   by_cases h2:Zh x.toNat=true
   ·rw [if_pos h2] at he ⊢
    have A:1≤(digL (x::r)).length:=by unfold digL;simp [h2]
    have o:=Vc (x::r)
    unfold Y1 at he ⊢
    split
    ·exact ⟨o,fun _=>A,fun h=>by simp at h⟩
    ·rename_i H;rw [if_neg H] at he;simp at he
   ·rw [if_neg h2] at he ⊢
    by_cases h3:x.toNat=34
    ·rw [if_pos h3] at he ⊢
     have:=XS _ _ _ _ he
     unfold Z9
     have L:∀(f:Nat) (m:List UInt8) (a:Nat) (q:List UInt8),(Zc f m a q).e=0→(Zc f m a q).k=3:=by
      intro f
      induction f with
      | zero=>intro m a q h;simp [Zc] at h
      | succ f ih =>
       intro m a q h;cases q with
       | nil=>simp [Zc] at h
       | cons y q =>
        unfold Zc at h ⊢
        split
        ·rfl
        ·rename_i K;rw [if_neg K] at h
         split
         ·rename_i D;rw [if_pos D] at h;simp at h
         ·rename_i D;rw [if_neg D] at h
          split
          ·rename_i I;rw [if_pos I] at h;simp at h
          ·rename_i I;rw [if_neg I] at h;exact ih _ _ _ h
     have E:=L _ _ _ _ he;refine ⟨?_,fun _=>this.1,fun h=>by rw [E] at h;simp at h⟩
     have J:=this.2;rw [List.length_drop] at J
     simp at J ⊢
     omega
    ·rw [if_neg h3] at he ⊢
     have z:=VM (x::r)
     unfold yN at he ⊢
     generalize bestS (x::r) 25=bb at he z ⊢;cases bb with
     | nil=>simp at he
     | cons y ys =>
      rw [if_neg (by simp)]
      exact ⟨Ui (z.resolve_left (by simp)),fun _=>by simp,fun h=>by simp at h⟩
structure Tk where
 k:Nat
 s:List UInt8
 n:Nat
 line:Nat
 at0:Nat
def VN (t:Tk):Value:=.agg #[.int .i64 t.k,.string (za t.s),.int .i64 t.n,.int .i64 t.line,.int .i64 t.at0]
def zv (l:List UInt8) (at0:Nat):TR:=ZB (l.drop (at0+ZV (l.drop at0)))
def ZC (l:List UInt8) (line at0:Nat):Nat:=line+Lib.countByte ((l.drop at0).take (ZV (l.drop at0))) 10
def zF (l:List UInt8) (at0:Nat):Nat:=at0+ZV (l.drop at0)
def tkT (l:List UInt8) (line at0:Nat):Tk:=⟨(zv l at0).k,(zv l at0).s,(zv l at0).n,ZC l line at0,zF l at0⟩
theorem xQ {l:List UInt8} {at0:Nat} (h:at0≤l.length):zF l at0≤l.length:=by
 unfold zF
 have:=Xc _ (l.drop at0) (Nat.le_refl _)
 rw [List.length_drop] at this;omega
theorem XT (l:List UInt8) (c:UInt8):Lib.countByte l c≤l.length:=List.count_le_length
theorem vy (lp Bn:Nat) (l:List UInt8) (hlen:l.length≤4096) (J:List Tk→Nat→Nat→World→Prop) (E:List Tk→Nat→Nat→World→Prop)
  (hJc:∀y line a W,(∀t∈y,t.k≠0)→J y line a W→W.cell? ⟨Bn,0,none⟩=some (.string (za l))∧Zt W∧line≤a+1)
  (hJg:∀y line a W W',J y line a W→Below W.heap.size W W'→J y line a W')
  (hE:∀y line a W1 o,(∀t∈y,t.k≠0)→J y line a W1→(zv l a).e≠0→a≤l.length→YieldAt Fence.wide (6-1) Tryz.prog lp #[VN (tkT l line a),.int .i64 (zv l a).e] (W1.alloc o) fun e W'=>e=.returned (.bool false)∧E y line a W')
  (hY:∀y line a W1 o,(∀t∈y,t.k≠0)→J y line a W1→(zv l a).e=0→a≤l.length→YieldAt Fence.wide (6-1) Tryz.prog lp #[VN (tkT l line a),.int .i64 0] (W1.alloc o) fun e W'=>e=.returned (.bool true)∧J (y++[tkT l line a]) (ZC l line a) (zF l a+(zv l a).sz) W'∧W'.heap[W1.heap.size]?=some o)
  (W:World) (h0:J [] 1 0 W) :
  CallsIn Fence.wide 6 Tryz.prog 138 #[.func (.yield lp) #[] #[],.pointer (some ⟨Bn,0,none⟩)] W fun e W'=>(∃u,e=.returned u) ∧
   ((∃y line a,(∀t∈y,t.k≠0)∧(zv l a).e≠0∧E y line a W')∨∃y line a,(∀t∈y,t.k≠0)∧(zv l a).e=0∧(zv l a).k=0∧J (y++[tkT l line a]) (ZC l line a) (zF l a+(zv l a).sz) W'):=by
 refine callsIn_of_wp Tryz.func138 rfl trivial ?_ rfl;simp only [Tryz.ntmps138,List.size_toArray,List.length_cons,List.length_nil,Nat.reduceAdd,Nat.reduceSub,Array.replicate_succ,Array.replicate_zero,List.push_toArray,List.append_toArray,List.nil_append,List.cons_append]
 gi_wp2
 gi_loopw [3,4,5] (fun vl va vm wr=>(∃y line a,vl=.int .i64 (line:Nat)∧va=.int .i64 (a:Nat)∧vm=.bool true∧a≤l.length∧(∀t∈y,t.k≠0)∧J y line a wr) ∨
   (vm=.bool false∧((∃y line a,(∀t∈y,t.k≠0)∧(zv l a).e≠0∧E y line a wr)∨∃y line a,(∀t∈y,t.k≠0)∧(zv l a).e=0∧(zv l a).k=0∧J (y++[tkT l line a]) (ZC l line a) (zF l a+(zv l a).sz) wr)))
  (fun _ va vm _=>match vm with | .bool true=>l.length+1-(intOf va).toNat | _=>0)
 case atStart=>exact .inl ⟨[],1,0,rfl,rfl,rfl,Nat.zero_le _,(fun t h=>by cases h),h0⟩
 case round =>
  rcases hrel with ⟨y,line,a,rfl,rfl,rfl,ha,Q,hJ⟩ | ⟨rfl,af⟩
  ·obtain ⟨hc,K,ar⟩:=hJc _ _ _ _ Q hJ
   have HJ:Hid (J y line a wr):=hJ;have D:Hid (∀t∈y,t.k≠0):=Q;clear Q;have ag:Hid (Zt wr):=K;have ab:=xQ (l:=l) ha;obtain ⟨g,hg⟩:∃g,g=ZV (l.drop a):=⟨_,rfl⟩;have aa:a+g≤l.length:=by rw [hg];exact ab
   have s1:=fun wx=>yK wx l a ha
   have s2:=fun wx=>Ud wx l a g aa
   have s3:=fun wx=>yK wx l (a+g) aa
   rw [Int.natCast_add] at s3;have cg:=fun wx=>Uf (l.drop a) wx (by rw [List.length_drop];omega)
   rw [←hg] at cg;obtain ⟨cn,I⟩:∃cn,cn=Lib.countByte ((l.drop a).take g) 10:=⟨_,rfl⟩;have an:cn≤g:=by rw [I];exact Nat.le_trans (XT _ _) (List.length_take_le ..)
   have cc:=fun wx=>Tryz.strings_Count_one (za ((l.drop a).take g)) 10 wx
   rw [show (za ((l.drop a).take g)).data.toList=(l.drop a).take g from rfl,←I] at cc
   have ct:=fun wx (h:Zt wx)=>VK (l.drop (a+g)) wx (by rw [List.length_drop];omega) h
   obtain ⟨R,V⟩:∃R,R=ZB (l.drop (a+g)):=⟨_,rfl⟩;rw [←V] at ct
   unfold zZ at ct
   have z:Hid (zv l a=R):=show zv l a=R by unfold zv;rw [←hg,←V]
   have A:Hid (tkT l line a=⟨R.k,R.s,R.n,line+cn,a+g⟩):=show _=_ by unfold tkT ZC zF;rw [z.out,←hg,←I]
   have Z:Hid (∀wx,Calls Tryz.prog 139 #[.string (za (l.drop a))] wx fun e w'=>e=.returned (.int .i64 g)∧wx=w'):=cg
   have ae:Hid (∀wx,Calls Tryz.prog 140 #[.string (za ((l.drop a).take g)),.string ⟨#[10]⟩] wx fun e w'=>e=.returned (.int .i64 cn)∧w'=wx):=cc
   have N:Hid (∀wx,Zt wx→Calls Tryz.prog 141 #[.string (za (l.drop (a+g)))] wx fun e w'=>e=.returned (.tuple #[.agg #[.int .i64 R.k,.string (za R.s),.int .i64 R.n,.int .i64 0,.int .i64 0],.int .i64 R.sz,.int .i64 R.e])∧Below wx.heap.size wx w'):=ct
   have ah:Hid (R.e=0→R.sz≤l.length-(a+g)∧(R.k≠0→1≤R.sz)):=fun h=>by
    have:=Vh (l.drop (a+g)) (by rw [←V];exact h)
    rw [←V,List.length_drop] at this;exact ⟨this.1,this.2.1⟩
   clear cg cc ct hg I V hJ K ab;have al:line+cn≤5000:=by omega
   have ao:a+g≤4096:=by omega
   by_cases he:R.e=0
   ·obtain ⟨ap,ak⟩:=ah.out he
    have T:Hid (∀W1 o,J y line a W1→YieldAt Fence.wide (6-1) Tryz.prog lp #[.agg #[.int .i64 R.k,.string (za R.s),.int .i64 R.n,.int .i64 ((line:Int)+cn),.int .i64 ((a:Int)+g)],.int .i64 0] (W1.alloc o) fun e W'=>e=.returned (.bool true)∧J (y++[tkT l line a]) (line+cn) (a+g+R.sz) W'∧W'.heap[W1.heap.size]?=some o):=fun W1 o h=>by
     have:=hY y line a W1 o D.out h (by rw [z.out];exact he) ha
     rw [A.out,z.out] at this;have e1:ZC l line a=line+cn:=by have:=congrArg Tk.line A.out;exact this
     have e2:zF l a=a+g:=by have:=congrArg Tk.at0 A.out;exact this
     rw [e1,e2] at this
     unfold VN at this
     simp only [Int.natCast_add] at this;rw [A.out];exact this
    rw [he] at N
    gi_wp2_with (refine ⟨trivial,?_⟩;first
     | (gi_at_call 139;refine (callsIn_wide.2 (Z.out _)).mono ?_;rintro e M ⟨rfl,U⟩;subst U)
     | (gi_at_call 140;refine (callsIn_wide.2 (ae.out _)).mono ?_;rintro e M ⟨rfl,U⟩;subst U)
     | (gi_at_call 141;refine (callsIn_wide.2 (N.out _ ag.out)).mono ?_;rintro e M ⟨rfl,O⟩;obtain ⟨fn,Y,H,X,hy,G⟩:=T.out _ (.cells #[.int .i64 R.k,.string (za R.s),.int .i64 R.n,.int .i64 ((line:Int)+cn),.int .i64 ((a:Int)+g)] 142) (hJg _ _ _ _ _ HJ.out O)))
    refine G.mono ?_;rintro e W3 ⟨rfl,ad,L⟩
    have aq:W3.cell? ⟨M.heap.size,0,none⟩=some (.int .i64 R.k):=by
     rw [cell_of_row W3 M.heap.size 0 _ _ _ L];rfl
    clear G hy L
    by_cases hk:R.k=0
    ·have ai:((R.k:Int) != 0)=false:=by rw [hk];rfl
     gi_wp2
     refine ⟨.inr ⟨rfl,.inr ⟨y,line,a,D.out,by rw [z.out];exact he,by rw [z.out];exact hk,?_⟩⟩,?_⟩
     ·have e1:ZC l line a=line+cn:=by have:=congrArg Tk.line A.out;exact this
      have e2:zF l a=a+g:=by have:=congrArg Tk.at0 A.out;exact this
      rw [e1,e2,z.out];exact ad
     ·simp [intOf];omega
    ·have ai:((R.k:Int) != 0)=true:=by rw [bne_iff_ne];omega
     have am:=ak hk
     gi_wp2
     refine ⟨.inl ⟨_,line+cn,a+g+R.sz,by go_num,by go_num,rfl,by omega,?_,ad⟩,?_⟩
     ·intro t ht
      rcases List.mem_append.1 ht with h | h
      ·exact D.out t h
      ·rw [List.mem_singleton] at h;rw [h,A.out];exact hk
     simp [intOf]
     omega
   ·have T:Hid (∀W1 o,J y line a W1→YieldAt Fence.wide (6-1) Tryz.prog lp #[.agg #[.int .i64 R.k,.string (za R.s),.int .i64 R.n,.int .i64 ((line:Int)+cn),.int .i64 ((a:Int)+g)],.int .i64 R.e] (W1.alloc o) fun e W'=>e=.returned (.bool false)∧E y line a W'):=fun W1 o h=>by
     have:=hE y line a W1 o D.out h (by rw [z.out];exact he) ha
     rw [A.out,z.out] at this
     unfold VN at this
     simp only [Int.natCast_add] at this;exact this
    gi_wp2_with (refine ⟨trivial,?_⟩;first
     | (gi_at_call 139;refine (callsIn_wide.2 (Z.out _)).mono ?_;rintro e M ⟨rfl,U⟩;subst U)
     | (gi_at_call 140;refine (callsIn_wide.2 (ae.out _)).mono ?_;rintro e M ⟨rfl,U⟩;subst U)
     | (gi_at_call 141;refine (callsIn_wide.2 (N.out _ ag.out)).mono ?_;rintro e M ⟨rfl,O⟩;obtain ⟨fn,Y,H,X,hy,G⟩:=T.out _ (.cells #[.int .i64 R.k,.string (za R.s),.int .i64 R.n,.int .i64 ((line:Int)+cn),.int .i64 ((a:Int)+g)] 142) (hJg _ _ _ _ _ HJ.out O)))
    refine G.mono ?_;rintro e W3 ⟨rfl,aj⟩;clear G hy
    gi_wp2
    refine ⟨.inr ⟨rfl,.inl ⟨y,line,a,D.out,by rw [z.out];exact he,aj⟩⟩,?_⟩
    simp [intOf]
    omega
  ·gi_wp2
   go_end0
   exact ⟨⟨_,rfl⟩,af⟩
end Go.Proofs.YtmbofhpmockmbaaGreatDoor
