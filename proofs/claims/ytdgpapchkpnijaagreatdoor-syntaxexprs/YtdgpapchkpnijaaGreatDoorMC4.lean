import Derived.RangeFuncNested
import Derived.RangeFuncBound
import Derived.RangeFuncCalls
import Derived.RangeFuncLeaves
import Derived.RangeFuncBox
import Derived.Lib.Bytealg
import Derived.Shelf.Abstract
import Derived.Shelf.RegionOpen
import Derived.WalkKit
import Derived.OwnWalkIn
import Derived.TacticsInMore
import Derived.LoopNIn
import Derived.LoopIn
import Derived.Maps.AppendAt
import Derived.Test.YtdgpapchkpnijaaGreatDoorXTk
namespace Go.Proofs.YtdgpapchkpnijaaGreatDoor
open Go.RowKit Go.Shelf
set_option maxHeartbeats 16000000
set_option maxRecDepth 100000
attribute [local go_sem] Oper.semAt_some
theorem zbC {x:UInt8} {r:List UInt8} (h:Zg x.toNat=true):1≤(ZY (x::r)).length:=by
 unfold ZY;simp [yz,h]
theorem qO:∀(f:Nat) (meant:List UInt8) (at0:Nat) (r:List UInt8),(zT f meant at0 r).e=0→1≤(zT f meant at0 r).sz∧(zT f meant at0 r).sz≤at0+r.length
 | 0,_,_,_,h=>by simp [zT] at h
 | _+1,_,_,[],h=>by simp [zT] at h
 | f+1,meant,at0,x::r,h=>by
  have htb:=(zcD (x::r)).1
  unfold zT at h ⊢
  by_cases h1:x.toNat=34
  ·rw [if_pos h1];simp
  ·rw [if_neg h1] at h ⊢
   by_cases h2:(xP (x::r)).2=0
   ·rw [if_pos h2] at h;simp at h
   ·rw [if_neg h2] at h ⊢
    by_cases h3:meant.length=255
    ·rw [if_pos h3] at h;simp at h
    ·rw [if_neg h3] at h ⊢
     have:=qO f _ _ _ h
     rw [List.length_drop] at this;omega
theorem zbD (l:List UInt8):bestS l 25=[]∨Lib.hasPrefix l (bestS l 25)=true:=by
 have key:∀(xs:List (List UInt8)) (b:List UInt8),(b=[]∨Lib.hasPrefix l b=true)→(xs.foldl (longer l) b=[]∨Lib.hasPrefix l (xs.foldl (longer l) b)=true):=by
  intro xs
  induction xs with
  | nil=>intro b hb;exact hb
  | cons x xs ih =>
   intro b hb;refine ih _ ?_
   unfold longer
   split
   ·rename_i h;exact .inr h.2
   ·exact hb
 exact key _ _ (.inl rfl)
theorem zdH {l x:List UInt8} (h:Lib.hasPrefix l x=true):x.length≤l.length:=by
 unfold Lib.hasPrefix at h
 exact (List.isPrefixOf_iff_prefix.1 h).length_le
theorem vS (l:List UInt8) (he:(zR l).e=0):(zR l).sz≤l.length∧((zR l).k≠0→1≤(zR l).sz)∧((zR l).k=0→l=[]):=by
 cases l with
 | nil=>simp [zR]
 | cons x r =>
  unfold zR at he ⊢
  simp only at he ⊢
  by_cases h1:Zg x.toNat=true
  ·rw [if_pos h1] at he ⊢
   have hp:=zbC (r:=r) h1;have hle:=ud (x::r)
   unfold Z4 at he ⊢
   split
   ·exact ⟨hle,fun _=>hp,fun h=>by simp at h⟩
   ·rename_i hw
    rw [if_neg hw] at he
    split
    ·rename_i h20;rw [if_pos h20] at he;simp at he
    ·exact ⟨hle,fun _=>hp,fun h=>by simp at h⟩
  ·rw [if_neg h1] at he ⊢
   by_cases h2:z6 x.toNat=true
   ·rw [if_pos h2] at he ⊢
    have hp:1≤(digL (x::r)).length:=by unfold digL;simp [h2]
    have hle:=za7 (x::r)
    unfold Yr at he ⊢
    split
    ·exact ⟨hle,fun _=>hp,fun h=>by simp at h⟩
    ·rename_i h63;rw [if_neg h63] at he;simp at he
   ·rw [if_neg h2] at he ⊢
    by_cases h3:x.toNat=34
    ·rw [if_pos h3] at he ⊢
     have:=qO _ _ _ _ he
     unfold Zm
     have hk:∀(f:Nat) (m:List UInt8) (a:Nat) (q:List UInt8),(zT f m a q).e=0→(zT f m a q).k=3:=by
      intro f
      induction f with
      | zero=>intro m a q h;simp [zT] at h
      | succ f ih =>
       intro m a q h;cases q with
       | nil=>simp [zT] at h
       | cons y q =>
        unfold zT at h ⊢
        split
        ·rfl
        ·rename_i g1;rw [if_neg g1] at h
         split
         ·rename_i g2;rw [if_pos g2] at h;simp at h
         ·rename_i g2;rw [if_neg g2] at h
          split
          ·rename_i g3;rw [if_pos g3] at h;simp at h
          ·rename_i g3;rw [if_neg g3] at h;exact ih _ _ _ h
     have hk3:=hk _ _ _ _ he;refine ⟨?_,fun _=>this.1,fun h=>by rw [hk3] at h;simp at h⟩
     have h9:=this.2;rw [List.length_drop] at h9
     simp at h9 ⊢
     omega
    ·rw [if_neg h3] at he ⊢
     have hp0:=zbD (x::r)
     unfold yH at he ⊢
     generalize bestS (x::r) 25=bb at he hp0 ⊢;cases bb with
     | nil=>simp at he
     | cons y ys =>
      rw [if_neg (by simp)]
      exact ⟨zdH (hp0.resolve_left (by simp)),fun _=>by simp,fun h=>by simp at h⟩
structure Tk where
 k:Nat
 s:List UInt8
 n:Nat
 line:Nat
 at0:Nat
def zbE (t:Tk):Value:=.agg #[.int .i64 t.k,.string (za t.s),.int .i64 t.n,.int .i64 t.line,.int .i64 t.at0]
def zM (l:List UInt8) (at0:Nat):TR:=zR (l.drop (at0+yA (l.drop at0)))
def ZP (l:List UInt8) (line at0:Nat):Nat:=line+Lib.countByte ((l.drop at0).take (yA (l.drop at0))) 10
def zF (l:List UInt8) (at0:Nat):Nat:=at0+yA (l.drop at0)
def tkT (l:List UInt8) (line at0:Nat):Tk:=⟨(zM l at0).k,(zM l at0).s,(zM l at0).n,ZP l line at0,zF l at0⟩
theorem XN {l:List UInt8} {at0:Nat} (h:at0≤l.length):zF l at0≤l.length:=by
 unfold zF
 have:=U1 _ (l.drop at0) (Nat.le_refl _)
 rw [List.length_drop] at this;omega
theorem qP (l:List UInt8) (c:UInt8):Lib.countByte l c≤l.length:=List.count_le_length
theorem zag (lp Bn:Nat) (l:List UInt8) (hlen:l.length≤4096) (J:List Tk→Nat→Nat→World→Prop) (E:List Tk→Nat→Nat→World→Prop)
  (hJc:∀pre line a W,(∀t∈pre,t.k≠0)→J pre line a W→W.cell? ⟨Bn,0,none⟩=some (.string (za l))∧yE W∧line≤a+1)
  (hJg:∀pre line a W W',J pre line a W→Below W.heap.size W W'→J pre line a W')
  (hE:∀pre line a W1 o,(∀t∈pre,t.k≠0)→J pre line a W1→(zM l a).e≠0→a≤l.length→YieldAt Fence.wide (6-1) Tryz.prog lp #[zbE (tkT l line a),.int .i64 (zM l a).e] (W1.alloc o) fun e W'=>e=.returned (.bool false)∧E pre line a W')
  (hY:∀pre line a W1 o,(∀t∈pre,t.k≠0)→J pre line a W1→(zM l a).e=0→a≤l.length→YieldAt Fence.wide (6-1) Tryz.prog lp #[zbE (tkT l line a),.int .i64 0] (W1.alloc o) fun e W'=>e=.returned (.bool true)∧J (pre++[tkT l line a]) (ZP l line a) (zF l a+(zM l a).sz) W'∧W'.heap[W1.heap.size]?=some o)
  (W:World) (h0:J [] 1 0 W) :
  CallsIn Fence.wide 6 Tryz.prog 132 #[.func (.yield lp) #[] #[],.pointer (some ⟨Bn,0,none⟩)] W fun e W'=>(∃u,e=.returned u) ∧
   ((∃pre line a,(∀t∈pre,t.k≠0)∧(zM l a).e≠0∧E pre line a W')∨∃pre line a,(∀t∈pre,t.k≠0)∧(zM l a).e=0∧(zM l a).k=0∧J (pre++[tkT l line a]) (ZP l line a) (zF l a+(zM l a).sz) W'):=by
 refine callsIn_of_wp Tryz.func132 rfl trivial ?_ rfl;simp only [Tryz.ntmps132,List.size_toArray,List.length_cons,List.length_nil,Nat.reduceAdd,Nat.reduceSub,Array.replicate_succ,Array.replicate_zero,List.push_toArray,List.append_toArray,List.nil_append,List.cons_append]
 gi_wp2
 gi_loopw [3,4,5] (fun vl va vm wr=>(∃pre line a,vl=.int .i64 (line:Nat)∧va=.int .i64 (a:Nat)∧vm=.bool true∧a≤l.length∧(∀t∈pre,t.k≠0)∧J pre line a wr) ∨
   (vm=.bool false∧((∃pre line a,(∀t∈pre,t.k≠0)∧(zM l a).e≠0∧E pre line a wr)∨∃pre line a,(∀t∈pre,t.k≠0)∧(zM l a).e=0∧(zM l a).k=0∧J (pre++[tkT l line a]) (ZP l line a) (zF l a+(zM l a).sz) wr)))
  (fun _ va vm _=>match vm with | .bool true=>l.length+1-(intOf va).toNat | _=>0)
 case atStart=>exact .inl ⟨[],1,0,rfl,rfl,rfl,Nat.zero_le _,(fun t h=>by cases h),h0⟩
 case round =>
  rcases hrel with ⟨pre,line,a,rfl,rfl,rfl,ha,hpk,hJ⟩ | ⟨rfl,hfin⟩
  ·obtain ⟨hc,htab,hla⟩:=hJc _ _ _ _ hpk hJ
   have HJ:Hid (J pre line a wr):=hJ;have HPK:Hid (∀t∈pre,t.k≠0):=hpk;clear hpk;have HTB:Hid (yE wr):=htab;have hpl:=XN (l:=l) ha;obtain ⟨g,hg⟩:∃g,g=yA (l.drop a):=⟨_,rfl⟩;have hgl:a+g≤l.length:=by rw [hg];exact hpl
   have s1:=fun wx=>xQ wx l a ha
   have s2:=fun wx=>Xf wx l a g hgl
   have s3:=fun wx=>xQ wx l (a+g) hgl
   rw [Int.natCast_add] at s3;have cg:=fun wx=>zdE (l.drop a) wx (by rw [List.length_drop];omega)
   rw [←hg] at cg;obtain ⟨cn,hcn⟩:∃cn,cn=Lib.countByte ((l.drop a).take g) 10:=⟨_,rfl⟩;have hcnl:cn≤g:=by rw [hcn];exact Nat.le_trans (qP _ _) (List.length_take_le ..)
   have cc:=fun wx=>Tryz.strings_Count_one (za ((l.drop a).take g)) 10 wx
   rw [show (za ((l.drop a).take g)).data.toList=(l.drop a).take g from rfl,←hcn] at cc
   have ct:=fun wx (h:yE wx)=>UA (l.drop (a+g)) wx (by rw [List.length_drop];omega) h
   obtain ⟨R,hR⟩:∃R,R=zR (l.drop (a+g)):=⟨_,rfl⟩;rw [←hR] at ct
   unfold yn at ct
   have HRN:Hid (zM l a=R):=show zM l a=R by unfold zM;rw [←hg,←hR]
   have HTK:Hid (tkT l line a=⟨R.k,R.s,R.n,line+cn,a+g⟩):=show _=_ by unfold tkT ZP zF;rw [HRN.out,←hg,←hcn]
   have HCG:Hid (∀wx,Calls Tryz.prog 133 #[.string (za (l.drop a))] wx fun e w'=>e=.returned (.int .i64 g)∧wx=w'):=cg
   have HCC:Hid (∀wx,Calls Tryz.prog 134 #[.string (za ((l.drop a).take g)),.string ⟨#[10]⟩] wx fun e w'=>e=.returned (.int .i64 cn)∧w'=wx):=cc
   have HCT:Hid (∀wx,yE wx→Calls Tryz.prog 135 #[.string (za (l.drop (a+g)))] wx fun e w'=>e=.returned (.tuple #[.agg #[.int .i64 R.k,.string (za R.s),.int .i64 R.n,.int .i64 0,.int .i64 0],.int .i64 R.sz,.int .i64 R.e])∧Below wx.heap.size wx w'):=ct
   have HSZ:Hid (R.e=0→R.sz≤l.length-(a+g)∧(R.k≠0→1≤R.sz)):=fun h=>by
    have:=vS (l.drop (a+g)) (by rw [←hR];exact h)
    rw [←hR,List.length_drop] at this;exact ⟨this.1,this.2.1⟩
   clear cg cc ct hg hcn hR hJ htab hpl;have hl64:line+cn≤5000:=by omega
   have ha64:a+g≤4096:=by omega
   by_cases he:R.e=0
   ·obtain ⟨hsz,hk1⟩:=HSZ.out he
    have HYY:Hid (∀W1 o,J pre line a W1→YieldAt Fence.wide (6-1) Tryz.prog lp #[.agg #[.int .i64 R.k,.string (za R.s),.int .i64 R.n,.int .i64 ((line:Int)+cn),.int .i64 ((a:Int)+g)],.int .i64 0] (W1.alloc o) fun e W'=>e=.returned (.bool true)∧J (pre++[tkT l line a]) (line+cn) (a+g+R.sz) W'∧W'.heap[W1.heap.size]?=some o):=fun W1 o h=>by
     have:=hY pre line a W1 o HPK.out h (by rw [HRN.out];exact he) ha
     rw [HTK.out,HRN.out] at this;have e1:ZP l line a=line+cn:=by have:=congrArg Tk.line HTK.out;exact this
     have e2:zF l a=a+g:=by have:=congrArg Tk.at0 HTK.out;exact this
     rw [e1,e2] at this
     unfold zbE at this
     simp only [Int.natCast_add] at this;rw [HTK.out];exact this
    rw [he] at HCT
    gi_wp2_with (refine ⟨trivial,?_⟩;first
     | (gi_at_call 133;refine (callsIn_wide.2 (HCG.out _)).mono ?_;rintro e w1 ⟨rfl,hw⟩;subst hw)
     | (gi_at_call 134;refine (callsIn_wide.2 (HCC.out _)).mono ?_;rintro e w1 ⟨rfl,hw⟩;subst hw)
     | (gi_at_call 135;refine (callsIn_wide.2 (HCT.out _ HTB.out)).mono ?_;rintro e w1 ⟨rfl,hb1⟩;obtain ⟨fn,tmps,assign,body,hy,hRR⟩:=HYY.out _ (.cells #[.int .i64 R.k,.string (za R.s),.int .i64 R.n,.int .i64 ((line:Int)+cn),.int .i64 ((a:Int)+g)] 69) (hJg _ _ _ _ _ HJ.out hb1)))
    refine hRR.mono ?_;rintro e W3 ⟨rfl,hJ3,hblk⟩
    have hck:W3.cell? ⟨w1.heap.size,0,none⟩=some (.int .i64 R.k):=by
     rw [cell_of_row W3 w1.heap.size 0 _ _ _ hblk];rfl
    clear hRR hy hblk
    by_cases hk:R.k=0
    ·have hkb:((R.k:Int) != 0)=false:=by rw [hk];rfl
     gi_wp2
     refine ⟨.inr ⟨rfl,.inr ⟨pre,line,a,HPK.out,by rw [HRN.out];exact he,by rw [HRN.out];exact hk,?_⟩⟩,?_⟩
     ·have e1:ZP l line a=line+cn:=by have:=congrArg Tk.line HTK.out;exact this
      have e2:zF l a=a+g:=by have:=congrArg Tk.at0 HTK.out;exact this
      rw [e1,e2,HRN.out];exact hJ3
     ·simp [intOf];omega
    ·have hkb:((R.k:Int) != 0)=true:=by rw [bne_iff_ne];omega
     have hsz1:=hk1 hk
     gi_wp2
     refine ⟨.inl ⟨_,line+cn,a+g+R.sz,by go_num,by go_num,rfl,by omega,?_,hJ3⟩,?_⟩
     ·intro t ht
      rcases List.mem_append.1 ht with h | h
      ·exact HPK.out t h
      ·rw [List.mem_singleton] at h;rw [h,HTK.out];exact hk
     simp [intOf]
     omega
   ·have HYY:Hid (∀W1 o,J pre line a W1→YieldAt Fence.wide (6-1) Tryz.prog lp #[.agg #[.int .i64 R.k,.string (za R.s),.int .i64 R.n,.int .i64 ((line:Int)+cn),.int .i64 ((a:Int)+g)],.int .i64 R.e] (W1.alloc o) fun e W'=>e=.returned (.bool false)∧E pre line a W'):=fun W1 o h=>by
     have:=hE pre line a W1 o HPK.out h (by rw [HRN.out];exact he) ha
     rw [HTK.out,HRN.out] at this
     unfold zbE at this
     simp only [Int.natCast_add] at this;exact this
    gi_wp2_with (refine ⟨trivial,?_⟩;first
     | (gi_at_call 133;refine (callsIn_wide.2 (HCG.out _)).mono ?_;rintro e w1 ⟨rfl,hw⟩;subst hw)
     | (gi_at_call 134;refine (callsIn_wide.2 (HCC.out _)).mono ?_;rintro e w1 ⟨rfl,hw⟩;subst hw)
     | (gi_at_call 135;refine (callsIn_wide.2 (HCT.out _ HTB.out)).mono ?_;rintro e w1 ⟨rfl,hb1⟩;obtain ⟨fn,tmps,assign,body,hy,hRR⟩:=HYY.out _ (.cells #[.int .i64 R.k,.string (za R.s),.int .i64 R.n,.int .i64 ((line:Int)+cn),.int .i64 ((a:Int)+g)] 69) (hJg _ _ _ _ _ HJ.out hb1)))
    refine hRR.mono ?_;rintro e W3 ⟨rfl,hE3⟩;clear hRR hy
    gi_wp2
    refine ⟨.inr ⟨rfl,.inl ⟨pre,line,a,HPK.out,by rw [HRN.out];exact he,hE3⟩⟩,?_⟩
    simp [intOf]
    omega
  ·gi_wp2
   go_end0
   exact ⟨⟨_,rfl⟩,hfin⟩
end Go.Proofs.YtdgpapchkpnijaaGreatDoor
namespace Go.Proofs.YtdgpapchkpnijaaGreatDoor
open Go.RowKit
set_option maxHeartbeats 16000000
set_option maxRecDepth 100000
def xG (l:List UInt8):Nat→Nat→List Tk→Nat→Nat→Prop
 | line0,a0,[],line,a=>line=line0∧a=a0
 | line0,a0,t::ts,line,a=>(zM l a0).e=0∧t=tkT l line0 a0∧xG l (ZP l line0 a0) (zF l a0+(zM l a0).sz) ts line a
theorem VE {l:List UInt8} {line a:Nat} (he:(zM l a).e=0):∀{ts:List Tk} {line0 a0:Nat},xG l line0 a0 ts line a →
  xG l line0 a0 (ts++[tkT l line a]) (ZP l line a) (zF l a+(zM l a).sz)
 | [],line0,a0,⟨h1,h2⟩=>by subst h1;subst h2;exact ⟨he,rfl,rfl,rfl⟩
 | t::ts,line0,a0,⟨h1,h2,h3⟩=>⟨h1,h2,VE he h3⟩
theorem VF {l:List UInt8} {t:Tk} {line a:Nat}:∀{ts:List Tk} {line0 a0:Nat},xG l line0 a0 (ts++[t]) line a →
  ∃line1 a1,xG l line0 a0 ts line1 a1∧(zM l a1).e=0∧t=tkT l line1 a1
 | [],line0,a0,h=>⟨line0,a0,⟨rfl,rfl⟩,h.1,h.2.1⟩
 | _::ts,line0,a0,h=>by
  obtain ⟨line1,a1,h1,h2,h3⟩:=VF (ts:=ts) h.2.2;exact ⟨line1,a1,⟨h.1,h.2.1,h1⟩,h2,h3⟩
def scanS (l:List UInt8):Nat→Nat→Nat→List Tk × Nat × Nat
 | 0,_,_=>([],0,0)
 | f+1,line,a =>
  if (zM l a).e≠0 then ([],zF l a,(zM l a).e) else if (zM l a).k=0 then ([tkT l line a],0,0)
  else if (scanS l f (ZP l line a) (zF l a+(zM l a).sz)).2.2≠0 then ([],(scanS l f (ZP l line a) (zF l a+(zM l a).sz)).2.1,(scanS l f (ZP l line a) (zF l a+(zM l a).sz)).2.2)
  else (tkT l line a::(scanS l f (ZP l line a) (zF l a+(zM l a).sz)).1,0,0)
def zv (l:List UInt8):List Tk × Nat × Nat:=if 4096<l.length then ([],0,5) else scanS l (l.length+1) 1 0
theorem Ys {l:List UInt8} {a:Nat} (ha:a≤l.length) (he:(zM l a).e=0) (hk:(zM l a).k≠0):a<zF l a+(zM l a).sz∧zF l a+(zM l a).sz≤l.length:=by
 have hp:=XN ha;have hz:=vS (l.drop (a+yA (l.drop a))) he;have h1:=hz.2.1 hk;have h2:=hz.1;rw [List.length_drop] at h2
 unfold zF at hp ⊢
 unfold zM
 omega
theorem UB {l:List UInt8} {line a:Nat} (he:(zM l a).e≠0):∀(ts:List Tk) (line0 a0 f:Nat),xG l line0 a0 ts line a→(∀t∈ts,t.k≠0)→a0≤l.length→l.length<a0+f →
  scanS l f line0 a0=([],zF l a,(zM l a).e)
 | [],line0,a0,f,⟨h1,h2⟩,_,ha,hf=>by
  subst h1;subst h2;obtain ⟨f,rfl⟩:∃g,f=g+1:=⟨f-1,by omega⟩
  unfold scanS;rw [if_pos he]
 | t::ts,line0,a0,f,⟨h1,h2,h3⟩,hk,ha,hf=>by
  obtain ⟨f,rfl⟩:∃g,f=g+1:=⟨f-1,by omega⟩
  have hk0:(zM l a0).k≠0:=by have:=hk t (List.mem_cons_self ..);rw [h2] at this;exact this
  have hm:=Ys ha h1 hk0;have ih:=UB he ts _ _ f h3 (fun t ht=>hk t (List.mem_cons_of_mem _ ht)) hm.2 (by omega)
  unfold scanS
  rw [if_neg (by simp [h1]),if_neg hk0,ih,if_pos he]
theorem UC {l:List UInt8} {line a:Nat} (he:(zM l a).e=0) (hz:(zM l a).k=0):∀(ts:List Tk) (line0 a0 f:Nat),xG l line0 a0 ts line a→(∀t∈ts,t.k≠0)→a0≤l.length→l.length<a0+f →
  scanS l f line0 a0=(ts++[tkT l line a],0,0)
 | [],line0,a0,f,⟨h1,h2⟩,_,ha,hf=>by
  subst h1;subst h2;obtain ⟨f,rfl⟩:∃g,f=g+1:=⟨f-1,by omega⟩
  unfold scanS;rw [if_neg (by simp [he]),if_pos hz];rfl
 | t::ts,line0,a0,f,⟨h1,h2,h3⟩,hk,ha,hf=>by
  obtain ⟨f,rfl⟩:∃g,f=g+1:=⟨f-1,by omega⟩
  have hk0:(zM l a0).k≠0:=by have:=hk t (List.mem_cons_self ..);rw [h2] at this;exact this
  have hm:=Ys ha h1 hk0;have ih:=UC he hz ts _ _ f h3 (fun t ht=>hk t (List.mem_cons_of_mem _ ht)) hm.2 (by omega)
  unfold scanS
  rw [if_neg (by simp [h1]),if_neg hk0,ih,if_neg (by simp),h2]
  rfl
theorem vh {l:List UInt8} {line a:Nat}:∀(ts:List Tk) (line0 a0:Nat),xG l line0 a0 ts line a→(∀t∈ts,t.k≠0)→a0≤l.length→line0≤a0+1→a0+ts.length≤a∧a≤l.length∧line≤a+1
 | [],line0,a0,⟨h1,h2⟩,_,ha,hl=>by subst h1;subst h2;exact ⟨by simp,ha,hl⟩
 | t::ts,line0,a0,⟨h1,h2,h3⟩,hk,ha,hl=>by
  have hk0:(zM l a0).k≠0:=by have:=hk t (List.mem_cons_self ..);rw [h2] at this;exact this
  have hm:=Ys ha h1 hk0
  have hc:ZP l line0 a0≤zF l a0+1:=by
   unfold ZP zF
   have:=qP ((l.drop a0).take (yA (l.drop a0))) 10
   have h2:((l.drop a0).take (yA (l.drop a0))).length≤yA (l.drop a0):=List.length_take_le ..;omega
  have:=vh ts _ _ h3 (fun t ht=>hk t (List.mem_cons_of_mem _ ht)) hm.2 (by omega)
  rw [List.length_cons];omega
def zO (ts:List Tk):List Value:=ts.flatMap fun t=>[.int .i64 t.k,.string (za t.s),.int .i64 t.n,.int .i64 t.line,.int .i64 t.at0]
theorem Xz (a b:List Tk):zO (a++b)=zO a++zO b:=by unfold zO;rw [List.flatMap_append]
theorem za8:∀(f:Nat) (meant:List UInt8) (at0:Nat) (r:List UInt8),meant.length≤255→(zT f meant at0 r).s.length≤255
 | 0,_,_,_,_=>by simp [zT]
 | _+1,_,_,[],_=>by simp [zT]
 | f+1,meant,at0,x::r,h=>by
  unfold zT
  split
  ·exact h
  ·split
   ·simp
   ·split
    ·simp
    ·rename_i h3
     exact za8 f _ _ _ (by rw [List.length_append];simp;omega)
theorem zcE (l:List UInt8):(zR l).s.length≤l.length+255:=by
 cases l with
 | nil=>simp [zR]
 | cons x r =>
  unfold zR
  simp only
  split
  ·have:=ud (x::r)
   unfold Z4
   split
   ·exact Nat.le_trans this (by omega)
   ·split
    ·simp
    ·exact Nat.le_trans this (by omega)
  ·split
   ·unfold Yr;split <;> exact Nat.zero_le _
   ·split
    ·have h9:(Zm (x::r)).s.length≤255:=za8 (x::r).length [] 1 ((x::r).drop 1) (Nat.zero_le _)
     exact Nat.le_trans h9 (Nat.le_add_left 255 _)
    ·unfold yH
     have h9:=Uy (x::r) 25;generalize bestS (x::r) 25=bb at h9 ⊢
     split
     ·exact Nat.zero_le _
     ·have h8:2≤(x::r).length+255:=Nat.le_trans (by decide) (Nat.le_add_left 255 _)
      exact Nat.le_trans h9 h8
def zcF:Nat→List UInt8→Nat
 | 0,_=>0
 | f+1,l=>if xF (l.drop (ZU zX l))=true then
   ZU zX l+(ZU Zt (l.drop (ZU zX l))+zcF f ((l.drop (ZU zX l)).drop (ZU Zt (l.drop (ZU zX l)))))
  else ZU zX l
theorem za9:∀(f:Nat) (l:List UInt8),l.length<f→yA l=zcF f l
 | 0,l,h=>by omega
 | f+1,l,h=>by
  rw [yA,zcF]
  by_cases hr:xF (l.drop (ZU zX l))=true
  ·rw [dif_pos hr,if_pos hr,za9 f _ (by
    have:=Y5 hr
    have h3:=xr Zt (l.drop (ZU zX l));simp only [List.length_drop] at *
    omega)]
  ·rw [dif_neg hr,if_neg hr]
theorem zcG:yA=fun l=>zcF (l.length+1) l:=funext fun l=>za9 _ l (Nat.lt_succ_self _)
def XV (g:List UInt8→Nat) (l:List UInt8) (a:Nat):TR:=zR (l.drop (a+g (l.drop a)))
def qQ (g:List UInt8→Nat) (l:List UInt8) (line a:Nat):Nat:=line+Lib.countByte ((l.drop a).take (g (l.drop a))) 10
def Vk (g:List UInt8→Nat) (l:List UInt8) (a:Nat):Nat:=a+g (l.drop a)
def tkG (g:List UInt8→Nat) (l:List UInt8) (line a:Nat):Tk:=⟨(XV g l a).k,(XV g l a).s,(XV g l a).n,qQ g l line a,Vk g l a⟩
def uf (g:List UInt8→Nat) (l:List UInt8):Nat→Nat→Nat→List Tk × Nat × Nat
 | 0,_,_=>([],0,0)
 | f+1,line,a =>
  if (XV g l a).e≠0 then ([],Vk g l a,(XV g l a).e) else if (XV g l a).k=0 then ([tkG g l line a],0,0)
  else if (uf g l f (qQ g l line a) (Vk g l a+(XV g l a).sz)).2.2≠0 then ([],(uf g l f (qQ g l line a) (Vk g l a+(XV g l a).sz)).2.1,(uf g l f (qQ g l line a) (Vk g l a+(XV g l a).sz)).2.2)
  else (tkG g l line a::(uf g l f (qQ g l line a) (Vk g l a+(XV g l a).sz)).1,0,0)
theorem zba (l:List UInt8):∀(f line a:Nat),scanS l f line a=uf yA l f line a
 | 0,_,_=>rfl
 | f+1,line,a=>by
  unfold scanS uf
  rw [zba l f]
  rfl
def xt (l:List UInt8):List Tk × Nat × Nat:=uf (fun l=>zcF (l.length+1) l) l (l.length+1) 1 0
theorem zbb {l:List UInt8} (h:l.length≤4096):zv l=xt l:=by
 unfold zv xt
 rw [if_neg (by omega),zba,zcG]
end Go.Proofs.YtdgpapchkpnijaaGreatDoor
