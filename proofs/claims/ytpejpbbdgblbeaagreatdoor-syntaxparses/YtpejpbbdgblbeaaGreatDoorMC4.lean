import Derived.RangeFuncNested
import Derived.RangeFuncBound
import Derived.RangeFuncCalls
import Derived.RangeFuncLeaves
import Derived.RangeFuncBox
import Derived.Lib.Bytealg
import Derived.Shelf.Abstract
import Derived.Shelf.RegionOpen
import Derived.WalkKit
import Derived.OwnWalkIn
import Derived.TacticsInMore
import Derived.LoopNIn
import Derived.LoopIn
import Derived.Maps.AppendAt
import Derived.Test.YtpejpbbdgblbeaaGreatDoorXTk
namespace Go.Proofs.YtpejpbbdgblbeaaGreatDoor
open Go.RowKit Go.Shelf
set_option maxHeartbeats 16000000
set_option maxRecDepth 100000
attribute [local go_sem] Oper.semAt_some
theorem zd1 {x:UInt8} {r:List UInt8} (h:Zv x.toNat=true):1≤(yz (x::r)).length:=by
 unfold yz;simp [Ym,h]
theorem zaZ:∀(f:Nat) (meant:List UInt8) (at0:Nat) (r:List UInt8),(Ze f meant at0 r).e=0→1≤(Ze f meant at0 r).sz∧(Ze f meant at0 r).sz≤at0+r.length
 | 0,_,_,_,h=>by simp [Ze] at h
 | _+1,_,_,[],h=>by simp [Ze] at h
 | f+1,meant,at0,x::r,h=>by
  have htb:=(zfh (x::r)).1
  unfold Ze at h ⊢
  by_cases h1:x.toNat=34
  ·rw [if_pos h1];simp
  ·rw [if_neg h1] at h ⊢
   by_cases h2:(XV (x::r)).2=0
   ·rw [if_pos h2] at h;simp at h
   ·rw [if_neg h2] at h ⊢
    by_cases h3:meant.length=255
    ·rw [if_pos h3] at h;simp at h
    ·rw [if_neg h3] at h ⊢
     have:=zaZ f _ _ _ h
     rw [List.length_drop] at this;omega
theorem zd2 (l:List UInt8):bestS l 25=[]∨Lib.hasPrefix l (bestS l 25)=true:=by
 have key:∀(xs:List (List UInt8)) (b:List UInt8),(b=[]∨Lib.hasPrefix l b=true)→(xs.foldl (longer l) b=[]∨Lib.hasPrefix l (xs.foldl (longer l) b)=true):=by
  intro xs
  induction xs with
  | nil=>intro b hb;exact hb
  | cons x xs ih =>
   intro b hb;refine ih _ ?_
   unfold longer
   split
   ·rename_i h;exact .inr h.2
   ·exact hb
 exact key _ _ (.inl rfl)
theorem zgv {l x:List UInt8} (h:Lib.hasPrefix l x=true):x.length≤l.length:=by
 unfold Lib.hasPrefix at h
 exact (List.isPrefixOf_iff_prefix.1 h).length_le
theorem uk (l:List UInt8) (he:(Zc l).e=0):(Zc l).sz≤l.length∧((Zc l).k≠0→1≤(Zc l).sz)∧((Zc l).k=0→l=[]):=by
 cases l with
 | nil=>simp [Zc]
 | cons x r =>
  unfold Zc at he ⊢
  simp only at he ⊢
  by_cases h1:Zv x.toNat=true
  ·rw [if_pos h1] at he ⊢
   have hp:=zd1 (r:=r) h1;have hle:=UT (x::r)
   unfold yH at he ⊢
   split
   ·exact ⟨hle,fun _=>hp,fun h=>by simp at h⟩
   ·rename_i hw
    rw [if_neg hw] at he
    split
    ·rename_i h20;rw [if_pos h20] at he;simp at he
    ·exact ⟨hle,fun _=>hp,fun h=>by simp at h⟩
  ·rw [if_neg h1] at he ⊢
   by_cases h2:Zn x.toNat=true
   ·rw [if_pos h2] at he ⊢
    have hp:1≤(digL (x::r)).length:=by unfold digL;simp [h2]
    have hle:=zdt (x::r)
    unfold xA at he ⊢
    split
    ·exact ⟨hle,fun _=>hp,fun h=>by simp at h⟩
    ·rename_i h63;rw [if_neg h63] at he;simp at he
   ·rw [if_neg h2] at he ⊢
    by_cases h3:x.toNat=34
    ·rw [if_pos h3] at he ⊢
     have:=zaZ _ _ _ _ he
     unfold ZI
     have hk:∀(f:Nat) (m:List UInt8) (a:Nat) (q:List UInt8),(Ze f m a q).e=0→(Ze f m a q).k=3:=by
      intro f
      induction f with
      | zero=>intro m a q h;simp [Ze] at h
      | succ f ih =>
       intro m a q h;cases q with
       | nil=>simp [Ze] at h
       | cons y q =>
        unfold Ze at h ⊢
        split
        ·rfl
        ·rename_i g1;rw [if_neg g1] at h
         split
         ·rename_i g2;rw [if_pos g2] at h;simp at h
         ·rename_i g2;rw [if_neg g2] at h
          split
          ·rename_i g3;rw [if_pos g3] at h;simp at h
          ·rename_i g3;rw [if_neg g3] at h;exact ih _ _ _ h
     have hk3:=hk _ _ _ _ he;refine ⟨?_,fun _=>this.1,fun h=>by rw [hk3] at h;simp at h⟩
     have h9:=this.2;rw [List.length_drop] at h9
     simp at h9 ⊢
     omega
    ·rw [if_neg h3] at he ⊢
     have hp0:=zd2 (x::r)
     unfold Yw at he ⊢
     generalize bestS (x::r) 25=bb at he hp0 ⊢;cases bb with
     | nil=>simp at he
     | cons y ys =>
      rw [if_neg (by simp)]
      exact ⟨zgv (hp0.resolve_left (by simp)),fun _=>by simp,fun h=>by simp at h⟩
structure Tk where
 k:Nat
 s:List UInt8
 n:Nat
 line:Nat
 at0:Nat
def zd3 (t:Tk):Value:=.agg #[.int .i64 t.k,.string (za t.s),.int .i64 t.n,.int .i64 t.line,.int .i64 t.at0]
def zV (l:List UInt8) (at0:Nat):TR:=Zc (l.drop (at0+Yn (l.drop at0)))
def yr (l:List UInt8) (line at0:Nat):Nat:=line+Lib.countByte ((l.drop at0).take (Yn (l.drop at0))) 10
def zM (l:List UInt8) (at0:Nat):Nat:=at0+Yn (l.drop at0)
def tkT (l:List UInt8) (line at0:Nat):Tk:=⟨(zV l at0).k,(zV l at0).s,(zV l at0).n,yr l line at0,zM l at0⟩
theorem Vf {l:List UInt8} {at0:Nat} (h:at0≤l.length):zM l at0≤l.length:=by
 unfold zM
 have:=zag _ (l.drop at0) (Nat.le_refl _)
 rw [List.length_drop] at this;omega
theorem za0 (l:List UInt8) (c:UInt8):Lib.countByte l c≤l.length:=List.count_le_length
theorem zcn (lp Bn:Nat) (l:List UInt8) (hlen:l.length≤4096) (J:List Tk→Nat→Nat→World→Prop) (E:List Tk→Nat→Nat→World→Prop)
  (hJc:∀pre line a W,(∀t∈pre,t.k≠0)→J pre line a W→W.cell? ⟨Bn,0,none⟩=some (.string (za l))∧Ys W∧line≤a+1)
  (hJg:∀pre line a W W',J pre line a W→Below W.heap.size W W'→J pre line a W')
  (hE:∀pre line a W1 o,(∀t∈pre,t.k≠0)→J pre line a W1→(zV l a).e≠0→a≤l.length→YieldAt Fence.wide (6-1) Tryz.prog lp #[zd3 (tkT l line a),.int .i64 (zV l a).e] (W1.alloc o) fun e W'=>e=.returned (.bool false)∧E pre line a W')
  (hY:∀pre line a W1 o,(∀t∈pre,t.k≠0)→J pre line a W1→(zV l a).e=0→a≤l.length→YieldAt Fence.wide (6-1) Tryz.prog lp #[zd3 (tkT l line a),.int .i64 0] (W1.alloc o) fun e W'=>e=.returned (.bool true)∧J (pre++[tkT l line a]) (yr l line a) (zM l a+(zV l a).sz) W'∧W'.heap[W1.heap.size]?=some o)
  (W:World) (h0:J [] 1 0 W) :
  CallsIn Fence.wide 6 Tryz.prog 126 #[.func (.yield lp) #[] #[],.pointer (some ⟨Bn,0,none⟩)] W fun e W'=>(∃u,e=.returned u) ∧
   ((∃pre line a,(∀t∈pre,t.k≠0)∧(zV l a).e≠0∧E pre line a W')∨∃pre line a,(∀t∈pre,t.k≠0)∧(zV l a).e=0∧(zV l a).k=0∧J (pre++[tkT l line a]) (yr l line a) (zM l a+(zV l a).sz) W'):=by
 refine callsIn_of_wp Tryz.func126 rfl trivial ?_ rfl;simp only [Tryz.ntmps126,List.size_toArray,List.length_cons,List.length_nil,Nat.reduceAdd,Nat.reduceSub,Array.replicate_succ,Array.replicate_zero,List.push_toArray,List.append_toArray,List.nil_append,List.cons_append]
 gi_wp2
 gi_loopw [3,4,5] (fun vl va vm wr=>(∃pre line a,vl=.int .i64 (line:Nat)∧va=.int .i64 (a:Nat)∧vm=.bool true∧a≤l.length∧(∀t∈pre,t.k≠0)∧J pre line a wr) ∨
   (vm=.bool false∧((∃pre line a,(∀t∈pre,t.k≠0)∧(zV l a).e≠0∧E pre line a wr)∨∃pre line a,(∀t∈pre,t.k≠0)∧(zV l a).e=0∧(zV l a).k=0∧J (pre++[tkT l line a]) (yr l line a) (zM l a+(zV l a).sz) wr)))
  (fun _ va vm _=>match vm with | .bool true=>l.length+1-(intOf va).toNat | _=>0)
 case atStart=>exact .inl ⟨[],1,0,rfl,rfl,rfl,Nat.zero_le _,(fun t h=>by cases h),h0⟩
 case round =>
  rcases hrel with ⟨pre,line,a,rfl,rfl,rfl,ha,hpk,hJ⟩ | ⟨rfl,hfin⟩
  ·obtain ⟨hc,htab,hla⟩:=hJc _ _ _ _ hpk hJ
   have HJ:Hid (J pre line a wr):=hJ;have HPK:Hid (∀t∈pre,t.k≠0):=hpk;clear hpk;have HTB:Hid (Ys wr):=htab;have hpl:=Vf (l:=l) ha;obtain ⟨g,hg⟩:∃g,g=Yn (l.drop a):=⟨_,rfl⟩;have hgl:a+g≤l.length:=by rw [hg];exact hpl
   have s1:=fun wx=>XW wx l a ha
   have s2:=fun wx=>vu wx l a g hgl
   have s3:=fun wx=>XW wx l (a+g) hgl
   rw [Int.natCast_add] at s3;have cg:=fun wx=>zgs (l.drop a) wx (by rw [List.length_drop];omega)
   rw [←hg] at cg;obtain ⟨cn,hcn⟩:∃cn,cn=Lib.countByte ((l.drop a).take g) 10:=⟨_,rfl⟩;have hcnl:cn≤g:=by rw [hcn];exact Nat.le_trans (za0 _ _) (List.length_take_le ..)
   have cc:=fun wx=>Tryz.strings_Count_one (za ((l.drop a).take g)) 10 wx
   rw [show (za ((l.drop a).take g)).data.toList=(l.drop a).take g from rfl,←hcn] at cc
   have ct:=fun wx (h:Ys wx)=>QD (l.drop (a+g)) wx (by rw [List.length_drop];omega) h
   obtain ⟨R,hR⟩:∃R,R=Zc (l.drop (a+g)):=⟨_,rfl⟩;rw [←hR] at ct
   unfold y6 at ct
   have HRN:Hid (zV l a=R):=show zV l a=R by unfold zV;rw [←hg,←hR]
   have HTK:Hid (tkT l line a=⟨R.k,R.s,R.n,line+cn,a+g⟩):=show _=_ by unfold tkT yr zM;rw [HRN.out,←hg,←hcn]
   have HCG:Hid (∀wx,Calls Tryz.prog 127 #[.string (za (l.drop a))] wx fun e w'=>e=.returned (.int .i64 g)∧wx=w'):=cg
   have HCC:Hid (∀wx,Calls Tryz.prog 128 #[.string (za ((l.drop a).take g)),.string ⟨#[10]⟩] wx fun e w'=>e=.returned (.int .i64 cn)∧w'=wx):=cc
   have HCT:Hid (∀wx,Ys wx→Calls Tryz.prog 129 #[.string (za (l.drop (a+g)))] wx fun e w'=>e=.returned (.tuple #[.agg #[.int .i64 R.k,.string (za R.s),.int .i64 R.n,.int .i64 0,.int .i64 0],.int .i64 R.sz,.int .i64 R.e])∧Below wx.heap.size wx w'):=ct
   have HSZ:Hid (R.e=0→R.sz≤l.length-(a+g)∧(R.k≠0→1≤R.sz)):=fun h=>by
    have:=uk (l.drop (a+g)) (by rw [←hR];exact h)
    rw [←hR,List.length_drop] at this;exact ⟨this.1,this.2.1⟩
   clear cg cc ct hg hcn hR hJ htab hpl;have hl64:line+cn≤5000:=by omega
   have ha64:a+g≤4096:=by omega
   by_cases he:R.e=0
   ·obtain ⟨hsz,hk1⟩:=HSZ.out he
    have HYY:Hid (∀W1 o,J pre line a W1→YieldAt Fence.wide (6-1) Tryz.prog lp #[.agg #[.int .i64 R.k,.string (za R.s),.int .i64 R.n,.int .i64 ((line:Int)+cn),.int .i64 ((a:Int)+g)],.int .i64 0] (W1.alloc o) fun e W'=>e=.returned (.bool true)∧J (pre++[tkT l line a]) (line+cn) (a+g+R.sz) W'∧W'.heap[W1.heap.size]?=some o):=fun W1 o h=>by
     have:=hY pre line a W1 o HPK.out h (by rw [HRN.out];exact he) ha
     rw [HTK.out,HRN.out] at this;have e1:yr l line a=line+cn:=by have:=congrArg Tk.line HTK.out;exact this
     have e2:zM l a=a+g:=by have:=congrArg Tk.at0 HTK.out;exact this
     rw [e1,e2] at this
     unfold zd3 at this
     simp only [Int.natCast_add] at this;rw [HTK.out];exact this
    rw [he] at HCT
    gi_wp2_with (refine ⟨trivial,?_⟩;first
     | (gi_at_call 127;refine (callsIn_wide.2 (HCG.out _)).mono ?_;rintro e w1 ⟨rfl,hw⟩;subst hw)
     | (gi_at_call 128;refine (callsIn_wide.2 (HCC.out _)).mono ?_;rintro e w1 ⟨rfl,hw⟩;subst hw)
     | (gi_at_call 129;refine (callsIn_wide.2 (HCT.out _ HTB.out)).mono ?_;rintro e w1 ⟨rfl,hb1⟩;obtain ⟨fn,tmps,assign,body,hy,hRR⟩:=HYY.out _ (.cells #[.int .i64 R.k,.string (za R.s),.int .i64 R.n,.int .i64 ((line:Int)+cn),.int .i64 ((a:Int)+g)] 66) (hJg _ _ _ _ _ HJ.out hb1)))
    refine hRR.mono ?_;rintro e W3 ⟨rfl,hJ3,hblk⟩
    have hck:W3.cell? ⟨w1.heap.size,0,none⟩=some (.int .i64 R.k):=by
     rw [cell_of_row W3 w1.heap.size 0 _ _ _ hblk];rfl
    clear hRR hy hblk
    by_cases hk:R.k=0
    ·have hkb:((R.k:Int) != 0)=false:=by rw [hk];rfl
     gi_wp2
     refine ⟨.inr ⟨rfl,.inr ⟨pre,line,a,HPK.out,by rw [HRN.out];exact he,by rw [HRN.out];exact hk,?_⟩⟩,?_⟩
     ·have e1:yr l line a=line+cn:=by have:=congrArg Tk.line HTK.out;exact this
      have e2:zM l a=a+g:=by have:=congrArg Tk.at0 HTK.out;exact this
      rw [e1,e2,HRN.out];exact hJ3
     ·simp [intOf];omega
    ·have hkb:((R.k:Int) != 0)=true:=by rw [bne_iff_ne];omega
     have hsz1:=hk1 hk
     gi_wp2
     refine ⟨.inl ⟨_,line+cn,a+g+R.sz,by go_num,by go_num,rfl,by omega,?_,hJ3⟩,?_⟩
     ·intro t ht
      rcases List.mem_append.1 ht with h | h
      ·exact HPK.out t h
      ·rw [List.mem_singleton] at h;rw [h,HTK.out];exact hk
     simp [intOf]
     omega
   ·have HYY:Hid (∀W1 o,J pre line a W1→YieldAt Fence.wide (6-1) Tryz.prog lp #[.agg #[.int .i64 R.k,.string (za R.s),.int .i64 R.n,.int .i64 ((line:Int)+cn),.int .i64 ((a:Int)+g)],.int .i64 R.e] (W1.alloc o) fun e W'=>e=.returned (.bool false)∧E pre line a W'):=fun W1 o h=>by
     have:=hE pre line a W1 o HPK.out h (by rw [HRN.out];exact he) ha
     rw [HTK.out,HRN.out] at this
     unfold zd3 at this
     simp only [Int.natCast_add] at this;exact this
    gi_wp2_with (refine ⟨trivial,?_⟩;first
     | (gi_at_call 127;refine (callsIn_wide.2 (HCG.out _)).mono ?_;rintro e w1 ⟨rfl,hw⟩;subst hw)
     | (gi_at_call 128;refine (callsIn_wide.2 (HCC.out _)).mono ?_;rintro e w1 ⟨rfl,hw⟩;subst hw)
     | (gi_at_call 129;refine (callsIn_wide.2 (HCT.out _ HTB.out)).mono ?_;rintro e w1 ⟨rfl,hb1⟩;obtain ⟨fn,tmps,assign,body,hy,hRR⟩:=HYY.out _ (.cells #[.int .i64 R.k,.string (za R.s),.int .i64 R.n,.int .i64 ((line:Int)+cn),.int .i64 ((a:Int)+g)] 66) (hJg _ _ _ _ _ HJ.out hb1)))
    refine hRR.mono ?_;rintro e W3 ⟨rfl,hE3⟩;clear hRR hy
    gi_wp2
    refine ⟨.inr ⟨rfl,.inl ⟨pre,line,a,HPK.out,by rw [HRN.out];exact he,hE3⟩⟩,?_⟩
    simp [intOf]
    omega
  ·gi_wp2
   go_end0
   exact ⟨⟨_,rfl⟩,hfin⟩
end Go.Proofs.YtpejpbbdgblbeaaGreatDoor
namespace Go.Proofs.YtpejpbbdgblbeaaGreatDoor
open Go.RowKit
set_option maxHeartbeats 16000000
set_option maxRecDepth 100000
def XP (l:List UInt8):Nat→Nat→List Tk→Nat→Nat→Prop
 | line0,a0,[],line,a=>line=line0∧a=a0
 | line0,a0,t::ts,line,a=>(zV l a0).e=0∧t=tkT l line0 a0∧XP l (yr l line0 a0) (zM l a0+(zV l a0).sz) ts line a
theorem Ul {l:List UInt8} {line a:Nat} (he:(zV l a).e=0):∀{ts:List Tk} {line0 a0:Nat},XP l line0 a0 ts line a →
  XP l line0 a0 (ts++[tkT l line a]) (yr l line a) (zM l a+(zV l a).sz)
 | [],line0,a0,⟨h1,h2⟩=>by subst h1;subst h2;exact ⟨he,rfl,rfl,rfl⟩
 | t::ts,line0,a0,⟨h1,h2,h3⟩=>⟨h1,h2,Ul he h3⟩
theorem Um {l:List UInt8} {t:Tk} {line a:Nat}:∀{ts:List Tk} {line0 a0:Nat},XP l line0 a0 (ts++[t]) line a →
  ∃line1 a1,XP l line0 a0 ts line1 a1∧(zV l a1).e=0∧t=tkT l line1 a1
 | [],line0,a0,h=>⟨line0,a0,⟨rfl,rfl⟩,h.1,h.2.1⟩
 | _::ts,line0,a0,h=>by
  obtain ⟨line1,a1,h1,h2,h3⟩:=Um (ts:=ts) h.2.2;exact ⟨line1,a1,⟨h.1,h.2.1,h1⟩,h2,h3⟩
def scanS (l:List UInt8):Nat→Nat→Nat→List Tk × Nat × Nat
 | 0,_,_=>([],0,0)
 | f+1,line,a =>
  if (zV l a).e≠0 then ([],zM l a,(zV l a).e) else if (zV l a).k=0 then ([tkT l line a],0,0)
  else if (scanS l f (yr l line a) (zM l a+(zV l a).sz)).2.2≠0 then ([],(scanS l f (yr l line a) (zM l a+(zV l a).sz)).2.1,(scanS l f (yr l line a) (zM l a+(zV l a).sz)).2.2)
  else (tkT l line a::(scanS l f (yr l line a) (zM l a+(zV l a).sz)).1,0,0)
def zC (l:List UInt8):List Tk × Nat × Nat:=if 4096<l.length then ([],0,5) else scanS l (l.length+1) 1 0
theorem xB {l:List UInt8} {a:Nat} (ha:a≤l.length) (he:(zV l a).e=0) (hk:(zV l a).k≠0):a<zM l a+(zV l a).sz∧zM l a+(zV l a).sz≤l.length:=by
 have hp:=Vf ha;have hz:=uk (l.drop (a+Yn (l.drop a))) he;have h1:=hz.2.1 hk;have h2:=hz.1;rw [List.length_drop] at h2
 unfold zM at hp ⊢
 unfold zV
 omega
theorem QE {l:List UInt8} {line a:Nat} (he:(zV l a).e≠0):∀(ts:List Tk) (line0 a0 f:Nat),XP l line0 a0 ts line a→(∀t∈ts,t.k≠0)→a0≤l.length→l.length<a0+f →
  scanS l f line0 a0=([],zM l a,(zV l a).e)
 | [],line0,a0,f,⟨h1,h2⟩,_,ha,hf=>by
  subst h1;subst h2;obtain ⟨f,rfl⟩:∃g,f=g+1:=⟨f-1,by omega⟩
  unfold scanS;rw [if_pos he]
 | t::ts,line0,a0,f,⟨h1,h2,h3⟩,hk,ha,hf=>by
  obtain ⟨f,rfl⟩:∃g,f=g+1:=⟨f-1,by omega⟩
  have hk0:(zV l a0).k≠0:=by have:=hk t (List.mem_cons_self ..);rw [h2] at this;exact this
  have hm:=xB ha h1 hk0;have ih:=QE he ts _ _ f h3 (fun t ht=>hk t (List.mem_cons_of_mem _ ht)) hm.2 (by omega)
  unfold scanS
  rw [if_neg (by simp [h1]),if_neg hk0,ih,if_pos he]
theorem QF {l:List UInt8} {line a:Nat} (he:(zV l a).e=0) (hz:(zV l a).k=0):∀(ts:List Tk) (line0 a0 f:Nat),XP l line0 a0 ts line a→(∀t∈ts,t.k≠0)→a0≤l.length→l.length<a0+f →
  scanS l f line0 a0=(ts++[tkT l line a],0,0)
 | [],line0,a0,f,⟨h1,h2⟩,_,ha,hf=>by
  subst h1;subst h2;obtain ⟨f,rfl⟩:∃g,f=g+1:=⟨f-1,by omega⟩
  unfold scanS;rw [if_neg (by simp [he]),if_pos hz];rfl
 | t::ts,line0,a0,f,⟨h1,h2,h3⟩,hk,ha,hf=>by
  obtain ⟨f,rfl⟩:∃g,f=g+1:=⟨f-1,by omega⟩
  have hk0:(zV l a0).k≠0:=by have:=hk t (List.mem_cons_self ..);rw [h2] at this;exact this
  have hm:=xB ha h1 hk0;have ih:=QF he hz ts _ _ f h3 (fun t ht=>hk t (List.mem_cons_of_mem _ ht)) hm.2 (by omega)
  unfold scanS
  rw [if_neg (by simp [h1]),if_neg hk0,ih,if_neg (by simp),h2]
  rfl
theorem VL {l:List UInt8} {line a:Nat}:∀(ts:List Tk) (line0 a0:Nat),XP l line0 a0 ts line a→(∀t∈ts,t.k≠0)→a0≤l.length→line0≤a0+1→a0+ts.length≤a∧a≤l.length∧line≤a+1
 | [],line0,a0,⟨h1,h2⟩,_,ha,hl=>by subst h1;subst h2;exact ⟨by simp,ha,hl⟩
 | t::ts,line0,a0,⟨h1,h2,h3⟩,hk,ha,hl=>by
  have hk0:(zV l a0).k≠0:=by have:=hk t (List.mem_cons_self ..);rw [h2] at this;exact this
  have hm:=xB ha h1 hk0
  have hc:yr l line0 a0≤zM l a0+1:=by
   unfold yr zM
   have:=za0 ((l.drop a0).take (Yn (l.drop a0))) 10
   have h2:((l.drop a0).take (Yn (l.drop a0))).length≤Yn (l.drop a0):=List.length_take_le ..;omega
  have:=VL ts _ _ h3 (fun t ht=>hk t (List.mem_cons_of_mem _ ht)) hm.2 (by omega)
  rw [List.length_cons];omega
def z8 (ts:List Tk):List Value:=ts.flatMap fun t=>[.int .i64 t.k,.string (za t.s),.int .i64 t.n,.int .i64 t.line,.int .i64 t.at0]
theorem vQ (a b:List Tk):z8 (a++b)=z8 a++z8 b:=by unfold z8;rw [List.flatMap_append]
theorem zdu:∀(f:Nat) (meant:List UInt8) (at0:Nat) (r:List UInt8),meant.length≤255→(Ze f meant at0 r).s.length≤255
 | 0,_,_,_,_=>by simp [Ze]
 | _+1,_,_,[],_=>by simp [Ze]
 | f+1,meant,at0,x::r,h=>by
  unfold Ze
  split
  ·exact h
  ·split
   ·simp
   ·split
    ·simp
    ·rename_i h3
     exact zdu f _ _ _ (by rw [List.length_append];simp;omega)
theorem zfi (l:List UInt8):(Zc l).s.length≤l.length+255:=by
 cases l with
 | nil=>simp [Zc]
 | cons x r =>
  unfold Zc
  simp only
  split
  ·have:=UT (x::r)
   unfold yH
   split
   ·exact Nat.le_trans this (by omega)
   ·split
    ·simp
    ·exact Nat.le_trans this (by omega)
  ·split
   ·unfold xA;split <;> exact Nat.zero_le _
   ·split
    ·have h9:(ZI (x::r)).s.length≤255:=zdu (x::r).length [] 1 ((x::r).drop 1) (Nat.zero_le _)
     exact Nat.le_trans h9 (Nat.le_add_left 255 _)
    ·unfold Yw
     have h9:=QB (x::r) 25;generalize bestS (x::r) 25=bb at h9 ⊢
     split
     ·exact Nat.zero_le _
     ·have h8:2≤(x::r).length+255:=Nat.le_trans (by decide) (Nat.le_add_left 255 _)
      exact Nat.le_trans h9 h8
def zfj:Nat→List UInt8→Nat
 | 0,_=>0
 | f+1,l=>if XO (l.drop (yv Zj l))=true then
   yv Zj l+(yv ZK (l.drop (yv Zj l))+zfj f ((l.drop (yv Zj l)).drop (yv ZK (l.drop (yv Zj l)))))
  else yv Zj l
theorem zdv:∀(f:Nat) (l:List UInt8),l.length<f→Yn l=zfj f l
 | 0,l,h=>by omega
 | f+1,l,h=>by
  rw [Yn,zfj]
  by_cases hr:XO (l.drop (yv Zj l))=true
  ·rw [dif_pos hr,if_pos hr,zdv f _ (by
    have:=Xf hr
    have h3:=Xw ZK (l.drop (yv Zj l));simp only [List.length_drop] at *
    omega)]
  ·rw [dif_neg hr,if_neg hr]
theorem zfk:Yn=fun l=>zfj (l.length+1) l:=funext fun l=>zdv _ l (Nat.lt_succ_self _)
def Vt (g:List UInt8→Nat) (l:List UInt8) (a:Nat):TR:=Zc (l.drop (a+g (l.drop a)))
def za1 (g:List UInt8→Nat) (l:List UInt8) (line a:Nat):Nat:=line+Lib.countByte ((l.drop a).take (g (l.drop a))) 10
def uN (g:List UInt8→Nat) (l:List UInt8) (a:Nat):Nat:=a+g (l.drop a)
def tkG (g:List UInt8→Nat) (l:List UInt8) (line a:Nat):Tk:=⟨(Vt g l a).k,(Vt g l a).s,(Vt g l a).n,za1 g l line a,uN g l a⟩
def UV (g:List UInt8→Nat) (l:List UInt8):Nat→Nat→Nat→List Tk × Nat × Nat
 | 0,_,_=>([],0,0)
 | f+1,line,a =>
  if (Vt g l a).e≠0 then ([],uN g l a,(Vt g l a).e) else if (Vt g l a).k=0 then ([tkG g l line a],0,0)
  else if (UV g l f (za1 g l line a) (uN g l a+(Vt g l a).sz)).2.2≠0 then ([],(UV g l f (za1 g l line a) (uN g l a+(Vt g l a).sz)).2.1,(UV g l f (za1 g l line a) (uN g l a+(Vt g l a).sz)).2.2)
  else (tkG g l line a::(UV g l f (za1 g l line a) (uN g l a+(Vt g l a).sz)).1,0,0)
theorem zdw (l:List UInt8):∀(f line a:Nat),scanS l f line a=UV Yn l f line a
 | 0,_,_=>rfl
 | f+1,line,a=>by
  unfold scanS UV
  rw [zdw l f]
  rfl
def Xx (l:List UInt8):List Tk × Nat × Nat:=UV (fun l=>zfj (l.length+1) l) l (l.length+1) 1 0
theorem zdx {l:List UInt8} (h:l.length≤4096):zC l=Xx l:=by
 unfold zC Xx
 rw [if_neg (by omega),zdw,zfk]
end Go.Proofs.YtpejpbbdgblbeaaGreatDoor
