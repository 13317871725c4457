import Derived.OrdersHeld
import Derived.BigQuiet
import Derived.Deep.RegionHeld3
import Derived.WalkKit
import Derived.Below
import Derived.Test.YtpejpbbdgblbeaaGreatDoorMC12
namespace Go.Proofs.YtpejpbbdgblbeaaGreatDoor
open Go Go.RowKit
set_option maxHeartbeats 16000000
set_option maxRecDepth 100000
def zaC:Op→Bool
 | .move _ | .assign _ | .pick .. | .build .. | .load .. | .binOp .. | .unOp .. | .convert .. | .makeInterface .. | .fieldAddr .. | .field .. | .indexAddr .. | .index .. | .extract .. | .slice ..=>true
 | .call c=>match c.callee with
  | .builtin .len=>true
  | _=>false
 | _=>false
theorem VZ {α:Type} {P:Program} {s:Sem α} {f:α→Value} {w w':World} {n:Next} (h:(s.bind fun x=>Sem.pure (Next.value (f x))).run P w=.ok n w'):∃v,n=.value v:=by
 rw [Sem.run_bind'] at h;cases hs:s.run P w with
 | ok v w1=>rw [hs] at h;simp [Result.andThen] at h;exact ⟨f v,h.1.symm⟩
 | halt x w1=>rw [hs] at h;simp [Result.andThen] at h
theorem Ql {P:Program} {o:Oper} {ρ:Operand→Value} {w w':World} {n:Next} (hp:zaC o.op=true) (h:(execOp ρ o).run P w=.ok n w'):∃v,n=.value v:=by
 unfold execOp at h
 cases ho:o.op <;> rw [ho] at hp h <;> simp only [zaC,Bool.false_eq_true] at hp <;> simp only [] at h
 case call c =>
  cases hc:c.callee with
  | builtin b =>
   rw [hc] at hp
   cases b <;> simp at hp
   simp only [resolve,hc] at h;exact VZ (f:=id) h
  | value f=>rw [hc] at hp;simp at hp
  | invoke r m=>rw [hc] at hp;simp at hp
 all_goals first
  | exact VZ (f:=id) h
  | exact VZ h
  | (simp only [Sem.run_pure,Result.ok.injEq] at h;exact ⟨_,h.1.symm⟩)
def qp (l:List Oper):List Nat→List Oper
 | []=>[]
 | i::is=>match l.drop i with
  | o::_=>o::qp l is
  | []=>[]
def UN (listed:Array Bool):List Nat→Array Bool
 | []=>listed
 | i::is=>UN (listed.setIfInBounds i true) is
def zgV (md:Region.Mode) (l:List Oper):List Nat→Array Bool→Bool
 | [],_=>true
 | i::is,listed=>(match l.drop i with
  | o::_=>zaC o.op
  | []=>false)&&Region.free md l.toArray listed i&&(Region.ready md l.toArray listed).contains i&&zgV md l is (listed.setIfInBounds i true)
section
variable {P:Program} {Q:Exit→Act→World→Prop} {md:Region.Mode} {S:World→Prop} {l:List Oper}
theorem uw {i:Nat} {o:Oper} {rest:List Oper} (h:l.drop i=o::rest):l.toArray[i]?=some o:=by
 have:(l.drop i)[0]?=some o:=by rw [h];rfl
 rw [List.getElem?_drop] at this
 simpa using this
theorem qq (hs:Region.noSelect l.toArray=true) (hQ:∀c a d v w,Q (.panic c) (a.put d v) w→Q (.panic c) a w) (fuel:Nat) (w:World) (hS:S w) :
  ∀(idx:List Nat) (listed:Array Bool) (a:Act),zgV md l idx listed=true →
   wpQuiet P l.toArray S (fun a'=>wpAnyH P md l.toArray Q S fuel (UN listed idx) a' w) (qp l idx) a →
   wpAnyH P md l.toArray Q S (fuel+idx.length) listed a w
 | [],_,_,_,h=>h
 | i::is,listed,a,hB,h=>by
  simp only [zgV,Bool.and_eq_true] at hB;obtain ⟨⟨⟨hp,hf⟩,hr⟩,hB'⟩:=hB;cases hd:l.drop i with
  | nil=>rw [hd] at hp;simp at hp
  | cons o rest =>
   rw [hd] at hp;have hi:=uw hd
   have hq:∃v,YieldsIf P l.toArray S o v a∧wpQuiet P l.toArray S (fun a'=>wpAnyH P md l.toArray Q S fuel (UN listed (i::is)) a' w) (qp l is) (a.put o.dst v):=by
    rw [show qp l (i::is)=o::qp l is by simp only [qp,hd]] at h
    unfold wpQuiet at h
    split at h
    ·rename_i hw
     obtain ⟨v,hv,hn⟩:=h;refine ⟨v,.inl ⟨hw,fun w' hw'=>?_⟩,hn⟩
     have h3:=hv w' hw'
     unfold Oper.quietAt at h3
     cases hrun:(execOp a.eval o).run P w' with
     | ok n w2 =>
      rw [hrun] at h3;obtain ⟨u,rfl⟩:=Ql hp hrun;obtain ⟨rfl,rfl⟩:=h3
      rfl
     | halt x w2=>rw [hrun] at h3;exact h3.elim
    ·rename_i hw
     exact ⟨undef,.inr ⟨by simpa using hw,rfl⟩,h⟩
   obtain ⟨v,hy,hn⟩:=hq;exact wpAnyH_take hi hs hf hr (fun c a w=>hQ c a _ _ w) hy hS (qq hs hQ fuel w hS is _ _ hB' hn)
theorem Zz {fuel fuel':Nat} {w:World} {idx:List Nat} {l':List Oper} {listed listed':Array Bool} {a:Act} (hB:(Region.noSelect l.toArray&&zgV md l idx listed)=true) (hf:fuel+idx.length=fuel') (hl:l'=qp l idx) (hL:listed'=UN listed idx)
  (hQ:∀c a d v w,Q (.panic c) (a.put d v) w→Q (.panic c) a w) (hS:S w) (h:wpQuiet P l.toArray S (fun a'=>wpAnyH P md l.toArray Q S fuel listed' a' w) l' a):wpAnyH P md l.toArray Q S fuel' listed a w:=by
 subst hf hl hL;rw [Bool.and_eq_true] at hB;exact qq hB.1 hQ fuel w hS idx listed a hB.2 h
theorem zG {fuel fuel':Nat} {w:World} {i:Nat} {o:Oper} {rest:List Oper} {listed listed':Array Bool} {a:Act} (hd:l.drop i=o::rest) (hr:Region.ready md l.toArray listed=[i]) (hf:fuel+1=fuel') (hL:listed'=listed.setIfInBounds i true)
  (hw:Region.wanted o (yielded l.toArray a.tmps)=true)
  (h:∀K:Act→World→Prop,Hid (∀a' w',S w'→wpAnyH P md l.toArray Q S fuel listed' a' w'→K a' w')→o.wp P a w K Q):wpAnyH P md l.toArray Q S fuel' listed a w:=by
 subst hf hL;refine wpAnyH_all hr (by simp) fun j hj=>?_
 obtain rfl:j=i:=by simpa using hj
 have h1:=h (fun a' w'=>S w'∧wpAnyH P md l.toArray Q S fuel (listed.setIfInBounds j true) a' w') fun a' w' h1 h2=>⟨h1,h2⟩
 unfold wpOp
 rw [uw hd];simp only [hw,if_true];exact .inl h1
theorem x6 {fuel fuel':Nat} {w:World} {i:Nat} {o:Oper} {rest:List Oper} {listed listed':Array Bool} {a:Act} (hd:l.drop i=o::rest) (hr:Region.ready md l.toArray listed=[i]) (hf:fuel+1=fuel') (hL:listed'=listed.setIfInBounds i true)
  (hw:Region.wanted o (yielded l.toArray a.tmps)=true)
  (h:∀K:Act→World→Prop,Hid (∀a' w',S w'→wpAnyH P md l.toArray Q S fuel listed' a' w'→K a' w')→if Region.wanted o (yielded l.toArray a.tmps)=true then o.wp P a w K Q else True):wpAnyH P md l.toArray Q S fuel' listed a w :=
 zG hd hr hf hL hw fun K hK=>by have:=h K hK;rwa [if_pos hw] at this
theorem ym {listed:Array Bool} {fuel:Nat} {a:Act} {w:World} (hr:Region.ready md l.toArray listed=[]) (h:Q .normal a w):wpAnyH P md l.toArray (NoPanic Q) S fuel listed a w :=
 wpAnyH_done hr (NoPanic.normal h) _
theorem YK {id:Nat} {a:Act} {w:World} {n:Nat} {listed:Array Bool} (hm:P.follows .mixedOrders=true) (hn:n=l.length) (hL:listed=Array.replicate n false)
  (h:wpAnyH P .any l.toArray (NoPanic Q) S n listed a w.drew):(Code.region id l.toArray true).wp P Q a w:=by
 subst hn hL;refine wp_region_noPanic (wp_region_held (S:=S) hm ?_);rw [show l.toArray.size=l.length by simp]
 exact h
end
def y8 (p:World→Prop):Type:={ wx:World // p wx }
theorem YV {P:Program} {Q:Exit→Act→World→Prop} {md:Region.Mode} {S:World→Prop} {l:List Oper} {fuel fuel':Nat} {w:World} {i k:Nat} {o o':Oper} {rest rest':List Oper} {listed li lk:Array Bool} {a:Act} (hd:l.drop i=o::rest) (hd':l.drop k=o'::rest') (hr:Region.ready md l.toArray listed=[i,k]) (hf:fuel+1=fuel') (hL:li=listed.setIfInBounds i true) (hL':lk=listed.setIfInBounds k true)
  (hw:Region.wanted o (yielded l.toArray a.tmps)=true) (hw':Region.wanted o' (yielded l.toArray a.tmps)=true)
  (h:∀K:Act→World→Prop,Hid (∀a' w',S w'→wpAnyH P md l.toArray Q S fuel li a' w'→K a' w')→o.wp P a w K Q)
  (h':∀K:Act→World→Prop,Hid (∀a' w',S w'→wpAnyH P md l.toArray Q S fuel lk a' w'→K a' w')→o'.wp P a w K Q):wpAnyH P md l.toArray Q S fuel' listed a w:=by
 subst hf hL hL';refine wpAnyH_all hr (by simp) fun j hj=>?_
 have hj':j=i∨j=k:=by simpa using hj
 rcases hj' with rfl | rfl
 ·have h1:=h (fun a' w'=>S w'∧wpAnyH P md l.toArray Q S fuel (listed.setIfInBounds j true) a' w') fun a' w' h1 h2=>⟨h1,h2⟩
  unfold wpOp
  rw [uw hd];simp only [hw,if_true];exact .inl h1
 ·have h1:=h' (fun a' w'=>S w'∧wpAnyH P md l.toArray Q S fuel (listed.setIfInBounds j true) a' w') fun a' w' h1 h2=>⟨h1,h2⟩
  unfold wpOp
  rw [uw hd'];simp only [hw',if_true];exact .inl h1
end Go.Proofs.YtpejpbbdgblbeaaGreatDoor
namespace Go.Proofs.YtpejpbbdgblbeaaGreatDoor
open Go.RowKit Go.Shelf
set_option maxHeartbeats 16000000
set_option maxRecDepth 100000
abbrev VC (k:Int) (s:List UInt8) (be:Option Addr) (me ce:Nat) (bb:Option Addr) (mb cb:Nat) (bl:Option Addr) (ml cl:Nat) (line:Int):Obj:=.cells #[.int .i64 k,.string (za s),.slice be me ce,.slice bb mb cb,.slice bl ml cl,.int .i64 line] 108
abbrev QX (k:Int) (s:List UInt8) (be:Option Addr) (me ce:Nat) (bb:Option Addr) (mb cb:Nat) (bl:Option Addr) (ml cl:Nat) (line:Int):Value:=.agg #[.int .i64 k,.string (za s),.slice be me ce,.slice bb mb cb,.slice bl ml cl,.int .i64 line]
theorem zF {w:World} {N:Nat} {k:Int} {s:List UInt8} {be:Option Addr} {me ce:Nat} {bb:Option Addr} {mb cb:Nat} {bl:Option Addr} {ml cl:Nat} {line:Int} (p:w.heap[N]?=some (VC k s be me ce bb mb cb bl ml cl line)) :
  w.cell? ⟨N,0,none⟩=some (.int .i64 k)∧w.cell? ⟨N,1,none⟩=some (.string (za s))∧w.cell? ⟨N,2,none⟩=some (.slice be me ce)∧w.cell? ⟨N,3,none⟩=some (.slice bb mb cb)∧w.cell? ⟨N,4,none⟩=some (.slice bl ml cl)∧w.cell? ⟨N,5,none⟩=some (.int .i64 line):=by
 refine ⟨?_,?_,?_,?_,?_,?_⟩ <;> (simp only [World.cell?,p];rfl)
theorem zfQ (a:Int) (s:List UInt8) (n:Int) (base:Option Addr) (m cap:Nat) (line:Int) (w:World) :
  Calls Tryz.prog 189 #[Ye a s n base m cap line] w fun e w'=>e=.returned (.bool (a==4||a==8||a==9))∧w'=w.alloc (Y3 a s n base m cap line):=by
 by_cases h4:a=4
 ·subst h4
  go_enter Tryz.func189,Tryz.ntmps189
  go_wp2
  go_ret
  exact ⟨rfl,rfl⟩
 ·have f4:(a==4)=false:=by simpa using h4
  by_cases h8:a=8
  ·subst h8
   go_enter Tryz.func189,Tryz.ntmps189
   go_wp2
   go_ret
   exact ⟨rfl,rfl⟩
  ·have f8:(a==8)=false:=by simpa using h8
   by_cases h9:a=9
   ·subst h9
    go_enter Tryz.func189,Tryz.ntmps189
    go_wp2
    go_ret
    exact ⟨rfl,rfl⟩
   ·have f9:(a==9)=false:=by simpa using h9
    rw [f4,f8,f9];clear h4 h8 h9
    go_enter Tryz.func189,Tryz.ntmps189
    go_wp2
    go_ret
    exact ⟨rfl,rfl⟩
theorem Uu {n:Nat} {w w':World} (h:Below n w w') (k:Nat):Below n w (w'.drewN k):=h.trans (⟨rfl,rfl,rfl,Nat.le_refl _,fun _ _=>rfl⟩:Below n w' (w'.drewN k))
theorem ZB.ez {B:Nat} {w:World} {l:List Ez} {base:Option Addr} {m cap:Nat} (h:ZB (EzC B w) 5 B w l base m cap):∀i x,l[i]?=some x→∃b o a1 a2 a3 a4 a5 a6 a7,base=some ⟨b,o,none⟩∧b<B∧b<w.heap.size∧ZJ B w x (Ye a1 a2 a3 a4 a5 a6 a7) ∧
   w.cell? ⟨b,o+i*5,none⟩=some (.int .i64 a1)∧w.cell? ⟨b,o+i*5+1,none⟩=some (.string (za a2))∧w.cell? ⟨b,o+i*5+2,none⟩=some (.int .i64 a3)∧w.cell? ⟨b,o+i*5+3,none⟩=some (.slice a4 a5 a6)∧w.cell? ⟨b,o+i*5+4,none⟩=some (.int .i64 a7)∧a1=QW x:=by
 intro i x hx;obtain ⟨b,o,c,hb1,hb2,hb3,hlen,hxx,hcell⟩:=h.2.2.2 i x hx
 obtain ⟨a1,a2,a3,a4,a5,a6,a7,hag,hka⟩:∃a1 a2 a3 a4 a5 a6 a7,Value.agg c.toArray=Ye a1 a2 a3 a4 a5 a6 a7∧a1=QW x:=by
  have hxx':ZJ B w x (Value.agg c.toArray):=hxx;generalize Value.agg c.toArray=V at hxx';cases hxx' with
  | mk=>exact ⟨_,_,_,_,_,_,_,rfl,rfl⟩
 have hcl:c=[.int .i64 a1,.string (za a2),.int .i64 a3,.slice a4 a5 a6,.int .i64 a7]:=by
  have:=congrArg (fun v=>match v with | .agg a=>a.toList | _=>[]) hag
  simpa using this
 subst hcl;exact ⟨b,o,a1,a2,a3,a4,a5,a6,a7,hb1,hb2,hb3,hxx,hcell 0 _ rfl,hcell 1 _ rfl,hcell 2 _ rfl,hcell 3 _ rfl,hcell 4 _ rfl,hka⟩
theorem zfR (k:Int) (s:List UInt8) (es:List Ez) (be:Option Addr) (me ce:Nat) (bb:Option Addr) (mb cb:Nat) (bl:Option Addr) (ml cl:Nat) (line:Int) (B:Nat) (w:World) (hrow:ZB (EzC B w) 5 B w es be me ce) :
  Calls Tryz.prog 191 #[QX k s be me ce bb mb cb bl ml cl line] w fun e w'=>e=.returned (.bool (hasX k es))∧Below w.heap.size w w':=by
 obtain ⟨w1,hw1⟩:∃w1,w1=w.alloc (VC k s be me ce bb mb cb bl ml cl line):=⟨_,rfl⟩;have hb1:Below w.heap.size w w1:=by rw [hw1];exact (Below.refl _ w).alloc (Nat.le_refl _) _
 have p1:w1.heap[w.heap.size]?=some (VC k s be me ce bb mb cb bl ml cl line):=by rw [hw1];exact World.alloc_heap_new w _
 obtain ⟨c0,c1,c2,c3,c4,c5⟩:=zF p1;have HB:Hid (Below w.heap.size w w1):=hb1;have hw1':=hw1.symm;have hlen:es.length=me:=hrow.1.symm
 have HX:Hid (∀a b,es=[a,b]→∃b o a1 a2 a3 a4 a5 a6 a7,be=some ⟨b,o,none⟩∧a1=QW a∧w1.cell? ⟨b,o,none⟩=some (.int .i64 a1)∧w1.cell? ⟨b,o+1,none⟩=some (.string (za a2))∧w1.cell? ⟨b,o+2,none⟩=some (.int .i64 a3)∧w1.cell? ⟨b,o+3,none⟩=some (.slice a4 a5 a6)∧w1.cell? ⟨b,o+4,none⟩=some (.int .i64 a7)):=fun a b hab=>by
  subst hab;obtain ⟨b,o,a1,a2,a3,a4,a5,a6,a7,h1,_,h3,_,m0,m1,m2,m3,m4,hk⟩:=hrow.ez 0 a rfl;rw [Nat.zero_mul,Nat.add_zero] at m0 m1 m2 m3 m4;refine ⟨b,o,a1,a2,a3,a4,a5,a6,a7,h1,hk,?_,?_,?_,?_,?_⟩
  ·rw [hw1];exact ze m0 _
  ·rw [hw1];exact ze m1 _
  ·rw [hw1];exact ze m2 _
  ·rw [hw1];exact ze m3 _
  ·rw [hw1];exact ze m4 _
 clear hb1 p1 hw1 hrow
 by_cases hk1:k=1
 ·subst hk1
  have HV0:Hid (hasX 1 es=decide (me=1)):=show _=_ by rw [←hlen];simp [hasX];rfl
  by_cases h1:me=1
  ·subst h1
   have HV:Hid (hasX 1 es=true):=HV0.out.trans (by simp)
   clear HV0
   go_enter Tryz.func191,Tryz.ntmps191
   go_wp2
   exact bodyPost_ret (v:=.bool true) (by simp [results,Tryz.results191,go_sem]) rfl ⟨by rw [HV.out],HB.out⟩
  ·have hmI:((me:Int)==1)=false:=by rw [beq_eq_false_iff_ne];omega
   have HV:Hid (hasX 1 es=false):=HV0.out.trans (by simpa using h1)
   clear HV0
   go_enter Tryz.func191,Tryz.ntmps191
   go_wp2
   exact bodyPost_ret (v:=.bool false) (by simp [results,Tryz.results191,go_sem]) rfl ⟨by rw [HV.out],HB.out⟩
 by_cases hk3:k=3
 ·subst hk3
  have HV0:Hid (hasX 3 es=decide (me=1)):=show _=_ by rw [←hlen];simp [hasX];rfl
  by_cases h1:me=1
  ·subst h1
   have HV:Hid (hasX 3 es=true):=HV0.out.trans (by simp)
   clear HV0
   go_enter Tryz.func191,Tryz.ntmps191
   go_wp2
   exact bodyPost_ret (v:=.bool true) (by simp [results,Tryz.results191,go_sem]) rfl ⟨by rw [HV.out],HB.out⟩
  ·have hmI:((me:Int)==1)=false:=by rw [beq_eq_false_iff_ne];omega
   have HV:Hid (hasX 3 es=false):=HV0.out.trans (by simpa using h1)
   clear HV0
   go_enter Tryz.func191,Tryz.ntmps191
   go_wp2
   exact bodyPost_ret (v:=.bool false) (by simp [results,Tryz.results191,go_sem]) rfl ⟨by rw [HV.out],HB.out⟩
 by_cases hk4:k=4
 ·subst hk4
  have HV0:Hid (hasX 4 es=decide (me=1)):=show _=_ by rw [←hlen];simp [hasX];rfl
  by_cases h1:me=1
  ·subst h1
   have HV:Hid (hasX 4 es=true):=HV0.out.trans (by simp)
   clear HV0
   go_enter Tryz.func191,Tryz.ntmps191
   go_wp2
   exact bodyPost_ret (v:=.bool true) (by simp [results,Tryz.results191,go_sem]) rfl ⟨by rw [HV.out],HB.out⟩
  ·have hmI:((me:Int)==1)=false:=by rw [beq_eq_false_iff_ne];omega
   have HV:Hid (hasX 4 es=false):=HV0.out.trans (by simpa using h1)
   clear HV0
   go_enter Tryz.func191,Tryz.ntmps191
   go_wp2
   exact bodyPost_ret (v:=.bool false) (by simp [results,Tryz.results191,go_sem]) rfl ⟨by rw [HV.out],HB.out⟩
 by_cases hk5:k=5
 ·subst hk5
  have HV0:Hid (hasX 5 es=decide (me=1)):=show _=_ by rw [←hlen];simp [hasX];rfl
  by_cases h1:me=1
  ·subst h1
   have HV:Hid (hasX 5 es=true):=HV0.out.trans (by simp)
   clear HV0
   go_enter Tryz.func191,Tryz.ntmps191
   go_wp2
   exact bodyPost_ret (v:=.bool true) (by simp [results,Tryz.results191,go_sem]) rfl ⟨by rw [HV.out],HB.out⟩
  ·have hmI:((me:Int)==1)=false:=by rw [beq_eq_false_iff_ne];omega
   have HV:Hid (hasX 5 es=false):=HV0.out.trans (by simpa using h1)
   clear HV0
   go_enter Tryz.func191,Tryz.ntmps191
   go_wp2
   exact bodyPost_ret (v:=.bool false) (by simp [results,Tryz.results191,go_sem]) rfl ⟨by rw [HV.out],HB.out⟩
 by_cases hk7:k=7
 ·subst hk7
  have HV0:Hid (hasX 7 es=decide (me=1)):=show _=_ by rw [←hlen];simp [hasX];rfl
  by_cases h1:me=1
  ·subst h1
   have HV:Hid (hasX 7 es=true):=HV0.out.trans (by simp)
   clear HV0
   go_enter Tryz.func191,Tryz.ntmps191
   go_wp2
   exact bodyPost_ret (v:=.bool true) (by simp [results,Tryz.results191,go_sem]) rfl ⟨by rw [HV.out],HB.out⟩
  ·have hmI:((me:Int)==1)=false:=by rw [beq_eq_false_iff_ne];omega
   have HV:Hid (hasX 7 es=false):=HV0.out.trans (by simpa using h1)
   clear HV0
   go_enter Tryz.func191,Tryz.ntmps191
   go_wp2
   exact bodyPost_ret (v:=.bool false) (by simp [results,Tryz.results191,go_sem]) rfl ⟨by rw [HV.out],HB.out⟩
 by_cases hk2:k=2
 ·subst hk2
  clear hk1 hk3 hk4 hk5 hk7
  by_cases h2:me=2
  ·obtain ⟨a,b,hab⟩:∃a b,es=[a,b]:=by match es,hlen.trans h2 with | [a,b],_=>exact ⟨a,b,rfl⟩
   obtain ⟨B2,o,a1,a2,a3,a4,a5,a6,a7,rfl,hka,m0,m1,m2,m3,m4⟩:=HX.out a b hab;have HV:Hid (hasX 2 es=(a1==4||a1==8||a1==9)):=show _=_ by rw [hab,hka];simp [hasX,zfP]
   subst h2;have cp:=zfQ a1 a2 a3 a4 a5 a6 a7 w1;generalize (a1==4||a1==8||a1==9)=H at *;clear hab hka HX hlen
   go_enter Tryz.func191,Tryz.ntmps191
   go_wp2_with fail
   refine cp.mono ?_;clear cp;rintro e w2 ⟨rfl,rfl⟩;have HB2:Hid (Below w.heap.size w (w1.alloc (Y3 a1 a2 a3 a4 a5 a6 a7))):=HB.out.alloc HB.out.size _;clear HB;go_wp2
   exact bodyPost_ret (v:=.bool H) (by simp [results,Tryz.results191,go_sem]) rfl ⟨by rw [HV.out],HB2.out⟩
  ·have hmI:((me:Int)==2)=false:=by rw [beq_eq_false_iff_ne];omega
   have HV:Hid (hasX 2 es=false):=show _=_ by
    have hne:es.length≠2:=by omega
    match es,hne with
    | [],_=>rfl
    | [_],_=>rfl
    | [_,_],h=>exact absurd rfl h
    | _::_::_::_,_=>rfl
   go_enter Tryz.func191,Tryz.ntmps191
   go_wp2
   exact bodyPost_ret (v:=.bool false) (by simp [results,Tryz.results191,go_sem]) rfl ⟨by rw [HV.out],HB.out⟩
 by_cases hk6:k=6
 ·subst hk6
  clear hk1 hk3 hk4 hk5 hk7 hk2
  by_cases h1:me≤1
  ·have hmI:(me:Int)≤1:=by omega
   have HV:Hid (hasX 6 es=true):=show _=_ by simp [hasX,hlen,h1]
   go_enter Tryz.func191,Tryz.ntmps191
   go_wp2
   exact bodyPost_ret (v:=.bool true) (by simp [results,Tryz.results191,go_sem]) rfl ⟨by rw [HV.out],HB.out⟩
  ·have hmI:¬ (me:Int)≤1:=by omega
   have HV:Hid (hasX 6 es=false):=show _=_ by simp [hasX,hlen];omega
   go_enter Tryz.func191,Tryz.ntmps191
   go_wp2
   exact bodyPost_ret (v:=.bool false) (by simp [results,Tryz.results191,go_sem]) rfl ⟨by rw [HV.out],HB.out⟩
 have HV:Hid (hasX k es=false):=show _=_ by
  unfold hasX
  rw [if_neg (by omega),if_neg hk2,if_neg hk6]
 have f1:(k==1)=false:=by simpa using hk1
 have f2:(k==2)=false:=by simpa using hk2
 have f3:(k==3)=false:=by simpa using hk3
 have f4:(k==4)=false:=by simpa using hk4
 have f5:(k==5)=false:=by simpa using hk5
 have f6:(k==6)=false:=by simpa using hk6
 have f7:(k==7)=false:=by simpa using hk7
 clear hk1 hk2 hk3 hk4 hk5 hk6 hk7
 go_enter Tryz.func191,Tryz.ntmps191
 go_wp2
 exact bodyPost_ret (v:=.bool false) (by simp [results,Tryz.results191,go_sem]) rfl ⟨by rw [HV.out],HB.out⟩
theorem xo (k:Int) (s:List UInt8) (es:List Ez) (be:Option Addr) (me ce:Nat) (bb:Option Addr) (mb cb:Nat) (bl:Option Addr) (ml cl:Nat) (line:Int) (B:Nat) (w:World) (hrow:ZB (EzC B w) 5 B w es be me ce) (hB:B≤w.heap.size) :
  Calls Tryz.prog 173 #[QX k s be me ce bb mb cb bl ml cl line] w fun e w'=>e=.returned (.bool (XT k s es mb ml))∧Below w.heap.size w w':=by
 obtain ⟨w1,hw1⟩:∃w1,w1=w.alloc (VC k s be me ce bb mb cb bl ml cl line):=⟨_,rfl⟩;have hb1:Below w.heap.size w w1:=by rw [hw1];exact (Below.refl _ w).alloc (Nat.le_refl _) _
 have p1:w1.heap[w.heap.size]?=some (VC k s be me ce bb mb cb bl ml cl line):=by rw [hw1];exact World.alloc_heap_new w _
 have hbB:∀n,Below B w (w1.drewN n):=fun n=>(Uu hb1 n).mono hB
 have ch:=fun n=>zfR k s es be me ce bb mb cb bl ml cl line B (w1.drewN n) (hrow.kept (hbB n) fun _ _ h=>ZJ.kept h (hbB n))
 obtain ⟨c0,c1,c2,c3,c4,c5⟩:=zF p1;have HB:Hid (∀n,Below w.heap.size w (w1.drewN n)):=fun n=>Uu hb1 n
 have hw1':=hw1.symm;have HV:Hid (XT k s es mb ml=(hasX k es&&(k==1||s==[])&&(k==4||k==3||k==5||mb==0)&&(k==4||ml==0))):=rfl;generalize hasX k es=H at *;obtain ⟨R,hR⟩:∃R,R=XT k s es mb ml:=⟨_,rfl⟩;have HR:Hid (R=(H&&(k==1||s==[])&&(k==4||k==3||k==5||mb==0)&&(k==4||ml==0))):=hR.trans HV.out;rw [←hR];clear hR HV hb1 p1 hw1 hrow hbB
 by_cases hk1:k=1
 ·subst hk1
  cases H with
  | false =>
   obtain rfl:R=false:=by rw [HR.out];simp_all
   clear HR
   go_enter Tryz.func173,Tryz.ntmps173
   go_wp2_with fail
   go_quiet (fail)
   go_wp2_with fail
   refine (ch _).mono ?_;clear ch;rintro e w2 ⟨rfl,hb2⟩;have HB2:Hid (Below w.heap.size w w2):=zi (HB.out _) hb2;have p2:=(hb2.cell (p:=⟨w.heap.size,1,none⟩) (World.block_lt_of_cell? _ _ c1)).trans c1;have p3:=(hb2.cell (p:=⟨w.heap.size,3,none⟩) (World.block_lt_of_cell? _ _ c3)).trans c3;have p4:=(hb2.cell (p:=⟨w.heap.size,4,none⟩) (World.block_lt_of_cell? _ _ c4)).trans c4;clear hb2 HB;go_wp2
   exact bodyPost_ret (v:=.bool false) (by simp [results,Tryz.results173,go_sem]) rfl ⟨rfl,HB2.out⟩
  | true =>
   by_cases hmb:mb=0
   ·subst hmb
    by_cases hml:ml=0
    ·subst hml
     obtain rfl:R=true:=by rw [HR.out];simp_all
     clear HR
     go_enter Tryz.func173,Tryz.ntmps173
     go_wp2_with fail
     go_quiet (fail)
     go_wp2_with fail
     refine (ch _).mono ?_;clear ch;rintro e w2 ⟨rfl,hb2⟩;have HB2:Hid (Below w.heap.size w w2):=zi (HB.out _) hb2;have p2:=(hb2.cell (p:=⟨w.heap.size,1,none⟩) (World.block_lt_of_cell? _ _ c1)).trans c1;have p3:=(hb2.cell (p:=⟨w.heap.size,3,none⟩) (World.block_lt_of_cell? _ _ c3)).trans c3;have p4:=(hb2.cell (p:=⟨w.heap.size,4,none⟩) (World.block_lt_of_cell? _ _ c4)).trans c4;clear hb2 HB;go_wp2
     exact bodyPost_ret (v:=.bool true) (by simp [results,Tryz.results173,go_sem]) rfl ⟨rfl,HB2.out⟩
    ·have hmlI:((ml:Int)==0)=false:=by rw [beq_eq_false_iff_ne];omega
     have hmlN:(ml==0)=false:=by rw [beq_eq_false_iff_ne];exact hml
     obtain rfl:R=false:=by rw [HR.out];simp_all
     clear HR
     go_enter Tryz.func173,Tryz.ntmps173
     go_wp2_with fail
     go_quiet (fail)
     go_wp2_with fail
     refine (ch _).mono ?_;clear ch;rintro e w2 ⟨rfl,hb2⟩;have HB2:Hid (Below w.heap.size w w2):=zi (HB.out _) hb2;have p2:=(hb2.cell (p:=⟨w.heap.size,1,none⟩) (World.block_lt_of_cell? _ _ c1)).trans c1;have p3:=(hb2.cell (p:=⟨w.heap.size,3,none⟩) (World.block_lt_of_cell? _ _ c3)).trans c3;have p4:=(hb2.cell (p:=⟨w.heap.size,4,none⟩) (World.block_lt_of_cell? _ _ c4)).trans c4;clear hb2 HB;go_wp2
     exact bodyPost_ret (v:=.bool false) (by simp [results,Tryz.results173,go_sem]) rfl ⟨rfl,HB2.out⟩
   ·have hmbI:((mb:Int)==0)=false:=by rw [beq_eq_false_iff_ne];omega
    have hmbN:(mb==0)=false:=by rw [beq_eq_false_iff_ne];exact hmb
    obtain rfl:R=false:=by rw [HR.out];simp_all
    clear HR
    go_enter Tryz.func173,Tryz.ntmps173
    go_wp2_with fail
    go_quiet (fail)
    go_wp2_with fail
    refine (ch _).mono ?_;clear ch;rintro e w2 ⟨rfl,hb2⟩;have HB2:Hid (Below w.heap.size w w2):=zi (HB.out _) hb2;have p2:=(hb2.cell (p:=⟨w.heap.size,1,none⟩) (World.block_lt_of_cell? _ _ c1)).trans c1;have p3:=(hb2.cell (p:=⟨w.heap.size,3,none⟩) (World.block_lt_of_cell? _ _ c3)).trans c3;have p4:=(hb2.cell (p:=⟨w.heap.size,4,none⟩) (World.block_lt_of_cell? _ _ c4)).trans c4;clear hb2 HB;go_wp2
    exact bodyPost_ret (v:=.bool false) (by simp [results,Tryz.results173,go_sem]) rfl ⟨rfl,HB2.out⟩
 by_cases hk4:k=4
 ·subst hk4
  cases H with
  | false =>
   obtain rfl:R=false:=by rw [HR.out];simp_all
   clear HR
   go_enter Tryz.func173,Tryz.ntmps173
   go_wp2_with fail
   go_quiet (fail)
   go_wp2_with fail
   refine (ch _).mono ?_;clear ch;rintro e w2 ⟨rfl,hb2⟩;have HB2:Hid (Below w.heap.size w w2):=zi (HB.out _) hb2;have p2:=(hb2.cell (p:=⟨w.heap.size,1,none⟩) (World.block_lt_of_cell? _ _ c1)).trans c1;have p3:=(hb2.cell (p:=⟨w.heap.size,3,none⟩) (World.block_lt_of_cell? _ _ c3)).trans c3;have p4:=(hb2.cell (p:=⟨w.heap.size,4,none⟩) (World.block_lt_of_cell? _ _ c4)).trans c4;clear hb2 HB;go_wp2
   exact bodyPost_ret (v:=.bool false) (by simp [results,Tryz.results173,go_sem]) rfl ⟨rfl,HB2.out⟩
  | true =>
   by_cases hs:s=[]
   ·subst hs
    obtain rfl:R=true:=by rw [HR.out];simp_all
    clear HR
    go_enter Tryz.func173,Tryz.ntmps173
    go_wp2_with fail
    go_quiet (fail)
    go_wp2_with fail
    refine (ch _).mono ?_;clear ch;rintro e w2 ⟨rfl,hb2⟩;have HB2:Hid (Below w.heap.size w w2):=zi (HB.out _) hb2;have p2:=(hb2.cell (p:=⟨w.heap.size,1,none⟩) (World.block_lt_of_cell? _ _ c1)).trans c1;have p3:=(hb2.cell (p:=⟨w.heap.size,3,none⟩) (World.block_lt_of_cell? _ _ c3)).trans c3;have p4:=(hb2.cell (p:=⟨w.heap.size,4,none⟩) (World.block_lt_of_cell? _ _ c4)).trans c4;clear hb2 HB;go_wp2
    exact bodyPost_ret (v:=.bool true) (by simp [results,Tryz.results173,go_sem]) rfl ⟨rfl,HB2.out⟩
   ·have hs1:(s==[])=false:=by simpa using hs
    obtain rfl:R=false:=by rw [HR.out];simp_all
    clear HR
    go_enter Tryz.func173,Tryz.ntmps173
    go_wp2_with fail
    go_quiet (fail)
    go_wp2_with fail
    refine (ch _).mono ?_;clear ch;rintro e w2 ⟨rfl,hb2⟩;have HB2:Hid (Below w.heap.size w w2):=zi (HB.out _) hb2;have p2:=(hb2.cell (p:=⟨w.heap.size,1,none⟩) (World.block_lt_of_cell? _ _ c1)).trans c1;have p3:=(hb2.cell (p:=⟨w.heap.size,3,none⟩) (World.block_lt_of_cell? _ _ c3)).trans c3;have p4:=(hb2.cell (p:=⟨w.heap.size,4,none⟩) (World.block_lt_of_cell? _ _ c4)).trans c4;clear hb2 HB;go_wp2
    exact bodyPost_ret (v:=.bool false) (by simp [results,Tryz.results173,go_sem]) rfl ⟨rfl,HB2.out⟩
 by_cases hk3:k=3
 ·subst hk3
  cases H with
  | false =>
   obtain rfl:R=false:=by rw [HR.out];simp_all
   clear HR
   go_enter Tryz.func173,Tryz.ntmps173
   go_wp2_with fail
   go_quiet (fail)
   go_wp2_with fail
   refine (ch _).mono ?_;clear ch;rintro e w2 ⟨rfl,hb2⟩;have HB2:Hid (Below w.heap.size w w2):=zi (HB.out _) hb2;have p2:=(hb2.cell (p:=⟨w.heap.size,1,none⟩) (World.block_lt_of_cell? _ _ c1)).trans c1;have p3:=(hb2.cell (p:=⟨w.heap.size,3,none⟩) (World.block_lt_of_cell? _ _ c3)).trans c3;have p4:=(hb2.cell (p:=⟨w.heap.size,4,none⟩) (World.block_lt_of_cell? _ _ c4)).trans c4;clear hb2 HB;go_wp2
   exact bodyPost_ret (v:=.bool false) (by simp [results,Tryz.results173,go_sem]) rfl ⟨rfl,HB2.out⟩
  | true =>
   by_cases hs:s=[]
   ·subst hs
    by_cases hml:ml=0
    ·subst hml
     obtain rfl:R=true:=by rw [HR.out];simp_all
     clear HR
     go_enter Tryz.func173,Tryz.ntmps173
     go_wp2_with fail
     go_quiet (fail)
     go_wp2_with fail
     refine (ch _).mono ?_;clear ch;rintro e w2 ⟨rfl,hb2⟩;have HB2:Hid (Below w.heap.size w w2):=zi (HB.out _) hb2;have p2:=(hb2.cell (p:=⟨w.heap.size,1,none⟩) (World.block_lt_of_cell? _ _ c1)).trans c1;have p3:=(hb2.cell (p:=⟨w.heap.size,3,none⟩) (World.block_lt_of_cell? _ _ c3)).trans c3;have p4:=(hb2.cell (p:=⟨w.heap.size,4,none⟩) (World.block_lt_of_cell? _ _ c4)).trans c4;clear hb2 HB;go_wp2
     exact bodyPost_ret (v:=.bool true) (by simp [results,Tryz.results173,go_sem]) rfl ⟨rfl,HB2.out⟩
    ·have hmlI:((ml:Int)==0)=false:=by rw [beq_eq_false_iff_ne];omega
     have hmlN:(ml==0)=false:=by rw [beq_eq_false_iff_ne];exact hml
     obtain rfl:R=false:=by rw [HR.out];simp_all
     clear HR
     go_enter Tryz.func173,Tryz.ntmps173
     go_wp2_with fail
     go_quiet (fail)
     go_wp2_with fail
     refine (ch _).mono ?_;clear ch;rintro e w2 ⟨rfl,hb2⟩;have HB2:Hid (Below w.heap.size w w2):=zi (HB.out _) hb2;have p2:=(hb2.cell (p:=⟨w.heap.size,1,none⟩) (World.block_lt_of_cell? _ _ c1)).trans c1;have p3:=(hb2.cell (p:=⟨w.heap.size,3,none⟩) (World.block_lt_of_cell? _ _ c3)).trans c3;have p4:=(hb2.cell (p:=⟨w.heap.size,4,none⟩) (World.block_lt_of_cell? _ _ c4)).trans c4;clear hb2 HB;go_wp2
     exact bodyPost_ret (v:=.bool false) (by simp [results,Tryz.results173,go_sem]) rfl ⟨rfl,HB2.out⟩
   ·have hs1:(s==[])=false:=by simpa using hs
    obtain rfl:R=false:=by rw [HR.out];simp_all
    clear HR
    go_enter Tryz.func173,Tryz.ntmps173
    go_wp2_with fail
    go_quiet (fail)
    go_wp2_with fail
    refine (ch _).mono ?_;clear ch;rintro e w2 ⟨rfl,hb2⟩;have HB2:Hid (Below w.heap.size w w2):=zi (HB.out _) hb2;have p2:=(hb2.cell (p:=⟨w.heap.size,1,none⟩) (World.block_lt_of_cell? _ _ c1)).trans c1;have p3:=(hb2.cell (p:=⟨w.heap.size,3,none⟩) (World.block_lt_of_cell? _ _ c3)).trans c3;have p4:=(hb2.cell (p:=⟨w.heap.size,4,none⟩) (World.block_lt_of_cell? _ _ c4)).trans c4;clear hb2 HB;go_wp2
    exact bodyPost_ret (v:=.bool false) (by simp [results,Tryz.results173,go_sem]) rfl ⟨rfl,HB2.out⟩
 by_cases hk5:k=5
 ·subst hk5
  cases H with
  | false =>
   obtain rfl:R=false:=by rw [HR.out];simp_all
   clear HR
   go_enter Tryz.func173,Tryz.ntmps173
   go_wp2_with fail
   go_quiet (fail)
   go_wp2_with fail
   refine (ch _).mono ?_;clear ch;rintro e w2 ⟨rfl,hb2⟩;have HB2:Hid (Below w.heap.size w w2):=zi (HB.out _) hb2;have p2:=(hb2.cell (p:=⟨w.heap.size,1,none⟩) (World.block_lt_of_cell? _ _ c1)).trans c1;have p3:=(hb2.cell (p:=⟨w.heap.size,3,none⟩) (World.block_lt_of_cell? _ _ c3)).trans c3;have p4:=(hb2.cell (p:=⟨w.heap.size,4,none⟩) (World.block_lt_of_cell? _ _ c4)).trans c4;clear hb2 HB;go_wp2
   exact bodyPost_ret (v:=.bool false) (by simp [results,Tryz.results173,go_sem]) rfl ⟨rfl,HB2.out⟩
  | true =>
   by_cases hs:s=[]
   ·subst hs
    by_cases hml:ml=0
    ·subst hml
     obtain rfl:R=true:=by rw [HR.out];simp_all
     clear HR
     go_enter Tryz.func173,Tryz.ntmps173
     go_wp2_with fail
     go_quiet (fail)
     go_wp2_with fail
     refine (ch _).mono ?_;clear ch;rintro e w2 ⟨rfl,hb2⟩;have HB2:Hid (Below w.heap.size w w2):=zi (HB.out _) hb2;have p2:=(hb2.cell (p:=⟨w.heap.size,1,none⟩) (World.block_lt_of_cell? _ _ c1)).trans c1;have p3:=(hb2.cell (p:=⟨w.heap.size,3,none⟩) (World.block_lt_of_cell? _ _ c3)).trans c3;have p4:=(hb2.cell (p:=⟨w.heap.size,4,none⟩) (World.block_lt_of_cell? _ _ c4)).trans c4;clear hb2 HB;go_wp2
     exact bodyPost_ret (v:=.bool true) (by simp [results,Tryz.results173,go_sem]) rfl ⟨rfl,HB2.out⟩
    ·have hmlI:((ml:Int)==0)=false:=by rw [beq_eq_false_iff_ne];omega
     have hmlN:(ml==0)=false:=by rw [beq_eq_false_iff_ne];exact hml
     obtain rfl:R=false:=by rw [HR.out];simp_all
     clear HR
     go_enter Tryz.func173,Tryz.ntmps173
     go_wp2_with fail
     go_quiet (fail)
     go_wp2_with fail
     refine (ch _).mono ?_;clear ch;rintro e w2 ⟨rfl,hb2⟩;have HB2:Hid (Below w.heap.size w w2):=zi (HB.out _) hb2;have p2:=(hb2.cell (p:=⟨w.heap.size,1,none⟩) (World.block_lt_of_cell? _ _ c1)).trans c1;have p3:=(hb2.cell (p:=⟨w.heap.size,3,none⟩) (World.block_lt_of_cell? _ _ c3)).trans c3;have p4:=(hb2.cell (p:=⟨w.heap.size,4,none⟩) (World.block_lt_of_cell? _ _ c4)).trans c4;clear hb2 HB;go_wp2
     exact bodyPost_ret (v:=.bool false) (by simp [results,Tryz.results173,go_sem]) rfl ⟨rfl,HB2.out⟩
   ·have hs1:(s==[])=false:=by simpa using hs
    obtain rfl:R=false:=by rw [HR.out];simp_all
    clear HR
    go_enter Tryz.func173,Tryz.ntmps173
    go_wp2_with fail
    go_quiet (fail)
    go_wp2_with fail
    refine (ch _).mono ?_;clear ch;rintro e w2 ⟨rfl,hb2⟩;have HB2:Hid (Below w.heap.size w w2):=zi (HB.out _) hb2;have p2:=(hb2.cell (p:=⟨w.heap.size,1,none⟩) (World.block_lt_of_cell? _ _ c1)).trans c1;have p3:=(hb2.cell (p:=⟨w.heap.size,3,none⟩) (World.block_lt_of_cell? _ _ c3)).trans c3;have p4:=(hb2.cell (p:=⟨w.heap.size,4,none⟩) (World.block_lt_of_cell? _ _ c4)).trans c4;clear hb2 HB;go_wp2
    exact bodyPost_ret (v:=.bool false) (by simp [results,Tryz.results173,go_sem]) rfl ⟨rfl,HB2.out⟩
 have f1:(k==1)=false:=by simpa using hk1
 have f3:(k==3)=false:=by simpa using hk3
 have f4:(k==4)=false:=by simpa using hk4
 have f5:(k==5)=false:=by simpa using hk5
 clear hk1 hk3 hk4 hk5;cases H with
 | false =>
  obtain rfl:R=false:=by rw [HR.out];simp_all
  clear HR
  go_enter Tryz.func173,Tryz.ntmps173
  go_wp2_with fail
  go_quiet (fail)
  go_wp2_with fail
  refine (ch _).mono ?_;clear ch;rintro e w2 ⟨rfl,hb2⟩;have HB2:Hid (Below w.heap.size w w2):=zi (HB.out _) hb2;have p2:=(hb2.cell (p:=⟨w.heap.size,1,none⟩) (World.block_lt_of_cell? _ _ c1)).trans c1;have p3:=(hb2.cell (p:=⟨w.heap.size,3,none⟩) (World.block_lt_of_cell? _ _ c3)).trans c3;have p4:=(hb2.cell (p:=⟨w.heap.size,4,none⟩) (World.block_lt_of_cell? _ _ c4)).trans c4;clear hb2 HB;go_wp2
  exact bodyPost_ret (v:=.bool false) (by simp [results,Tryz.results173,go_sem]) rfl ⟨rfl,HB2.out⟩
 | true =>
  by_cases hs:s=[]
  ·subst hs
   by_cases hmb:mb=0
   ·subst hmb
    by_cases hml:ml=0
    ·subst hml
     obtain rfl:R=true:=by rw [HR.out];simp_all
     clear HR
     go_enter Tryz.func173,Tryz.ntmps173
     go_wp2_with fail
     go_quiet (fail)
     go_wp2_with fail
     refine (ch _).mono ?_;clear ch;rintro e w2 ⟨rfl,hb2⟩;have HB2:Hid (Below w.heap.size w w2):=zi (HB.out _) hb2;have p2:=(hb2.cell (p:=⟨w.heap.size,1,none⟩) (World.block_lt_of_cell? _ _ c1)).trans c1;have p3:=(hb2.cell (p:=⟨w.heap.size,3,none⟩) (World.block_lt_of_cell? _ _ c3)).trans c3;have p4:=(hb2.cell (p:=⟨w.heap.size,4,none⟩) (World.block_lt_of_cell? _ _ c4)).trans c4;clear hb2 HB;go_wp2
     exact bodyPost_ret (v:=.bool true) (by simp [results,Tryz.results173,go_sem]) rfl ⟨rfl,HB2.out⟩
    ·have hmlI:((ml:Int)==0)=false:=by rw [beq_eq_false_iff_ne];omega
     have hmlN:(ml==0)=false:=by rw [beq_eq_false_iff_ne];exact hml
     obtain rfl:R=false:=by rw [HR.out];simp_all
     clear HR
     go_enter Tryz.func173,Tryz.ntmps173
     go_wp2_with fail
     go_quiet (fail)
     go_wp2_with fail
     refine (ch _).mono ?_;clear ch;rintro e w2 ⟨rfl,hb2⟩;have HB2:Hid (Below w.heap.size w w2):=zi (HB.out _) hb2;have p2:=(hb2.cell (p:=⟨w.heap.size,1,none⟩) (World.block_lt_of_cell? _ _ c1)).trans c1;have p3:=(hb2.cell (p:=⟨w.heap.size,3,none⟩) (World.block_lt_of_cell? _ _ c3)).trans c3;have p4:=(hb2.cell (p:=⟨w.heap.size,4,none⟩) (World.block_lt_of_cell? _ _ c4)).trans c4;clear hb2 HB;go_wp2
     exact bodyPost_ret (v:=.bool false) (by simp [results,Tryz.results173,go_sem]) rfl ⟨rfl,HB2.out⟩
   ·have hmbI:((mb:Int)==0)=false:=by rw [beq_eq_false_iff_ne];omega
    have hmbN:(mb==0)=false:=by rw [beq_eq_false_iff_ne];exact hmb
    obtain rfl:R=false:=by rw [HR.out];simp_all
    clear HR
    go_enter Tryz.func173,Tryz.ntmps173
    go_wp2_with fail
    go_quiet (fail)
    go_wp2_with fail
    refine (ch _).mono ?_;clear ch;rintro e w2 ⟨rfl,hb2⟩;have HB2:Hid (Below w.heap.size w w2):=zi (HB.out _) hb2;have p2:=(hb2.cell (p:=⟨w.heap.size,1,none⟩) (World.block_lt_of_cell? _ _ c1)).trans c1;have p3:=(hb2.cell (p:=⟨w.heap.size,3,none⟩) (World.block_lt_of_cell? _ _ c3)).trans c3;have p4:=(hb2.cell (p:=⟨w.heap.size,4,none⟩) (World.block_lt_of_cell? _ _ c4)).trans c4;clear hb2 HB;go_wp2
    exact bodyPost_ret (v:=.bool false) (by simp [results,Tryz.results173,go_sem]) rfl ⟨rfl,HB2.out⟩
  ·have hs1:(s==[])=false:=by simpa using hs
   obtain rfl:R=false:=by rw [HR.out];simp_all
   clear HR
   go_enter Tryz.func173,Tryz.ntmps173
   go_wp2_with fail
   go_quiet (fail)
   go_wp2_with fail
   refine (ch _).mono ?_;clear ch;rintro e w2 ⟨rfl,hb2⟩;have HB2:Hid (Below w.heap.size w w2):=zi (HB.out _) hb2;have p2:=(hb2.cell (p:=⟨w.heap.size,1,none⟩) (World.block_lt_of_cell? _ _ c1)).trans c1;have p3:=(hb2.cell (p:=⟨w.heap.size,3,none⟩) (World.block_lt_of_cell? _ _ c3)).trans c3;have p4:=(hb2.cell (p:=⟨w.heap.size,4,none⟩) (World.block_lt_of_cell? _ _ c4)).trans c4;clear hb2 HB;go_wp2
   exact bodyPost_ret (v:=.bool false) (by simp [results,Tryz.results173,go_sem]) rfl ⟨rfl,HB2.out⟩
theorem zcR {P:Program} {l:List Oper} {Q:Exit→Act→World→Prop} {S:World→Prop} {id:Nat} {a:Act} {w:World} {n:Nat} {listed:Array Bool} (hm:P.follows .mixedOrders=true) (hn:n=l.length) (hL:listed=Array.replicate n false)
  (h:wpAnyH P .any l.toArray Q S n listed a w.drew):(Code.region id l.toArray true).wp P Q a w:=by
 subst hn hL;refine wp_region_held (S:=S) hm ?_;rw [show l.toArray.size=l.length by simp]
 exact h
theorem zet {P:Program} {md:Region.Mode} {l:List Oper} {Q:Exit→Act→World→Prop} {S:World→Prop} {listed:Array Bool} {fuel:Nat} {a:Act} {w:World} (hr:Region.ready md l.toArray listed=[]) (h:Q .normal a w):wpAnyH P md l.toArray Q S fuel listed a w :=
 wpAnyH_done hr h _
theorem Vi (w0:World) (d:Nat) (D:Int) (hD:D-1=(d:Int)) (_hD1:1≤D) (hD2:D≤24) (hX:Yx w0 d) (i:Nat) (x:Ez) (b o:Nat) (a1:Int) (a2:List UInt8) (a3:Int) (a4:Option Addr) (a5 a6:Nat) (a7:Int) (hx:ZJ w0.heap.size w0 x (Ye a1 a2 a3 a4 a5 a6 a7)) (hkid:yI w0 b (o+i*5) a1 a2 a3 a4 a5 a6 a7)
  (bw bs bd r:Nat) (me ce:Nat) (hi:i<me) (_hme:me≤140737488355328) (q:Option Nat) (t:List UInt8) (w:World) (h:zH w0 r q t w) (hcw:w.cell? ⟨bw,0,none⟩=some (.pointer (some ⟨r,0,none⟩))) (hcs:w.cell? ⟨bs,2,none⟩=some (.slice (some ⟨b,o,none⟩) me ce)) (hcd:w.cell? ⟨bd,0,none⟩=some (.int .i64 D)) (hne:∀k,k=bw∨k=bs∨k=bd→k≠r∧q≠some k) :
  Calls Tryz.prog 174 #[.int .i64 (i:Int),.pointer (some ⟨bw,0,none⟩),.pointer (some ⟨bs,0,none⟩),.pointer (some ⟨bd,0,none⟩)] w (zr w0 r q t w (prE d x)):=by
 obtain ⟨n0,n1,n2,n3,n4⟩:=hkid.now h.env;have lw:bw<w.heap.size:=World.block_lt_of_cell? w _ hcw;have ls:bs<w.heap.size:=World.block_lt_of_cell? w _ hcs;have ld:bd<w.heap.size:=World.block_lt_of_cell? w _ hcd;have hBd:Below w.heap.size w w.drew:=(Below.refl _ _).drew;have CX:=hX _ _ r q t w.drew hx (h.below hBd);have HTO:Hid (∀q4 w4,zX r q w.drew q4 w4→zX r q w q4 w4):=fun q4 w4 h4=>(zX.below hBd).trans h4
 have HKI:Hid (yI w0 b (o+i*5) a1 a2 a3 a4 a5 a6 a7):=hkid
 have HKP:Hid (∀q4 w4 p v,zX r q w q4 w4→(p.block=bw∨p.block=bs∨p.block=bd)→w.cell? p=some v→w4.cell? p=some v):=fun q4 w4 p v h4 hp hv=>by
  rw [World.cell?_of_block (h4.block p.block (by rcases hp with e | e | e <;> rw [e] <;> assumption) (hne _ hp).1 (hne _ hp).2)]
  exact hv
 generalize prE d x=X at *;have hi':(i:Int)<(me:Int):=by omega
 have hi0:(0:Int)≤(i:Int):=by omega
 have HS:Hid (∃c:y8 (fun W=>W.cell? ⟨bw,0,none⟩=some (.pointer (some ⟨r,0,none⟩))∧W.cell? ⟨bs,2,none⟩=some (.slice (some ⟨b,o,none⟩) me ce)∧W.cell? ⟨bd,0,none⟩=some (.int .i64 D)∧W.cell? ⟨b,o+i*5,none⟩=some (.int .i64 a1)∧W.cell? ⟨b,o+i*5+1,none⟩=some (.string (za a2))∧W.cell? ⟨b,o+i*5+2,none⟩=some (.int .i64 a3)∧W.cell? ⟨b,o+i*5+3,none⟩=some (.slice a4 a5 a6)∧W.cell? ⟨b,o+i*5+4,none⟩=some (.int .i64 a7)),w.drew=c.1):=⟨⟨w.drew,hcw,hcs,hcd,n0,n1,n2,n3,n4⟩,rfl⟩
 have HS2:Hid (∀q4 t4 w4,zX r q w q4 w4→zH w0 r q4 t4 w4→∃c:y8 (fun W=>W.cell? ⟨bw,0,none⟩=some (.pointer (some ⟨r,0,none⟩))∧W.cell? ⟨bs,2,none⟩=some (.slice (some ⟨b,o,none⟩) me ce)∧W.cell? ⟨bd,0,none⟩=some (.int .i64 D)∧W.cell? ⟨b,o+i*5,none⟩=some (.int .i64 a1)∧W.cell? ⟨b,o+i*5+1,none⟩=some (.string (za a2))∧W.cell? ⟨b,o+i*5+2,none⟩=some (.int .i64 a3)∧W.cell? ⟨b,o+i*5+3,none⟩=some (.slice a4 a5 a6)∧W.cell? ⟨b,o+i*5+4,none⟩=some (.int .i64 a7)),w4=c.1):=fun q4 t4 w4 h4 hw4=>by
  obtain ⟨m0,m1,m2,m3,m4⟩:=hkid.now hw4.env;exact ⟨⟨w4,HKP.out q4 w4 _ _ h4 (.inl rfl) hcw,HKP.out q4 w4 _ _ h4 (.inr (.inl rfl)) hcs,HKP.out q4 w4 _ _ h4 (.inr (.inr rfl)) hcd,m0,m1,m2,m3,m4⟩,rfl⟩
 clear hx hkid h hX hBd hne n0 n1 n2 n3 n4 hcw hcs hcd
 go_enter Tryz.func174,Tryz.ntmps174
 go_wp2_with fail
 have z1:∀c:y8 (fun W=>W.cell? ⟨bw,0,none⟩=some (.pointer (some ⟨r,0,none⟩))∧W.cell? ⟨bs,2,none⟩=some (.slice (some ⟨b,o,none⟩) me ce)∧W.cell? ⟨bd,0,none⟩=some (.int .i64 D)∧W.cell? ⟨b,o+i*5,none⟩=some (.int .i64 a1)∧W.cell? ⟨b,o+i*5+1,none⟩=some (.string (za a2))∧W.cell? ⟨b,o+i*5+2,none⟩=some (.int .i64 a3)∧W.cell? ⟨b,o+i*5+3,none⟩=some (.slice a4 a5 a6)∧W.cell? ⟨b,o+i*5+4,none⟩=some (.int .i64 a7)),c.1.cell? ⟨bw,0,none⟩=some (.pointer (some ⟨r,0,none⟩)):=fun c=>c.2.1
 have z2:∀c:y8 (fun W=>W.cell? ⟨bw,0,none⟩=some (.pointer (some ⟨r,0,none⟩))∧W.cell? ⟨bs,2,none⟩=some (.slice (some ⟨b,o,none⟩) me ce)∧W.cell? ⟨bd,0,none⟩=some (.int .i64 D)∧W.cell? ⟨b,o+i*5,none⟩=some (.int .i64 a1)∧W.cell? ⟨b,o+i*5+1,none⟩=some (.string (za a2))∧W.cell? ⟨b,o+i*5+2,none⟩=some (.int .i64 a3)∧W.cell? ⟨b,o+i*5+3,none⟩=some (.slice a4 a5 a6)∧W.cell? ⟨b,o+i*5+4,none⟩=some (.int .i64 a7)),c.1.cell? ⟨bs,2,none⟩=some (.slice (some ⟨b,o,none⟩) me ce):=fun c=>c.2.2.1
 have z3:∀c:y8 (fun W=>W.cell? ⟨bw,0,none⟩=some (.pointer (some ⟨r,0,none⟩))∧W.cell? ⟨bs,2,none⟩=some (.slice (some ⟨b,o,none⟩) me ce)∧W.cell? ⟨bd,0,none⟩=some (.int .i64 D)∧W.cell? ⟨b,o+i*5,none⟩=some (.int .i64 a1)∧W.cell? ⟨b,o+i*5+1,none⟩=some (.string (za a2))∧W.cell? ⟨b,o+i*5+2,none⟩=some (.int .i64 a3)∧W.cell? ⟨b,o+i*5+3,none⟩=some (.slice a4 a5 a6)∧W.cell? ⟨b,o+i*5+4,none⟩=some (.int .i64 a7)),c.1.cell? ⟨bd,0,none⟩=some (.int .i64 D):=fun c=>c.2.2.2.1
 have y0:∀c:y8 (fun W=>W.cell? ⟨bw,0,none⟩=some (.pointer (some ⟨r,0,none⟩))∧W.cell? ⟨bs,2,none⟩=some (.slice (some ⟨b,o,none⟩) me ce)∧W.cell? ⟨bd,0,none⟩=some (.int .i64 D)∧W.cell? ⟨b,o+i*5,none⟩=some (.int .i64 a1)∧W.cell? ⟨b,o+i*5+1,none⟩=some (.string (za a2))∧W.cell? ⟨b,o+i*5+2,none⟩=some (.int .i64 a3)∧W.cell? ⟨b,o+i*5+3,none⟩=some (.slice a4 a5 a6)∧W.cell? ⟨b,o+i*5+4,none⟩=some (.int .i64 a7)),c.1.cell? ⟨b,o+i*5,none⟩=some (.int .i64 a1):=fun c=>c.2.2.2.2.1
 have y1:∀c:y8 (fun W=>W.cell? ⟨bw,0,none⟩=some (.pointer (some ⟨r,0,none⟩))∧W.cell? ⟨bs,2,none⟩=some (.slice (some ⟨b,o,none⟩) me ce)∧W.cell? ⟨bd,0,none⟩=some (.int .i64 D)∧W.cell? ⟨b,o+i*5,none⟩=some (.int .i64 a1)∧W.cell? ⟨b,o+i*5+1,none⟩=some (.string (za a2))∧W.cell? ⟨b,o+i*5+2,none⟩=some (.int .i64 a3)∧W.cell? ⟨b,o+i*5+3,none⟩=some (.slice a4 a5 a6)∧W.cell? ⟨b,o+i*5+4,none⟩=some (.int .i64 a7)),c.1.cell? ⟨b,o+i*5+1,none⟩=some (.string (za a2)):=fun c=>c.2.2.2.2.2.1
 have y2:∀c:y8 (fun W=>W.cell? ⟨bw,0,none⟩=some (.pointer (some ⟨r,0,none⟩))∧W.cell? ⟨bs,2,none⟩=some (.slice (some ⟨b,o,none⟩) me ce)∧W.cell? ⟨bd,0,none⟩=some (.int .i64 D)∧W.cell? ⟨b,o+i*5,none⟩=some (.int .i64 a1)∧W.cell? ⟨b,o+i*5+1,none⟩=some (.string (za a2))∧W.cell? ⟨b,o+i*5+2,none⟩=some (.int .i64 a3)∧W.cell? ⟨b,o+i*5+3,none⟩=some (.slice a4 a5 a6)∧W.cell? ⟨b,o+i*5+4,none⟩=some (.int .i64 a7)),c.1.cell? ⟨b,o+i*5+2,none⟩=some (.int .i64 a3):=fun c=>c.2.2.2.2.2.2.1
 have y3:∀c:y8 (fun W=>W.cell? ⟨bw,0,none⟩=some (.pointer (some ⟨r,0,none⟩))∧W.cell? ⟨bs,2,none⟩=some (.slice (some ⟨b,o,none⟩) me ce)∧W.cell? ⟨bd,0,none⟩=some (.int .i64 D)∧W.cell? ⟨b,o+i*5,none⟩=some (.int .i64 a1)∧W.cell? ⟨b,o+i*5+1,none⟩=some (.string (za a2))∧W.cell? ⟨b,o+i*5+2,none⟩=some (.int .i64 a3)∧W.cell? ⟨b,o+i*5+3,none⟩=some (.slice a4 a5 a6)∧W.cell? ⟨b,o+i*5+4,none⟩=some (.int .i64 a7)),c.1.cell? ⟨b,o+i*5+3,none⟩=some (.slice a4 a5 a6):=fun c=>c.2.2.2.2.2.2.2.1
 have y4:∀c:y8 (fun W=>W.cell? ⟨bw,0,none⟩=some (.pointer (some ⟨r,0,none⟩))∧W.cell? ⟨bs,2,none⟩=some (.slice (some ⟨b,o,none⟩) me ce)∧W.cell? ⟨bd,0,none⟩=some (.int .i64 D)∧W.cell? ⟨b,o+i*5,none⟩=some (.int .i64 a1)∧W.cell? ⟨b,o+i*5+1,none⟩=some (.string (za a2))∧W.cell? ⟨b,o+i*5+2,none⟩=some (.int .i64 a3)∧W.cell? ⟨b,o+i*5+3,none⟩=some (.slice a4 a5 a6)∧W.cell? ⟨b,o+i*5+4,none⟩=some (.int .i64 a7)),c.1.cell? ⟨b,o+i*5+4,none⟩=some (.int .i64 a7):=fun c=>c.2.2.2.2.2.2.2.2
 refine zcR (n:=9) (S:=fun w'=>∃c:y8 (fun W=>W.cell? ⟨bw,0,none⟩=some (.pointer (some ⟨r,0,none⟩))∧W.cell? ⟨bs,2,none⟩=some (.slice (some ⟨b,o,none⟩) me ce)∧W.cell? ⟨bd,0,none⟩=some (.int .i64 D)∧W.cell? ⟨b,o+i*5,none⟩=some (.int .i64 a1)∧W.cell? ⟨b,o+i*5+1,none⟩=some (.string (za a2))∧W.cell? ⟨b,o+i*5+2,none⟩=some (.int .i64 a3)∧W.cell? ⟨b,o+i*5+3,none⟩=some (.slice a4 a5 a6)∧W.cell? ⟨b,o+i*5+4,none⟩=some (.int .i64 a7)),w'=c.1) (by kernel_rfl) rfl rfl ?_
 refine Zz (fuel:=1) (fuel':=9) (idx:=[0,1,2,3,4,5,6,7]) (by decide +kernel) rfl rfl rfl (fun _ _ d _ _ h=>by cases d <;> exact h) HS.out ?_
 show wpQuiet _ _ _ _ [_,_,_,_,_,_,_,_] _
 iterate 8 (go_big_quiet_step (exact rfl))
 refine wpQuiet_nil ?_;refine zG (fuel:=0) (fuel':=1) (i:=8) rfl (by decide +kernel) rfl rfl (by rfl) ?_
 intro K hK;go_simp;refine CX.mono ?_;clear CX;rintro e w4 ⟨q4,hto4,hp4⟩;cases X with
 | none=>subst hp4;exact ⟨rfl,q4,HTO.out _ _ hto4,rfl⟩
 | some u =>
  obtain ⟨rfl,hw4⟩:=hp4;have HP:Hid (zr w0 r q t w (some u) (.returned (.tuple #[])) w4):=⟨q4,HTO.out _ _ hto4,rfl,hw4⟩
  (try go_simp)
  refine hK.out _ _ (HS2.out q4 _ w4 (HTO.out _ _ hto4) hw4) ?_;clear hK K hto4 hw4 HS HS2 HKP HTO HKI z1 z2 z3 y0 y1 y2 y3 y4;refine zet (by decide +kernel) ?_
  go_wp2
  exact bodyPost_ret (v:=.tuple #[]) (by simp [results,Tryz.results174,go_sem]) rfl HP.out
end Go.Proofs.YtpejpbbdgblbeaaGreatDoor
