import Derived.OrdersHeld
import Derived.BigQuiet
import Derived.Deep.RegionHeld3
import Derived.WalkKit
import Derived.Below
import Derived.Test.YtpejpbbdgblbeaaGreatDoorSWStmIs
namespace Go.Proofs.YtpejpbbdgblbeaaGreatDoor
open Go Go.RowKit
set_option maxHeartbeats 16000000
set_option maxRecDepth 100000
def qQ:Op→Bool
 | .move _ | .assign _ | .pick .. | .build .. | .load .. | .binOp .. | .unOp .. | .convert .. | .makeInterface .. | .fieldAddr .. | .field .. | .indexAddr .. | .index .. | .extract .. | .slice ..=>true
 | .call c=>match c.callee with
  | .builtin .len=>true
  | _=>false
 | _=>false
theorem vM {α:Type} {P:Program} {s:Sem α} {f:α→Value} {w w':World} {n:Next} (h:(s.bind fun x=>Sem.pure (Next.value (f x))).run P w=.ok n w'):∃v,n=.value v:=by
 rw [Sem.run_bind'] at h;cases hs:s.run P w with
 | ok v w1=>rw [hs] at h;simp [Result.andThen] at h;exact ⟨f v,h.1.symm⟩
 | halt x w1=>rw [hs] at h;simp [Result.andThen] at h
theorem UG {P:Program} {o:Oper} {ρ:Operand→Value} {w w':World} {n:Next} (hp:qQ o.op=true) (h:(execOp ρ o).run P w=.ok n w'):∃v,n=.value v:=by
 unfold execOp at h
 cases ho:o.op <;> rw [ho] at hp h <;> simp only [qQ,Bool.false_eq_true] at hp <;> simp only [] at h
 case call c =>
  cases hc:c.callee with
  | builtin b =>
   rw [hc] at hp
   cases b <;> simp at hp
   simp only [resolve,hc] at h;exact vM (f:=id) h
  | value f=>rw [hc] at hp;simp at hp
  | invoke r m=>rw [hc] at hp;simp at hp
 all_goals first
  | exact vM (f:=id) h
  | exact vM h
  | (simp only [Sem.run_pure,Result.ok.injEq] at h;exact ⟨_,h.1.symm⟩)
def Ub (l:List Oper):List Nat→List Oper
 | []=>[]
 | i::is=>match l.drop i with
  | o::_=>o::Ub l is
  | []=>[]
def um (listed:Array Bool):List Nat→Array Bool
 | []=>listed
 | i::is=>um (listed.setIfInBounds i true) is
def zeZ (md:Region.Mode) (l:List Oper):List Nat→Array Bool→Bool
 | [],_=>true
 | i::is,listed=>(match l.drop i with
  | o::_=>qQ o.op
  | []=>false)&&Region.free md l.toArray listed i&&(Region.ready md l.toArray listed).contains i&&zeZ md l is (listed.setIfInBounds i true)
section
variable {P:Program} {Q:Exit→Act→World→Prop} {md:Region.Mode} {S:World→Prop} {l:List Oper}
theorem Vd {i:Nat} {o:Oper} {rest:List Oper} (h:l.drop i=o::rest):l.toArray[i]?=some o:=by
 have:(l.drop i)[0]?=some o:=by rw [h];rfl
 rw [List.getElem?_drop] at this
 simpa using this
theorem Uc (hs:Region.noSelect l.toArray=true) (hQ:∀c a d v w,Q (.panic c) (a.put d v) w→Q (.panic c) a w) (fuel:Nat) (w:World) (hS:S w) :
  ∀(idx:List Nat) (listed:Array Bool) (a:Act),zeZ md l idx listed=true →
   wpQuiet P l.toArray S (fun a'=>wpAnyH P md l.toArray Q S fuel (um listed idx) a' w) (Ub l idx) a →
   wpAnyH P md l.toArray Q S (fuel+idx.length) listed a w
 | [],_,_,_,h=>h
 | i::is,listed,a,hB,h=>by
  simp only [zeZ,Bool.and_eq_true] at hB;obtain ⟨⟨⟨y,I⟩,H⟩,A⟩:=hB;cases hd:l.drop i with
  | nil=>rw [hd] at y;simp at y
  | cons o rest =>
   rw [hd] at y;have G:=Vd hd
   have L:∃v,YieldsIf P l.toArray S o v a∧wpQuiet P l.toArray S (fun a'=>wpAnyH P md l.toArray Q S fuel (um listed (i::is)) a' w) (Ub l is) (a.put o.dst v):=by
    rw [show Ub l (i::is)=o::Ub l is by simp only [Ub,hd]] at h
    unfold wpQuiet at h
    split at h
    ·rename_i z
     obtain ⟨v,J,D⟩:=h;refine ⟨v,.inl ⟨z,fun w' hw'=>?_⟩,D⟩
     have s:=J w' hw'
     unfold Oper.quietAt at s
     cases hrun:(execOp a.eval o).run P w' with
     | ok n w2 =>
      rw [hrun] at s;obtain ⟨u,rfl⟩:=UG y hrun;obtain ⟨rfl,rfl⟩:=s
      rfl
     | halt x w2=>rw [hrun] at s;exact s.elim
    ·rename_i z
     exact ⟨undef,.inr ⟨by simpa using z,rfl⟩,h⟩
   obtain ⟨v,K,D⟩:=L;exact wpAnyH_take G hs I H (fun c a w=>hQ c a _ _ w) K hS (Uc hs hQ fuel w hS is _ _ A D)
theorem Z8 {fuel fuel':Nat} {w:World} {idx:List Nat} {l':List Oper} {listed listed':Array Bool} {a:Act} (hB:(Region.noSelect l.toArray&&zeZ md l idx listed)=true) (hf:fuel+idx.length=fuel') (hl:l'=Ub l idx) (hL:listed'=um listed idx)
  (hQ:∀c a d v w,Q (.panic c) (a.put d v) w→Q (.panic c) a w) (hS:S w) (h:wpQuiet P l.toArray S (fun a'=>wpAnyH P md l.toArray Q S fuel listed' a' w) l' a):wpAnyH P md l.toArray Q S fuel' listed a w:=by
 subst hf hl hL;rw [Bool.and_eq_true] at hB;exact Uc hB.1 hQ fuel w hS idx listed a hB.2 h
theorem Za {fuel fuel':Nat} {w:World} {i:Nat} {o:Oper} {rest:List Oper} {listed listed':Array Bool} {a:Act} (hd:l.drop i=o::rest) (hr:Region.ready md l.toArray listed=[i]) (hf:fuel+1=fuel') (hL:listed'=listed.setIfInBounds i true)
  (hw:Region.wanted o (yielded l.toArray a.tmps)=true)
  (h:∀K:Act→World→Prop,Hid (∀a' w',S w'→wpAnyH P md l.toArray Q S fuel listed' a' w'→K a' w')→o.wp P a w K Q):wpAnyH P md l.toArray Q S fuel' listed a w:=by
 subst hf hL;refine wpAnyH_all hr (by simp) fun j hj=>?_
 obtain rfl:j=i:=by simpa using hj
 have s:=h (fun a' w'=>S w'∧wpAnyH P md l.toArray Q S fuel (listed.setIfInBounds j true) a' w') fun a' w' s h2=>⟨s,h2⟩
 unfold wpOp
 rw [Vd hd];simp only [hw,if_true];exact .inl s
theorem Y3 {fuel fuel':Nat} {w:World} {i:Nat} {o:Oper} {rest:List Oper} {listed listed':Array Bool} {a:Act} (hd:l.drop i=o::rest) (hr:Region.ready md l.toArray listed=[i]) (hf:fuel+1=fuel') (hL:listed'=listed.setIfInBounds i true)
  (hw:Region.wanted o (yielded l.toArray a.tmps)=true)
  (h:∀K:Act→World→Prop,Hid (∀a' w',S w'→wpAnyH P md l.toArray Q S fuel listed' a' w'→K a' w')→if Region.wanted o (yielded l.toArray a.tmps)=true then o.wp P a w K Q else True):wpAnyH P md l.toArray Q S fuel' listed a w :=
 Za hd hr hf hL hw fun K hK=>by have:=h K hK;rwa [if_pos hw] at this
theorem yQ {listed:Array Bool} {fuel:Nat} {a:Act} {w:World} (hr:Region.ready md l.toArray listed=[]) (h:Q .normal a w):wpAnyH P md l.toArray (NoPanic Q) S fuel listed a w :=
 wpAnyH_done hr (NoPanic.normal h) _
theorem xZ {id:Nat} {a:Act} {w:World} {n:Nat} {listed:Array Bool} (hm:P.follows .mixedOrders=true) (hn:n=l.length) (hL:listed=Array.replicate n false)
  (h:wpAnyH P .any l.toArray (NoPanic Q) S n listed a w.drew):(Code.region id l.toArray true).wp P Q a w:=by
 subst hn hL;refine wp_region_noPanic (wp_region_held (S:=S) hm ?_);rw [show l.toArray.size=l.length by simp]
 exact h
end
def vN (p:World→Prop):Type:={ wx:World // p wx }
theorem x6 {P:Program} {Q:Exit→Act→World→Prop} {md:Region.Mode} {S:World→Prop} {l:List Oper} {fuel fuel':Nat} {w:World} {i k:Nat} {o o':Oper} {rest rest':List Oper} {listed li lk:Array Bool} {a:Act} (hd:l.drop i=o::rest) (hd':l.drop k=o'::rest') (hr:Region.ready md l.toArray listed=[i,k]) (hf:fuel+1=fuel') (hL:li=listed.setIfInBounds i true) (hL':lk=listed.setIfInBounds k true)
  (hw:Region.wanted o (yielded l.toArray a.tmps)=true) (hw':Region.wanted o' (yielded l.toArray a.tmps)=true)
  (h:∀K:Act→World→Prop,Hid (∀a' w',S w'→wpAnyH P md l.toArray Q S fuel li a' w'→K a' w')→o.wp P a w K Q)
  (h':∀K:Act→World→Prop,Hid (∀a' w',S w'→wpAnyH P md l.toArray Q S fuel lk a' w'→K a' w')→o'.wp P a w K Q):wpAnyH P md l.toArray Q S fuel' listed a w:=by
 subst hf hL hL';refine wpAnyH_all hr (by simp) fun j hj=>?_
 have y:j=i∨j=k:=by simpa using hj
 rcases y with rfl | rfl
 ·have s:=h (fun a' w'=>S w'∧wpAnyH P md l.toArray Q S fuel (listed.setIfInBounds j true) a' w') fun a' w' s h2=>⟨s,h2⟩
  unfold wpOp
  rw [Vd hd];simp only [hw,if_true];exact .inl s
 ·have s:=h' (fun a' w'=>S w'∧wpAnyH P md l.toArray Q S fuel (listed.setIfInBounds j true) a' w') fun a' w' s h2=>⟨s,h2⟩
  unfold wpOp
  rw [Vd hd'];simp only [hw',if_true];exact .inl s
end Go.Proofs.YtpejpbbdgblbeaaGreatDoor
namespace Go.Proofs.YtpejpbbdgblbeaaGreatDoor
open Go.RowKit Go.Shelf
set_option maxHeartbeats 16000000
set_option maxRecDepth 100000
theorem za9 {P:Program} {l:List Oper} {Q:Exit→Act→World→Prop} {S:World→Prop} {id:Nat} {a:Act} {w:World} {n:Nat} {listed:Array Bool} (hm:P.follows .mixedOrders=true) (hn:n=l.length) (hL:listed=Array.replicate n false)
  (h:wpAnyH P .any l.toArray Q S n listed a w.drew):(Code.region id l.toArray true).wp P Q a w:=by
 subst hn hL;refine wp_region_held (S:=S) hm ?_;rw [show l.toArray.size=l.length by simp]
 exact h
theorem zcC {P:Program} {md:Region.Mode} {l:List Oper} {Q:Exit→Act→World→Prop} {S:World→Prop} {listed:Array Bool} {fuel:Nat} {a:Act} {w:World} (hr:Region.ready md l.toArray listed=[]) (h:Q .normal a w):wpAnyH P md l.toArray Q S fuel listed a w :=
 wpAnyH_done hr h _
theorem XT (w0:World) (d:Nat) (D:Int) (hD:D-1=(d:Int)) (_hD1:1≤D) (hD2:D≤24) (hX:yD w0 d) (i:Nat) (x:Ez) (b o:Nat) (a1:Int) (a2:List UInt8) (a3:Int) (a4:Option Addr) (a5 a6:Nat) (a7:Int) (hx:Zs w0.heap.size w0 x (yu a1 a2 a3 a4 a5 a6 a7)) (hkid:ZX w0 b (o+i*5) a1 a2 a3 a4 a5 a6 a7)
  (bw bs bd r:Nat) (me ce:Nat) (hi:i<me) (_hme:me≤140737488355328) (q:Option Nat) (t:List UInt8) (w:World) (h:zu w0 r q t w) (hcw:w.cell? ⟨bw,0,none⟩=some (.pointer (some ⟨r,0,none⟩))) (hcs:w.cell? ⟨bs,2,none⟩=some (.slice (some ⟨b,o,none⟩) me ce)) (hcd:w.cell? ⟨bd,0,none⟩=some (.int .i64 D)) (hne:∀k,k=bw∨k=bs∨k=bd→k≠r∧q≠some k) :
  Calls Tryz.prog 174 #[.int .i64 (i:Int),.pointer (some ⟨bw,0,none⟩),.pointer (some ⟨bs,0,none⟩),.pointer (some ⟨bd,0,none⟩)] w (zk w0 r q t w (prE d x)):=by
 obtain ⟨Q,U,V,R,T⟩:=hkid.now h.env;have lw:bw<w.heap.size:=World.block_lt_of_cell? w _ hcw;have ls:bs<w.heap.size:=World.block_lt_of_cell? w _ hcs;have ld:bd<w.heap.size:=World.block_lt_of_cell? w _ hcd;have I:Below w.heap.size w w.drew:=(Below.refl _ _).drew;have O:=hX _ _ r q t w.drew hx (h.below I);have H:Hid (∀y s,zP r q w.drew y s→zP r q w y s):=fun y s h4=>(zP.below I).trans h4
 have N:Hid (ZX w0 b (o+i*5) a1 a2 a3 a4 a5 a6 a7):=hkid
 have G:Hid (∀y s p v,zP r q w y s→(p.block=bw∨p.block=bs∨p.block=bd)→w.cell? p=some v→s.cell? p=some v):=fun y s p v h4 hp hv=>by
  rw [World.cell?_of_block (h4.block p.block (by rcases hp with e | e | e <;> rw [e] <;> assumption) (hne _ hp).1 (hne _ hp).2)]
  exact hv
 generalize prE d x=X at *;have ab:(i:Int)<(me:Int):=by omega
 have aa:(0:Int)≤(i:Int):=by omega
 have Z:Hid (∃c:vN (fun W=>W.cell? ⟨bw,0,none⟩=some (.pointer (some ⟨r,0,none⟩))∧W.cell? ⟨bs,2,none⟩=some (.slice (some ⟨b,o,none⟩) me ce)∧W.cell? ⟨bd,0,none⟩=some (.int .i64 D)∧W.cell? ⟨b,o+i*5,none⟩=some (.int .i64 a1)∧W.cell? ⟨b,o+i*5+1,none⟩=some (.string (zb a2))∧W.cell? ⟨b,o+i*5+2,none⟩=some (.int .i64 a3)∧W.cell? ⟨b,o+i*5+3,none⟩=some (.slice a4 a5 a6)∧W.cell? ⟨b,o+i*5+4,none⟩=some (.int .i64 a7)),w.drew=c.1):=⟨⟨w.drew,hcw,hcs,hcd,Q,U,V,R,T⟩,rfl⟩
 have L:Hid (∀y t4 s,zP r q w y s→zu w0 r y t4 s→∃c:vN (fun W=>W.cell? ⟨bw,0,none⟩=some (.pointer (some ⟨r,0,none⟩))∧W.cell? ⟨bs,2,none⟩=some (.slice (some ⟨b,o,none⟩) me ce)∧W.cell? ⟨bd,0,none⟩=some (.int .i64 D)∧W.cell? ⟨b,o+i*5,none⟩=some (.int .i64 a1)∧W.cell? ⟨b,o+i*5+1,none⟩=some (.string (zb a2))∧W.cell? ⟨b,o+i*5+2,none⟩=some (.int .i64 a3)∧W.cell? ⟨b,o+i*5+3,none⟩=some (.slice a4 a5 a6)∧W.cell? ⟨b,o+i*5+4,none⟩=some (.int .i64 a7)),s=c.1):=fun y t4 s h4 A=>by
  obtain ⟨m0,m1,m2,m3,m4⟩:=hkid.now A.env;exact ⟨⟨s,G.out y s _ _ h4 (.inl rfl) hcw,G.out y s _ _ h4 (.inr (.inl rfl)) hcs,G.out y s _ _ h4 (.inr (.inr rfl)) hcd,m0,m1,m2,m3,m4⟩,rfl⟩
 clear hx hkid h hX I hne Q U V R T hcw hcs hcd
 go_enter Tryz.func174,Tryz.ntmps174
 go_wp2_with fail
 have z1:∀c:vN (fun W=>W.cell? ⟨bw,0,none⟩=some (.pointer (some ⟨r,0,none⟩))∧W.cell? ⟨bs,2,none⟩=some (.slice (some ⟨b,o,none⟩) me ce)∧W.cell? ⟨bd,0,none⟩=some (.int .i64 D)∧W.cell? ⟨b,o+i*5,none⟩=some (.int .i64 a1)∧W.cell? ⟨b,o+i*5+1,none⟩=some (.string (zb a2))∧W.cell? ⟨b,o+i*5+2,none⟩=some (.int .i64 a3)∧W.cell? ⟨b,o+i*5+3,none⟩=some (.slice a4 a5 a6)∧W.cell? ⟨b,o+i*5+4,none⟩=some (.int .i64 a7)),c.1.cell? ⟨bw,0,none⟩=some (.pointer (some ⟨r,0,none⟩)):=fun c=>c.2.1
 have z2:∀c:vN (fun W=>W.cell? ⟨bw,0,none⟩=some (.pointer (some ⟨r,0,none⟩))∧W.cell? ⟨bs,2,none⟩=some (.slice (some ⟨b,o,none⟩) me ce)∧W.cell? ⟨bd,0,none⟩=some (.int .i64 D)∧W.cell? ⟨b,o+i*5,none⟩=some (.int .i64 a1)∧W.cell? ⟨b,o+i*5+1,none⟩=some (.string (zb a2))∧W.cell? ⟨b,o+i*5+2,none⟩=some (.int .i64 a3)∧W.cell? ⟨b,o+i*5+3,none⟩=some (.slice a4 a5 a6)∧W.cell? ⟨b,o+i*5+4,none⟩=some (.int .i64 a7)),c.1.cell? ⟨bs,2,none⟩=some (.slice (some ⟨b,o,none⟩) me ce):=fun c=>c.2.2.1
 have z3:∀c:vN (fun W=>W.cell? ⟨bw,0,none⟩=some (.pointer (some ⟨r,0,none⟩))∧W.cell? ⟨bs,2,none⟩=some (.slice (some ⟨b,o,none⟩) me ce)∧W.cell? ⟨bd,0,none⟩=some (.int .i64 D)∧W.cell? ⟨b,o+i*5,none⟩=some (.int .i64 a1)∧W.cell? ⟨b,o+i*5+1,none⟩=some (.string (zb a2))∧W.cell? ⟨b,o+i*5+2,none⟩=some (.int .i64 a3)∧W.cell? ⟨b,o+i*5+3,none⟩=some (.slice a4 a5 a6)∧W.cell? ⟨b,o+i*5+4,none⟩=some (.int .i64 a7)),c.1.cell? ⟨bd,0,none⟩=some (.int .i64 D):=fun c=>c.2.2.2.1
 have y0:∀c:vN (fun W=>W.cell? ⟨bw,0,none⟩=some (.pointer (some ⟨r,0,none⟩))∧W.cell? ⟨bs,2,none⟩=some (.slice (some ⟨b,o,none⟩) me ce)∧W.cell? ⟨bd,0,none⟩=some (.int .i64 D)∧W.cell? ⟨b,o+i*5,none⟩=some (.int .i64 a1)∧W.cell? ⟨b,o+i*5+1,none⟩=some (.string (zb a2))∧W.cell? ⟨b,o+i*5+2,none⟩=some (.int .i64 a3)∧W.cell? ⟨b,o+i*5+3,none⟩=some (.slice a4 a5 a6)∧W.cell? ⟨b,o+i*5+4,none⟩=some (.int .i64 a7)),c.1.cell? ⟨b,o+i*5,none⟩=some (.int .i64 a1):=fun c=>c.2.2.2.2.1
 have y1:∀c:vN (fun W=>W.cell? ⟨bw,0,none⟩=some (.pointer (some ⟨r,0,none⟩))∧W.cell? ⟨bs,2,none⟩=some (.slice (some ⟨b,o,none⟩) me ce)∧W.cell? ⟨bd,0,none⟩=some (.int .i64 D)∧W.cell? ⟨b,o+i*5,none⟩=some (.int .i64 a1)∧W.cell? ⟨b,o+i*5+1,none⟩=some (.string (zb a2))∧W.cell? ⟨b,o+i*5+2,none⟩=some (.int .i64 a3)∧W.cell? ⟨b,o+i*5+3,none⟩=some (.slice a4 a5 a6)∧W.cell? ⟨b,o+i*5+4,none⟩=some (.int .i64 a7)),c.1.cell? ⟨b,o+i*5+1,none⟩=some (.string (zb a2)):=fun c=>c.2.2.2.2.2.1
 have y2:∀c:vN (fun W=>W.cell? ⟨bw,0,none⟩=some (.pointer (some ⟨r,0,none⟩))∧W.cell? ⟨bs,2,none⟩=some (.slice (some ⟨b,o,none⟩) me ce)∧W.cell? ⟨bd,0,none⟩=some (.int .i64 D)∧W.cell? ⟨b,o+i*5,none⟩=some (.int .i64 a1)∧W.cell? ⟨b,o+i*5+1,none⟩=some (.string (zb a2))∧W.cell? ⟨b,o+i*5+2,none⟩=some (.int .i64 a3)∧W.cell? ⟨b,o+i*5+3,none⟩=some (.slice a4 a5 a6)∧W.cell? ⟨b,o+i*5+4,none⟩=some (.int .i64 a7)),c.1.cell? ⟨b,o+i*5+2,none⟩=some (.int .i64 a3):=fun c=>c.2.2.2.2.2.2.1
 have y3:∀c:vN (fun W=>W.cell? ⟨bw,0,none⟩=some (.pointer (some ⟨r,0,none⟩))∧W.cell? ⟨bs,2,none⟩=some (.slice (some ⟨b,o,none⟩) me ce)∧W.cell? ⟨bd,0,none⟩=some (.int .i64 D)∧W.cell? ⟨b,o+i*5,none⟩=some (.int .i64 a1)∧W.cell? ⟨b,o+i*5+1,none⟩=some (.string (zb a2))∧W.cell? ⟨b,o+i*5+2,none⟩=some (.int .i64 a3)∧W.cell? ⟨b,o+i*5+3,none⟩=some (.slice a4 a5 a6)∧W.cell? ⟨b,o+i*5+4,none⟩=some (.int .i64 a7)),c.1.cell? ⟨b,o+i*5+3,none⟩=some (.slice a4 a5 a6):=fun c=>c.2.2.2.2.2.2.2.1
 have y4:∀c:vN (fun W=>W.cell? ⟨bw,0,none⟩=some (.pointer (some ⟨r,0,none⟩))∧W.cell? ⟨bs,2,none⟩=some (.slice (some ⟨b,o,none⟩) me ce)∧W.cell? ⟨bd,0,none⟩=some (.int .i64 D)∧W.cell? ⟨b,o+i*5,none⟩=some (.int .i64 a1)∧W.cell? ⟨b,o+i*5+1,none⟩=some (.string (zb a2))∧W.cell? ⟨b,o+i*5+2,none⟩=some (.int .i64 a3)∧W.cell? ⟨b,o+i*5+3,none⟩=some (.slice a4 a5 a6)∧W.cell? ⟨b,o+i*5+4,none⟩=some (.int .i64 a7)),c.1.cell? ⟨b,o+i*5+4,none⟩=some (.int .i64 a7):=fun c=>c.2.2.2.2.2.2.2.2
 refine za9 (n:=9) (S:=fun w'=>∃c:vN (fun W=>W.cell? ⟨bw,0,none⟩=some (.pointer (some ⟨r,0,none⟩))∧W.cell? ⟨bs,2,none⟩=some (.slice (some ⟨b,o,none⟩) me ce)∧W.cell? ⟨bd,0,none⟩=some (.int .i64 D)∧W.cell? ⟨b,o+i*5,none⟩=some (.int .i64 a1)∧W.cell? ⟨b,o+i*5+1,none⟩=some (.string (zb a2))∧W.cell? ⟨b,o+i*5+2,none⟩=some (.int .i64 a3)∧W.cell? ⟨b,o+i*5+3,none⟩=some (.slice a4 a5 a6)∧W.cell? ⟨b,o+i*5+4,none⟩=some (.int .i64 a7)),w'=c.1) (by kernel_rfl) rfl rfl ?_
 refine Z8 (fuel:=1) (fuel':=9) (idx:=[0,1,2,3,4,5,6,7]) (by decide +kernel) rfl rfl rfl (fun _ _ d _ _ h=>by cases d <;> exact h) Z.out ?_
 show wpQuiet _ _ _ _ [_,_,_,_,_,_,_,_] _
 iterate 8 (go_big_quiet_step (exact rfl))
 refine wpQuiet_nil ?_;refine Za (fuel:=0) (fuel':=1) (i:=8) rfl (by decide +kernel) rfl rfl (by rfl) ?_
 intro K Y;go_simp;refine O.mono ?_;clear O;rintro e s ⟨y,z,J⟩;cases X with
 | none=>subst J;exact ⟨rfl,y,H.out _ _ z,rfl⟩
 | some u =>
  obtain ⟨rfl,A⟩:=J;have HP:Hid (zk w0 r q t w (some u) (.returned (.tuple #[])) s):=⟨y,H.out _ _ z,rfl,A⟩
  (try go_simp)
  refine Y.out _ _ (L.out y _ s (H.out _ _ z) A) ?_;clear Y K z A Z L G H N z1 z2 z3 y0 y1 y2 y3 y4;refine zcC (by decide +kernel) ?_
  go_wp2
  exact bodyPost_ret (v:=.tuple #[]) (by simp [results,Tryz.results174,go_sem]) rfl HP.out
end Go.Proofs.YtpejpbbdgblbeaaGreatDoor
