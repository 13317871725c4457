import Derived.OrdersHeld
import Derived.BigQuiet
import Derived.Deep.RegionHeld3
import Derived.WalkKit
import Derived.Below
import Derived.Test.YtcphojjpapgblaaGreatDoorMC22
import Derived.Deep.DeepCutAuto
namespace Go.Proofs.YtcphojjpapgblaaGreatDoor
open Go Go.RowKit
set_option maxHeartbeats 16000000
set_option maxRecDepth 100000
def Q5:Op→Bool
 | .move _ | .assign _ | .pick .. | .build .. | .load .. | .binOp .. | .unOp .. | .convert .. | .makeInterface .. | .fieldAddr .. | .field .. | .indexAddr .. | .index .. | .extract .. | .slice ..=>true
 | .call c=>match c.callee with
  | .builtin .len=>true
  | _=>false
 | _=>false
theorem Vi {α:Type} {P:Program} {s:Sem α} {f:α→Value} {w w':World} {n:Next} (h:(s.bind fun x=>Sem.pure (Next.value (f x))).run P w=.ok n w'):∃v,n=.value v:=by
 rw [Sem.run_bind'] at h;cases hs:s.run P w with
 | ok v w1=>rw [hs] at h;simp [Result.andThen] at h;exact ⟨f v,h.1.symm⟩
 | halt x w1=>rw [hs] at h;simp [Result.andThen] at h
theorem qH {P:Program} {o:Oper} {ρ:Operand→Value} {w w':World} {n:Next} (hp:Q5 o.op=true) (h:(execOp ρ o).run P w=.ok n w'):∃v,n=.value v:=by
 unfold execOp at h
 cases ho:o.op <;> rw [ho] at hp h <;> simp only [Q5,Bool.false_eq_true] at hp <;> simp only [] at h
 case call c =>
  cases hc:c.callee with
  | builtin b =>
   rw [hc] at hp
   cases b <;> simp at hp
   simp only [resolve,hc] at h;exact Vi (f:=id) h
  | value f=>rw [hc] at hp;simp at hp
  | invoke r m=>rw [hc] at hp;simp at hp
 all_goals first
  | exact Vi (f:=id) h
  | exact Vi h
  | (simp only [Sem.run_pure,Result.ok.injEq] at h;exact ⟨_,h.1.symm⟩)
def UF (l:List Oper):List Nat→List Oper
 | []=>[]
 | i::is=>match l.drop i with
  | o::_=>o::UF l is
  | []=>[]
def Uh (listed:Array Bool):List Nat→Array Bool
 | []=>listed
 | i::is=>Uh (listed.setIfInBounds i true) is
def zgP (md:Region.Mode) (l:List Oper):List Nat→Array Bool→Bool
 | [],_=>true
 | i::is,listed=>(match l.drop i with
  | o::_=>Q5 o.op
  | []=>false)&&Region.free md l.toArray listed i&&(Region.ready md l.toArray listed).contains i&&zgP md l is (listed.setIfInBounds i true)
section
variable {P:Program} {Q:Exit→Act→World→Prop} {md:Region.Mode} {S:World→Prop} {l:List Oper}
theorem VG {i:Nat} {o:Oper} {rest:List Oper} (h:l.drop i=o::rest):l.toArray[i]?=some o:=by
 have:(l.drop i)[0]?=some o:=by rw [h];rfl
 rw [List.getElem?_drop] at this
 simpa using this
theorem UG (hs:Region.noSelect l.toArray=true) (hQ:∀c a d v w,Q (.panic c) (a.put d v) w→Q (.panic c) a w) (fuel:Nat) (w:World) (hS:S w) :
  ∀(idx:List Nat) (listed:Array Bool) (a:Act),zgP md l idx listed=true →
   wpQuiet P l.toArray S (fun a'=>wpAnyH P md l.toArray Q S fuel (Uh listed idx) a' w) (UF l idx) a →
   wpAnyH P md l.toArray Q S (fuel+idx.length) listed a w
 | [],_,_,_,h=>h
 | i::is,listed,a,hB,h=>by
  simp only [zgP,Bool.and_eq_true] at hB;obtain ⟨⟨⟨z,J⟩,L⟩,D⟩:=hB;cases hd:l.drop i with
  | nil=>rw [hd] at z;simp at z
  | cons o rest =>
   rw [hd] at z;have I:=VG hd
   have H:∃v,YieldsIf P l.toArray S o v a∧wpQuiet P l.toArray S (fun a'=>wpAnyH P md l.toArray Q S fuel (Uh listed (i::is)) a' w) (UF l is) (a.put o.dst v):=by
    rw [show UF l (i::is)=o::UF l is by simp only [UF,hd]] at h
    unfold wpQuiet at h
    split at h
    ·rename_i A
     obtain ⟨v,O,G⟩:=h;refine ⟨v,.inl ⟨A,fun w' hw'=>?_⟩,G⟩
     have y:=O w' hw'
     unfold Oper.quietAt at y
     cases hrun:(execOp a.eval o).run P w' with
     | ok n w2 =>
      rw [hrun] at y;obtain ⟨u,rfl⟩:=qH z hrun;obtain ⟨rfl,rfl⟩:=y
      rfl
     | halt x w2=>rw [hrun] at y;exact y.elim
    ·rename_i A
     exact ⟨undef,.inr ⟨by simpa using A,rfl⟩,h⟩
   obtain ⟨v,N,G⟩:=H;exact wpAnyH_take I hs J L (fun c a w=>hQ c a _ _ w) N hS (UG hs hQ fuel w hS is _ _ D G)
theorem yA {fuel fuel':Nat} {w:World} {idx:List Nat} {l':List Oper} {listed listed':Array Bool} {a:Act} (hB:(Region.noSelect l.toArray&&zgP md l idx listed)=true) (hf:fuel+idx.length=fuel') (hl:l'=UF l idx) (hL:listed'=Uh listed idx)
  (hQ:∀c a d v w,Q (.panic c) (a.put d v) w→Q (.panic c) a w) (hS:S w) (h:wpQuiet P l.toArray S (fun a'=>wpAnyH P md l.toArray Q S fuel listed' a' w) l' a):wpAnyH P md l.toArray Q S fuel' listed a w:=by
 subst hf hl hL;rw [Bool.and_eq_true] at hB;exact UG hB.1 hQ fuel w hS idx listed a hB.2 h
theorem Zi {fuel fuel':Nat} {w:World} {i:Nat} {o:Oper} {rest:List Oper} {listed listed':Array Bool} {a:Act} (hd:l.drop i=o::rest) (hr:Region.ready md l.toArray listed=[i]) (hf:fuel+1=fuel') (hL:listed'=listed.setIfInBounds i true)
  (hw:Region.wanted o (yielded l.toArray a.tmps)=true)
  (h:∀K:Act→World→Prop,Hid (∀a' w',S w'→wpAnyH P md l.toArray Q S fuel listed' a' w'→K a' w')→o.wp P a w K Q):wpAnyH P md l.toArray Q S fuel' listed a w:=by
 subst hf hL;refine wpAnyH_all hr (by simp) fun j hj=>?_
 obtain rfl:j=i:=by simpa using hj
 have y:=h (fun a' w'=>S w'∧wpAnyH P md l.toArray Q S fuel (listed.setIfInBounds j true) a' w') fun a' w' y h2=>⟨y,h2⟩
 unfold wpOp
 rw [VG hd];simp only [hw,if_true];exact .inl y
theorem xe {fuel fuel':Nat} {w:World} {i:Nat} {o:Oper} {rest:List Oper} {listed listed':Array Bool} {a:Act} (hd:l.drop i=o::rest) (hr:Region.ready md l.toArray listed=[i]) (hf:fuel+1=fuel') (hL:listed'=listed.setIfInBounds i true)
  (hw:Region.wanted o (yielded l.toArray a.tmps)=true)
  (h:∀K:Act→World→Prop,Hid (∀a' w',S w'→wpAnyH P md l.toArray Q S fuel listed' a' w'→K a' w')→if Region.wanted o (yielded l.toArray a.tmps)=true then o.wp P a w K Q else True):wpAnyH P md l.toArray Q S fuel' listed a w :=
 Zi hd hr hf hL hw fun K hK=>by have:=h K hK;rwa [if_pos hw] at this
theorem Yg {listed:Array Bool} {fuel:Nat} {a:Act} {w:World} (hr:Region.ready md l.toArray listed=[]) (h:Q .normal a w):wpAnyH P md l.toArray (NoPanic Q) S fuel listed a w :=
 wpAnyH_done hr (NoPanic.normal h) _
theorem vC {id:Nat} {a:Act} {w:World} {n:Nat} {listed:Array Bool} (hm:P.follows .mixedOrders=true) (hn:n=l.length) (hL:listed=Array.replicate n false)
  (h:wpAnyH P .any l.toArray (NoPanic Q) S n listed a w.drew):(Code.region id l.toArray true).wp P Q a w:=by
 subst hn hL;refine wp_region_noPanic (wp_region_held (S:=S) hm ?_);rw [show l.toArray.size=l.length by simp]
 exact h
end
def Vj (p:World→Prop):Type:={ wx:World // p wx }
theorem Xh {P:Program} {Q:Exit→Act→World→Prop} {md:Region.Mode} {S:World→Prop} {l:List Oper} {fuel fuel':Nat} {w:World} {i k:Nat} {o o':Oper} {rest rest':List Oper} {listed li lk:Array Bool} {a:Act} (hd:l.drop i=o::rest) (hd':l.drop k=o'::rest') (hr:Region.ready md l.toArray listed=[i,k]) (hf:fuel+1=fuel') (hL:li=listed.setIfInBounds i true) (hL':lk=listed.setIfInBounds k true)
  (hw:Region.wanted o (yielded l.toArray a.tmps)=true) (hw':Region.wanted o' (yielded l.toArray a.tmps)=true)
  (h:∀K:Act→World→Prop,Hid (∀a' w',S w'→wpAnyH P md l.toArray Q S fuel li a' w'→K a' w')→o.wp P a w K Q)
  (h':∀K:Act→World→Prop,Hid (∀a' w',S w'→wpAnyH P md l.toArray Q S fuel lk a' w'→K a' w')→o'.wp P a w K Q):wpAnyH P md l.toArray Q S fuel' listed a w:=by
 subst hf hL hL';refine wpAnyH_all hr (by simp) fun j hj=>?_
 have z:j=i∨j=k:=by simpa using hj
 rcases z with rfl | rfl
 ·have y:=h (fun a' w'=>S w'∧wpAnyH P md l.toArray Q S fuel (listed.setIfInBounds j true) a' w') fun a' w' y h2=>⟨y,h2⟩
  unfold wpOp
  rw [VG hd];simp only [hw,if_true];exact .inl y
 ·have y:=h' (fun a' w'=>S w'∧wpAnyH P md l.toArray Q S fuel (listed.setIfInBounds j true) a' w') fun a' w' y h2=>⟨y,h2⟩
  unfold wpOp
  rw [VG hd'];simp only [hw',if_true];exact .inl y
end Go.Proofs.YtcphojjpapgblaaGreatDoor
namespace Go.Proofs.YtcphojjpapgblaaGreatDoor
open Go.RowKit Go.Shelf
set_option maxHeartbeats 16000000
set_option maxRecDepth 100000
theorem Zf.ofBlock {α:Type} {E:(Nat→Prop)→World→α→List Value→Prop} {sz ty B g:Nat} {w:World} {x:α} {c:List Value} (hb:w.heap[g]?=some (.cells c.toArray ty (0,0))) (hc:c.length=sz) (hB:B≤g) (hx:E (fun k=>B≤k∧k≠g) w x c) :
  Zf E sz ty B w [x] (.slice (some ⟨g,0,none⟩) 1 1) g 1 [c] where
 val:=rfl
 ne:=by simp
 own:=by
  refine ⟨by simp [hc],.inr ⟨g,1,c.toArray,rfl,hB,hb,Nat.le_refl _,by simp [maxLen],by simp [hc],?_⟩⟩
  simp [hc,List.take_of_length_le]
 len:=rfl
 wid:=by simp [hc]
 kids:=fun j y d hy hd=>by
  cases j with
  | succ j=>simp at hy
  | zero =>
   simp only [List.getElem?_cons_zero,Option.some.injEq] at hy hd;subst hy hd;exact hx
theorem ye {P:Program} {ops:Array Oper} {o:Oper} {a:Act} {w:World} {K:Act→World→Prop} {Q:Exit→Act→World→Prop} {E:Prop} (s x:Operand) (t:TypeId)
  (ho:o.op=.call { callee:=.builtin .append,args:=#[s,x],argTypes:=#[t,t] }) (hw:Region.wanted o (yielded ops a.tmps)=true)
  (base:Nat) (e:TypeId) (i:TypeInfo) (z:Value) (size bytes:Nat) (ht:P.underlying t=some (.slice e)) (hi:P.info? e=some i) (hz:i.zero=some z)
  (hsize:i.size=size) (hby:i.bytes=bytes) (hzs:z.cells.size=size) (hsz:0<size)
  (v:Value) (n:Nat) (xs:List Value) (hs:a.eval s=v) (hown:w.ownsRow base e size v n xs)
  (ad:Addr) (m c:Nat) (news:List Value) (hx:a.eval x=.slice (some ad) m c) (hl:news.length=m*size) (hnews:∀j u,news[j]?=some u→w.cell? (ad.add j)=some u) (h1:∀u∈news,u.oneCell'=true)
  (h63:n+m≤maxLen) (hbytes:(n+m)*bytes≤140737488355328) (hbase:base≤w.heap.size)
  (h:∀y w',w'.ownsRow base e size y (n+m) (xs++news)→w.grownBy w' v.ownBlock→(y.ownBlock=v.ownBlock∨y.ownBlock=some w.heap.size)→K (a.put o.dst y) w') :
  if Region.wanted o (yielded ops a.tmps)=true then Oper.wp P o a w K Q else E:=by
 rw [if_pos hw];obtain ⟨y,w',A,G,H,-,D⟩:=run_append_own_at (P:=P) w base t o.type e i z size bytes ht hi hz hsize hby hzs hsz v n xs hown ad m c news hl hnews h1 h63 hbytes hbase
 unfold Oper.wp
 simp [execOp,ho,resolve,invoke,builtin,hs,hx,A,Result.andThen]
 exact h y w' G H D
def ExP (P:Nat) (S:Nat→Prop) (w:World) (x:Ex) (c:List Value):Prop:=ExE (fun k=>S k∧k≠P) w x c
theorem zgQ (P:Nat):Z5 (ExP P):=⟨fun h hs hb=>Y9.kept h hs fun k hk hlt=>hb k hk.1 hlt,fun h hS=>Y9.wide h fun k hk=>⟨hS k hk.1,hk.2⟩,fun h=>Y9.wide (Y9.low h) fun _ hk=>⟨⟨hk.1.1,hk.2⟩,hk.1.2⟩⟩
theorem Zf.rowP {P ty B:Nat} {w:World} {l:List Ex} {v:Value} {g cap:Nat} {us:List (List Value)} (h:Zf (ExP P) 5 ty B w l v g cap us) (hg:g≠P):zK (fun k=>B≤k∧k≠P) w l v:=by
 have o:=h.block;refine .inr ⟨g,cap,us,h.val,h.ne,h.len,⟨o.1,hg⟩,o.2.1,o.2.2.1,o.2.2.2,fun j u hj=>?_,h.wid,fun j x c y hc=>zX.wide (h.kids j x c y hc) fun k hk=>⟨hk.1.1,hk.2⟩⟩
 have y:=h.own.cells (g:=g) (by rw [h.val];rfl) j u hj
 by_cases h0:j=0
 ·subst h0;simpa [Addr.add] using y
 ·simpa [Addr.add,h0] using y
def UH (r g:Nat) (w:World) (B P:Nat) (x x2:Ex) (us:List Tk) (wx:World):Prop :=
 ∃o7 cap7 g' cap',zc r w wx∧wx.heap[w.heap.size]?=some xw∧wx.heap[P]?=some (XB 2 ⟨#[]⟩ (.slice (some ⟨g',0,none⟩) 2 cap') (.slice none 0 0) (.slice none 0 0) 0)∧zK (fun k=>B≤k) wx [x,x2] (.slice (some ⟨g',0,none⟩) 2 cap')∧zf r g o7 cap7 us wx
theorem zci {r g P B Rg o7 cap7:Nat} {w w6 w7 w9:World} {x x2:Ex} {c1 c2:List Value} {us:List Tk} {v':Value} {ob:Obj} (hK6:zc r w w6) (b6:w6.heap[w.heap.size]?=some xw) (p6:w6.heap[P]?=some (XB 2 ⟨#[]⟩ (.slice (some ⟨Rg,0,none⟩) 1 1) (.slice none 0 0) (.slice none 0 0) 0)) (r6:w6.heap[Rg]?=some (.cells c1.toArray 45 (0,0)))
  (hx6:zX (fun k=>B≤k∧k<Rg) w6 x (.agg c1.toArray)) (hc1:c1.length=5) (hBw:w.heap.size<B) (hBR:B≤Rg) (hRP:Rg+1=P) (hP:P<w6.heap.size) (hr:r<w.heap.size) (hg:g<w.heap.size) (hk7:zc r w6 w7) (hx7:ZI w6.heap.size w7 x2 (.agg c2.toArray)) (hc2:c2.length=5) (hrd7:zf r g o7 cap7 us w7)
  (ho:w9.ownsRow B 45 5 v' (1+1) (c1++c2)) (hgr:(w7.alloc ob).grownBy w9 (some Rg)) (hat:v'.ownBlock=some Rg∨v'.ownBlock=some (w7.alloc ob).heap.size):UH r g w B P x x2 us (w9.setCell ⟨P,2,none⟩ v'):=by
 have H:=hk7.size
 have y:Zf (ExP P) 5 45 B w7 [x] (.slice (some ⟨Rg,0,none⟩) 1 1) Rg 1 [c1] :=
  Zf.ofBlock ((hk7.block Rg (by omega) (by omega)).trans r6) hc1 hBR (zX.wide (hx6.kept hk7.size fun k hk hlt=>hk7.block k hlt (by omega)) fun k hk=>⟨⟨hk.1,by omega⟩,by omega⟩)
 obtain ⟨J,A,o,G⟩:=y.snoc (zgQ P) (x:=x2) (c:=c2) (ob:=ob) (zX.wide hx7 fun k hk=>⟨⟨by omega,by omega⟩,by omega⟩) hc2 (by simpa using ho) hgr hat
 have z:=o.val;simp only [List.cons_append,List.nil_append,List.length_cons,List.length_nil,Nat.zero_add] at z;subst z;have h:∀k,k≠Rg→k<w7.heap.size→w9.heap[k]?=w7.heap[k]?:=fun k hk hlt=>(hgr.block k (by simp;omega) (by simpa using hk)).trans (Below.heap_alloc _ _ _ hlt)
 have D:w9.heap[P]?=some (XB 2 ⟨#[]⟩ (.slice (some ⟨Rg,0,none⟩) 1 1) (.slice none 0 0) (.slice none 0 0) 0):=(h P (by omega) (by omega)).trans ((hk7.block P hP (by omega)).trans p6)
 have I:zc r w w9:=((hK6.trans hk7).alloc ob).grown hgr fun k hk=>by have:=Option.some.inj hk;omega
 refine ⟨o7,cap7,J,A,I.setOther (by simp;omega) _,?_,zo _ D,?_,?_⟩
 ·rw [Below.heap_setCell _ _ _ _ (by simp;omega)]
  exact (h w.heap.size (by omega) (by omega)).trans ((hk7.block _ (by omega) (by omega)).trans b6)
 ·exact ((o.rowP (by omega)).setP _ fun k hk=>hk.2).wide fun k hk=>hk.1
 ·exact (hrd7.keep (h r (by omega) (by omega)) (h g (by omega) (by omega))).setP _ (by omega) (by omega)
theorem zd9 (r g o cap F:Nat) (ts:List Tk) (w:World) (R:PR St) (h:zf r g o cap ts w) (hE:zi ts) (hp:setP F ts 0=some R)
  (hex:∀z o1 D ts1 r1,zg F 1 ts1=some r1→zi ts1→zf r g o1 D ts1 z→zc r w z→Calls Tryz.prog 42 #[.pointer (some ⟨r,0,none⟩)] z (zJ r g z r1)) :
  Calls Tryz.prog 167 #[.pointer (some ⟨r,0,none⟩)] w (ZF r g w R):=by
 obtain ⟨i0,aY,a3,a4,aX⟩:=info_parts Qh;obtain ⟨t0,a0,rfl⟩:=hE.cons;have hr:=h.lt.1;have ax:=h.lt.2
 unfold setP at hp
 obtain ⟨w0,aw⟩:∃w0,w0=w.alloc xw:=⟨_,rfl⟩;have h0:zf r g o cap (t0::a0) w0:=by rw [aw];exact h.alloc _
 have k0:zc r w w0:=by rw [aw];exact (zc.refl r w).alloc _
 have b0:w0.heap[w.heap.size]?=some xw:=by rw [aw];exact World.alloc_heap_new _ _
 have bh:w0.heap.size=w.heap.size+1:=by rw [aw];simp
 have bf:Hid (w0=w.alloc xw):=aw;have bz:Hid (∀z o1 D ts1 r1,zg F 1 ts1=some r1→zi ts1→zf r g o1 D ts1 z→zc r w z→Calls Tryz.prog 42 #[.pointer (some ⟨r,0,none⟩)] z (zJ r g z r1)):=hex;cases hb1:zg F 1 (t0::a0) with
 | none=>rw [hb1] at hp;cases hp
 | some r1 =>
  have ce:=hex w0 o cap (t0::a0) r1 hb1 hE h0 k0;rw [hb1] at hp;clear hex h h0 aw
  go_enter Tryz.func167,Tryz.ntmps167
  go_wp2_with fail
  rw [←bf.out];refine ce.mono ?_;clear ce bf;rintro e z ⟨aK,aB⟩;rcases r1 with a | ⟨x,us⟩
  ·obtain rfl:=aB
   simp only [zh,Option.some.injEq] at hp;subst hp;exact ⟨rfl,k0.trans aK,rfl⟩
  ·obtain ⟨v,o1,D,rfl,hx,bq⟩:=aB
   obtain ⟨xa,Y,X,x0,x1,x2,V,rfl⟩:=hx.agg;have bA:=hx.kind_eq;subst bA;have a1:=(Ze F).1 _ _ _ _ hb1 hE;simp only [zh] at hp;have a6:=aK.size;obtain ⟨P,hP⟩:∃P,P=z.heap.size+1:=⟨_,rfl⟩;obtain ⟨w2,ae⟩:∃w2,w2=(z.alloc (exO x.kind Y X (.slice x0 x1 x2) V)).alloc (XB 7 ⟨#[]⟩ (.slice (some ⟨z.heap.size,0,none⟩) 1 1) (.slice none 0 0) (.slice none 0 0) 0):=⟨_,rfl⟩;have bt:w2.heap.size=P+1:=by rw [ae,hP];simp
   have ba:w2.heap[P]?=some (XB 7 ⟨#[]⟩ (.slice (some ⟨z.heap.size,0,none⟩) 1 1) (.slice none 0 0) (.slice none 0 0) 0):=by
    rw [ae,hP]
    have:=World.alloc_heap_new (z.alloc (exO x.kind Y X (.slice x0 x1 x2) V)) (XB 7 ⟨#[]⟩ (.slice (some ⟨z.heap.size,0,none⟩) 1 1) (.slice none 0 0) (.slice none 0 0) 0)
    simpa using this
   have bn:w2.heap[z.heap.size]?=some (exO x.kind Y X (.slice x0 x1 x2) V):=by
    rw [ae,Below.heap_alloc _ _ _ (by simp)];exact World.alloc_heap_new _ _
   have a7:zc r w w2:=by rw [ae];exact ((k0.trans aK).alloc _).alloc _
   have b2:w2.heap[w.heap.size]?=some xw:=by
    rw [ae,Below.heap_alloc _ _ _ (by simp;omega),Below.heap_alloc _ _ _ (by omega)]
    exact (aK.block _ (by omega) (by omega)).trans b0
   obtain ⟨t1,us1,rfl⟩:=a1.cons;have aD:zf r g o1 D (t1::us1) w2:=by rw [ae];exact (bq.alloc _).alloc _
   have bg:zX (fun k=>w0.heap.size≤k∧k<z.heap.size) w2 x (.agg #[.int .i64 x.kind,.string Y,.int .i64 X,.slice x0 x1 x2,.int .i64 V]):=by
    rw [ae];exact zX.kept (zX.low hx) (by simp;omega) fun k hk hlt=>by rw [Below.heap_alloc _ _ _ (by simp;omega),Below.heap_alloc _ _ _ hlt]
   have ci:=zgG r g o1 D t1 us1 [61] w2 aD;obtain ⟨w3,aN⟩:∃w3,w3=(w2.alloc (ZL t1)).alloc (ZL t1):=⟨_,rfl⟩;rw [←aN] at ci;have am:zc r w2 w3:=by rw [aN];exact ((zc.refl r w2).alloc _).alloc _
   have aT:zf r g o1 D (t1::us1) w3:=by rw [aN];exact (aD.alloc _).alloc _
   have aQ:Hid (w2=(z.alloc (exO x.kind Y X (.slice x0 x1 x2) V)).alloc (XB 7 ⟨#[]⟩ (.slice (some ⟨z.heap.size,0,none⟩) 1 1) (.slice none 0 0) (.slice none 0 0) 0)):=ae;have bv:=am.size;have b3:=(am.block w.heap.size (by omega) (by omega)).trans b2
   have p3:=(am.block P (by omega) (by omega)).trans ba
   have r3:=(am.block z.heap.size (by omega) (by omega)).trans bn
   have bi:=bg.kept am.size fun k hk hlt=>am.block k hlt (by omega)
   have HB:Hid (w3.heap[w.heap.size]?=some xw∧w3.heap[P]?=some (XB 7 ⟨#[]⟩ (.slice (some ⟨z.heap.size,0,none⟩) 1 1) (.slice none 0 0) (.slice none 0 0) 0)∧w3.heap[z.heap.size]?=some (exO x.kind Y X (.slice x0 x1 x2) V)):=⟨b3,p3,r3⟩;have aO:Hid (zX (fun k=>w0.heap.size≤k∧k<z.heap.size) w3 x (.agg #[.int .i64 x.kind,.string Y,.int .i64 X,.slice x0 x1 x2,.int .i64 V])):=bi
   have av:Hid (zc r w w3):=a7.trans am;have HS:Hid (w0.heap.size=w.heap.size+1∧z.heap.size+1=P∧P<w3.heap.size∧w0.heap.size≤z.heap.size):=⟨bh,hP.symm,by omega,a6⟩
   have bo:Hid (z.heap.size+1=P):=hP.symm;have ar:Hid (zf r g o1 D (t1::us1) w3):=aT;simp only [zC,List.tail_cons] at hp;clear ae aN ba bn b2 b0 k0 aK hx bq aD a7 bt a6 bh hP am aT bv b3 p3 r3 bi bg
   by_cases hi:zm t1 [61]=true
   ·rw [hi] at ci
    rw [if_pos hi] at hp;have br:=a1.tail (zk hi);have aV:Ym x=(x.kind==4||x.kind==8||x.kind==9):=rfl;go_wp2_with fail
    rw [←aQ.out];refine ci.mono ?_;clear ci aQ;rintro e w' ⟨rfl,he⟩;obtain rfl:=he.symm;clear he;rw [bo.out];obtain ⟨-,-,p2,-,-,-,-⟩:=zM HB.out.2.1;obtain ⟨y0,y1,Z,y3,y4,-⟩:=zU HB.out.2.2;have aj:=za8 x.kind Y X x0 x1 x2 V w3;rw [←aV] at aj;obtain ⟨w4,aM⟩:∃w4,w4=w3.alloc (.cells #[.int .i64 (x.kind:Int),.string Y,.int .i64 X,.slice x0 x1 x2,.int .i64 V] 45):=⟨_,rfl⟩;rw [←aM] at aj;have bj:zc r w3 w4:=by rw [aM];exact (zc.refl r w3).alloc _
    have an:zf r g o1 D (t1::us1) w4:=by rw [aM];exact ar.out.alloc _
    have aW:Hid (zc r w3 w4):=bj;clear aM bj aV
    by_cases hpl:Ym x=true
    ·rw [hpl] at aj
     rw [if_pos hpl] at hp;have aZ:=Va r g o1 D t1 us1 w4 an br.ne;obtain ⟨w5,aH⟩:∃w5,w5=w4.setCell ⟨r,0,none⟩ (.slice (some ⟨g,o1+5,none⟩) us1.length (D-1)):=⟨_,rfl⟩;rw [←aH] at aZ;have aU:zf r g (o1+5) (D-1) us1 w5:=by rw [aH];exact an.next
     have ag:zc r w3 w5:=by rw [aH];exact aW.out.setCell _ _
     have hS:=HS.out;have a5:=ag.size;have b5:=(ag.block w.heap.size (by omega) (by omega)).trans HB.out.1
     have p5:=(ag.block P (by omega) (by omega)).trans HB.out.2.1
     have r5:=(ag.block z.heap.size (by omega) (by omega)).trans HB.out.2.2
     obtain ⟨m0,-,-,-,-,-,mf⟩:=zM p5;have bD:=mf 0;obtain ⟨w6,ad⟩:∃w6,w6=w5.setCell ⟨P,0,none⟩ (.int .i64 2):=⟨_,rfl⟩;have p6:w6.heap[P]?=some (XB 2 ⟨#[]⟩ (.slice (some ⟨z.heap.size,0,none⟩) 1 1) (.slice none 0 0) (.slice none 0 0) 0):=by rw [ad];exact zo _ p5
     have b6:w6.heap[w.heap.size]?=some xw:=by rw [ad,Below.heap_setCell _ _ _ _ (by simp;omega)];exact b5
     have r6:w6.heap[z.heap.size]?=some (exO x.kind Y X (.slice x0 x1 x2) V):=by rw [ad,Below.heap_setCell _ _ _ _ (by simp;omega)];exact r5
     have bx:w6.heap.size=w5.heap.size:=by rw [ad];simp
     have aS:zf r g (o1+5) (D-1) us1 w6:=by rw [ad];exact aU.setP _ (by omega) (by omega)
     have k6:zc r w w6:=by rw [ad];exact (av.out.trans ag).setOther (by simp;omega) _
     have bp:zX (fun k=>w0.heap.size≤k∧k<z.heap.size) w6 x (.agg #[.int .i64 x.kind,.string Y,.int .i64 X,.slice x0 x1 x2,.int .i64 V]):=by
      rw [ad];exact ((aO.out.kept ag.size fun k hk hlt=>ag.block k hlt (by omega)).kept (by simp) fun k hk _=>Below.heap_setCell _ _ _ _ (by simp;omega))
     cases hb2:zg F 1 us1 with
     | none=>rw [hb2] at hp;cases hp
     | some r2 =>
      rw [hb2] at hp;have a8:zi us1:=br;have N:Hid (w6.heap[w.heap.size]?=some xw∧w6.heap[P]?=some (XB 2 ⟨#[]⟩ (.slice (some ⟨z.heap.size,0,none⟩) 1 1) (.slice none 0 0) (.slice none 0 0) 0)∧w6.heap[z.heap.size]?=some (exO x.kind Y X (.slice x0 x1 x2) V)):=⟨b6,p6,r6⟩;have ap:Hid (zX (fun k=>w0.heap.size≤k∧k<z.heap.size) w6 x (.agg #[.int .i64 x.kind,.string Y,.int .i64 X,.slice x0 x1 x2,.int .i64 V])):=bp
      have au:Hid (zc r w w6):=k6;have y:Hid (w0.heap.size=w.heap.size+1∧z.heap.size+1=P∧P<w6.heap.size∧w0.heap.size≤z.heap.size):=⟨hS.1,hS.2.1,by omega,hS.2.2.2⟩
      have cb:∀W:World,W.heap=w6.heap→W.os=w6.os→W.tape=w6.tape→W.output=w6.output→Calls Tryz.prog 42 #[.pointer (some ⟨r,0,none⟩)] W (zJ r g w6 r2):=fun W e1 e2 e3 e4=>by
       have bc:zc r w6 W:=⟨e2,e3,e4,by rw [e1];exact Nat.le_refl _,fun k _ _=>by rw [e1]⟩
       refine (bz.out W _ _ us1 r2 hb2 a8 (aS.keep (by rw [e1]) (by rw [e1])) (au.out.trans bc)).mono fun e w' hh=>?_
       refine ⟨bc.trans hh.1,?_⟩;have h9:=hh.2;rw [e1] at h9;exact h9
      have CB:Hid (∀W:World,W.heap=w6.heap→W.os=w6.os→W.tape=w6.tape→W.output=w6.output→Calls Tryz.prog 42 #[.pointer (some ⟨r,0,none⟩)] W (zJ r g w6 r2)):=cb;have bd:=aH.symm;have bB:=ad.symm;clear cb aH ad b6 p6 r6 bp k6 aS bx mf b5 p5 r5 a5 hS ag aU an HB aO av HS ar;go_wp2_with fail
      refine aj.mono ?_;clear aj p2 y0 y1 Z y3 y4;rintro e w' ⟨rfl,he⟩;obtain rfl:=he.symm;clear he;go_wp2_with fail
      refine aZ.mono ?_;clear aZ bd;rintro e w' ⟨rfl,he⟩;obtain rfl:=he.symm;clear he;rcases r2 with a2 | ⟨xq,bE⟩
      ·simp only [Option.some.injEq] at hp
       subst hp;have bw:∀W:World,W.heap=w6.heap→W.os=w6.os→W.tape=w6.tape→W.output=w6.output→Calls Tryz.prog 42 #[.pointer (some ⟨r,0,none⟩)] W fun e w'=>e=ZG a2∧zc r w w':=fun W e1 e2 e3 e4=>(CB.out W e1 e2 e3 e4).mono fun e w' h=>⟨h.2,au.out.trans h.1⟩
       obtain ⟨-,-,aP,-,-,-,-⟩:=zM N.out.2.1;clear CB;go_wp2_with fail
       go_region_dies
       all_goals (go_wp2_with fail;refine (bw _ (by rfl) (by rfl) (by rfl) (by rfl)).mono ?_;rintro e w4 ⟨rfl,bs⟩;exact ⟨rfl,bs,rfl⟩)
      ·have be:=(Ze F).1 _ _ _ _ hb2 a8
       obtain ⟨t4,aa,rfl⟩:=be.cons;simp only [zR,zC,List.tail_cons] at hp
       have CU:Hid (∀W:World,W.heap=w6.heap→W.os=w6.os→W.tape=w6.tape→W.output=w6.output→Calls Tryz.prog 42 #[.pointer (some ⟨r,0,none⟩)] W fun e w'=>∃(ya:Int) (yb:ByteArray) (yc:Int) (y0:Option Addr) (y1 Z:Nat) (yl:Int),e=.returned (.agg #[.int .i64 ya,.string yb,.int .i64 yc,.slice y0 y1 Z,.int .i64 yl])∧Hid (zc r w6 w'∧ZI w6.heap.size w' xq (.agg #[.int .i64 ya,.string yb,.int .i64 yc,.slice y0 y1 Z,.int .i64 yl])∧∃o7 Q,zf r g o7 Q (t4::aa) w')):=fun W e1 e2 e3 e4=>(CB.out W e1 e2 e3 e4).mono fun e w' h=>by
        obtain ⟨H,v,o7,Q,rfl,ah,L⟩:=h;obtain ⟨ya,yb,yc,y0,y1,Z,yl,rfl⟩:=ah.agg;exact ⟨ya,yb,yc,y0,y1,Z,yl,rfl,H,ah,o7,Q,L⟩
       obtain ⟨-,-,aP,-,-,-,-⟩:=zM N.out.2.1;clear CB hb2;go_wp2_with fail
       go_cut [] (fun wx=>UH r g w w0.heap.size P x xq (t4::aa) wx)
       case first =>
        refine vC (n:=8) (S:=fun _=>True) (by kernel_rfl) rfl rfl ?_
        refine yA (fuel:=6) (fuel':=8) (idx:=[0,2]) (by decide +kernel) rfl rfl rfl (fun _ _ _ _ _ h=>h) trivial ?_
        show wpQuiet _ _ _ _ [_,_] _
        iterate 2 (go_big_quiet_step (exact rfl))
        refine wpQuiet_nil ?_;refine Xh (fuel:=5) (fuel':=6) (i:=1) (k:=3) rfl rfl (by decide +kernel) rfl rfl rfl (by rfl) (by rfl) ?_ ?_
        ·intro K J
         go_simp;refine J.out _ _ trivial ?_;clear J K;refine Zi (fuel:=4) (fuel':=5) (i:=3) rfl (by decide +kernel) rfl rfl (by rfl) ?_
         intro K J;go_simp;refine (CU.out _ (by rfl) (by rfl) (by rfl) (by rfl)).mono ?_
         rintro e U ⟨ya,yb,yc,y0,y1,Z,yl,rfl,H7⟩
         (try go_simp)
         refine J.out _ _ trivial ?_;clear J K;refine Zi (fuel:=3) (fuel':=4) (i:=4) rfl (by decide +kernel) rfl rfl (by rfl) ?_
         intro K J;go_simp;refine J.out _ _ trivial ?_;clear J K;obtain ⟨H,ah,o7,Q,L⟩:=H7.out;have ao:=H.size;have ay:Hid (w0.heap.size≤U.heap.size):=show _≤_ by have:=y.out;omega
         have ai:Hid (U.ownsRow w0.heap.size 45 5 (.slice (some ⟨z.heap.size,0,none⟩) 1 1) 1 [.int .i64 x.kind,.string Y,.int .i64 X,.slice x0 x1 x2,.int .i64 V]):=(Zf.ofBlock (E:=ExE) (sz:=5) (ty:=45) (c:=[.int .i64 x.kind,.string Y,.int .i64 X,.slice x0 x1 x2,.int .i64 V]) ((H.block z.heap.size (by have:=y.out;omega) (by have:=y.out;omega)).trans N.out.2.2) rfl y.out.2.2.2 (zX.wide (ap.out.kept H.size fun k hk hlt=>H.block k hlt (by have:=y.out;omega)) fun k hk=>⟨hk.1,by omega⟩)).own
         have aC:Hid (U.heap[P]?=some (XB 2 ⟨#[]⟩ (.slice (some ⟨z.heap.size,0,none⟩) 1 1) (.slice none 0 0) (.slice none 0 0) 0)):=(H.block P y.out.2.2.1 (by have:=y.out;omega)).trans N.out.2.1
         have al:Hid (P<U.heap.size):=show _<_ by have:=y.out;omega
         have aF:Hid (P≠z.heap.size):=show _≠_ by have:=y.out;omega
         have af:Hid (zf r g o7 Q (t4::aa) U):=L;clear H ah L ao;refine xe (fuel:=2) (fuel':=3) (i:=5) rfl (by decide +kernel) rfl rfl (by rfl) ?_
         intro K J;refine ye _ _ 43 rfl (by rfl) w0.heap.size 45 i0 _ 5 64 Tryz.underlying43 aY a3 a4 aX rfl (by decide) _ _ _ rfl (ai.out.alloc _) ⟨U.heap.size,0,none⟩ 1 1 [.int .i64 ya,.string yb,.int .i64 yc,.slice y0 y1 Z,.int .i64 yl] rfl rfl (ZP _ _ _) (by simp [Value.oneCell']) (by unfold maxLen;omega) (by omega) (by have:=ay.out;simp;omega) ?_
         intro v' w9 A I T;have G:(U.alloc (.cells #[.int .i64 ya,.string yb,.int .i64 yc,.slice y0 y1 Z,.int .i64 yl] 45)).grownBy w9 (some z.heap.size):=I;have ak:v'.ownBlock=some z.heap.size∨v'.ownBlock=some (U.alloc (.cells #[.int .i64 ya,.string yb,.int .i64 yc,.slice y0 y1 Z,.int .i64 yl] 45)).heap.size:=T;clear I T
         obtain ⟨vg,vc,aE⟩:∃vg vc,v'=.slice (some ⟨vg,0,none⟩) 2 vc:=by
          rcases A.2 with ⟨_,h0⟩ | ⟨g',O,_,h1,_⟩
          ·omega
          ·exact ⟨g',O,h1⟩
         subst aE;have aI:Hid (UH r g w w0.heap.size P x xq (t4::aa) (w9.setCell ⟨P,2,none⟩ (.slice (some ⟨vg,0,none⟩) 2 vc))):=zci (c1:=[.int .i64 x.kind,.string Y,.int .i64 X,.slice x0 x1 x2,.int .i64 V]) (c2:=[.int .i64 ya,.string yb,.int .i64 yc,.slice y0 y1 Z,.int .i64 yl]) au.out N.out.1 N.out.2.1 N.out.2.2 ap.out rfl (by have:=y.out;omega) y.out.2.2.2 y.out.2.1 y.out.2.2.1 hr ax H7.out.1 H7.out.2.1 rfl af.out A G ak
         have p9:w9.heap[P]?=some (XB 2 ⟨#[]⟩ (.slice (some ⟨z.heap.size,0,none⟩) 1 1) (.slice none 0 0) (.slice none 0 0) 0):=(G.block P (by have:=al.out;simp;omega) (by simpa using aF.out)).trans ((Below.heap_alloc _ _ _ al.out).trans aC.out)
         obtain ⟨-,-,n2,-,-,-,nf⟩:=zM p9;have a9:=nf 2;clear A G ak p9 nf;refine J.out _ _ trivial ?_;clear J K;simp only [Act.put,List.setIfInBounds_toArray,List.set_cons_zero,List.set_cons_succ];refine yA (fuel:=1) (fuel':=2) (idx:=[6]) (by decide +kernel) rfl rfl rfl (fun _ _ _ _ _ h=>h) trivial ?_
         show wpQuiet _ _ _ _ [_] _
         iterate 1 (go_big_quiet_step (exact rfl))
         refine wpQuiet_nil ?_;refine Zi (fuel:=0) (fuel':=1) (i:=7) rfl (by decide +kernel) rfl rfl (by rfl) ?_
         intro K J;go_simp;refine J.out _ _ trivial ?_;clear J K;refine Yg (by decide +kernel) ?_
         go_wp2_with fail
         go_meet
         exact aI.out
        ·intro K J
         go_simp;refine (CU.out _ (by rfl) (by rfl) (by rfl) (by rfl)).mono ?_
         rintro e U ⟨ya,yb,yc,y0,y1,Z,yl,rfl,H7⟩
         (try go_simp)
         refine J.out _ _ trivial ?_;clear J K;obtain ⟨-,-,aP,-,-,-,-⟩:=zM ((H7.out.1.block P y.out.2.2.1 (by have:=y.out;omega)).trans N.out.2.1)
         have bC:=zl aP;refine Xh (fuel:=4) (fuel':=5) (i:=1) (k:=4) rfl rfl (by decide +kernel) rfl rfl rfl (by rfl) (by rfl) ?_ ?_
         ·intro K J
          go_simp;refine J.out _ _ trivial ?_;clear J K;refine Zi (fuel:=3) (fuel':=4) (i:=4) rfl (by decide +kernel) rfl rfl (by rfl) ?_
          intro K J;go_simp;refine J.out _ _ trivial ?_;clear J K;obtain ⟨H,ah,o7,Q,L⟩:=H7.out;have ao:=H.size;have ay:Hid (w0.heap.size≤U.heap.size):=show _≤_ by have:=y.out;omega
          have ai:Hid (U.ownsRow w0.heap.size 45 5 (.slice (some ⟨z.heap.size,0,none⟩) 1 1) 1 [.int .i64 x.kind,.string Y,.int .i64 X,.slice x0 x1 x2,.int .i64 V]):=(Zf.ofBlock (E:=ExE) (sz:=5) (ty:=45) (c:=[.int .i64 x.kind,.string Y,.int .i64 X,.slice x0 x1 x2,.int .i64 V]) ((H.block z.heap.size (by have:=y.out;omega) (by have:=y.out;omega)).trans N.out.2.2) rfl y.out.2.2.2 (zX.wide (ap.out.kept H.size fun k hk hlt=>H.block k hlt (by have:=y.out;omega)) fun k hk=>⟨hk.1,by omega⟩)).own
          have aC:Hid (U.heap[P]?=some (XB 2 ⟨#[]⟩ (.slice (some ⟨z.heap.size,0,none⟩) 1 1) (.slice none 0 0) (.slice none 0 0) 0)):=(H.block P y.out.2.2.1 (by have:=y.out;omega)).trans N.out.2.1
          have al:Hid (P<U.heap.size):=show _<_ by have:=y.out;omega
          have aF:Hid (P≠z.heap.size):=show _≠_ by have:=y.out;omega
          have af:Hid (zf r g o7 Q (t4::aa) U):=L;clear H ah L ao;refine xe (fuel:=2) (fuel':=3) (i:=5) rfl (by decide +kernel) rfl rfl (by rfl) ?_
          intro K J;refine ye _ _ 43 rfl (by rfl) w0.heap.size 45 i0 _ 5 64 Tryz.underlying43 aY a3 a4 aX rfl (by decide) _ _ _ rfl (ai.out.alloc _) ⟨U.heap.size,0,none⟩ 1 1 [.int .i64 ya,.string yb,.int .i64 yc,.slice y0 y1 Z,.int .i64 yl] rfl rfl (ZP _ _ _) (by simp [Value.oneCell']) (by unfold maxLen;omega) (by omega) (by have:=ay.out;simp;omega) ?_
          intro v' w9 A I T;have G:(U.alloc (.cells #[.int .i64 ya,.string yb,.int .i64 yc,.slice y0 y1 Z,.int .i64 yl] 45)).grownBy w9 (some z.heap.size):=I;have ak:v'.ownBlock=some z.heap.size∨v'.ownBlock=some (U.alloc (.cells #[.int .i64 ya,.string yb,.int .i64 yc,.slice y0 y1 Z,.int .i64 yl] 45)).heap.size:=T;clear I T
          obtain ⟨vg,vc,aE⟩:∃vg vc,v'=.slice (some ⟨vg,0,none⟩) 2 vc:=by
           rcases A.2 with ⟨_,h0⟩ | ⟨g',O,_,h1,_⟩
           ·omega
           ·exact ⟨g',O,h1⟩
          subst aE;have aI:Hid (UH r g w w0.heap.size P x xq (t4::aa) (w9.setCell ⟨P,2,none⟩ (.slice (some ⟨vg,0,none⟩) 2 vc))):=zci (c1:=[.int .i64 x.kind,.string Y,.int .i64 X,.slice x0 x1 x2,.int .i64 V]) (c2:=[.int .i64 ya,.string yb,.int .i64 yc,.slice y0 y1 Z,.int .i64 yl]) au.out N.out.1 N.out.2.1 N.out.2.2 ap.out rfl (by have:=y.out;omega) y.out.2.2.2 y.out.2.1 y.out.2.2.1 hr ax H7.out.1 H7.out.2.1 rfl af.out A G ak
          have p9:w9.heap[P]?=some (XB 2 ⟨#[]⟩ (.slice (some ⟨z.heap.size,0,none⟩) 1 1) (.slice none 0 0) (.slice none 0 0) 0):=(G.block P (by have:=al.out;simp;omega) (by simpa using aF.out)).trans ((Below.heap_alloc _ _ _ al.out).trans aC.out)
          obtain ⟨-,-,n2,-,-,-,nf⟩:=zM p9;have a9:=nf 2;clear A G ak p9 nf;refine J.out _ _ trivial ?_;clear J K;simp only [Act.put,List.setIfInBounds_toArray,List.set_cons_zero,List.set_cons_succ];refine yA (fuel:=1) (fuel':=2) (idx:=[6]) (by decide +kernel) rfl rfl rfl (fun _ _ _ _ _ h=>h) trivial ?_
          show wpQuiet _ _ _ _ [_] _
          iterate 1 (go_big_quiet_step (exact rfl))
          refine wpQuiet_nil ?_;refine Zi (fuel:=0) (fuel':=1) (i:=7) rfl (by decide +kernel) rfl rfl (by rfl) ?_
          intro K J;go_simp;refine J.out _ _ trivial ?_;clear J K;refine Yg (by decide +kernel) ?_
          go_wp2_with fail
          go_meet
          exact aI.out
         ·intro K J
          go_simp;refine J.out _ _ trivial ?_;clear J K;refine Zi (fuel:=3) (fuel':=4) (i:=1) rfl (by decide +kernel) rfl rfl (by rfl) ?_
          intro K J;go_simp;refine J.out _ _ trivial ?_;clear J K;obtain ⟨H,ah,o7,Q,L⟩:=H7.out;have ao:=H.size;have ay:Hid (w0.heap.size≤U.heap.size):=show _≤_ by have:=y.out;omega
          have ai:Hid (U.ownsRow w0.heap.size 45 5 (.slice (some ⟨z.heap.size,0,none⟩) 1 1) 1 [.int .i64 x.kind,.string Y,.int .i64 X,.slice x0 x1 x2,.int .i64 V]):=(Zf.ofBlock (E:=ExE) (sz:=5) (ty:=45) (c:=[.int .i64 x.kind,.string Y,.int .i64 X,.slice x0 x1 x2,.int .i64 V]) ((H.block z.heap.size (by have:=y.out;omega) (by have:=y.out;omega)).trans N.out.2.2) rfl y.out.2.2.2 (zX.wide (ap.out.kept H.size fun k hk hlt=>H.block k hlt (by have:=y.out;omega)) fun k hk=>⟨hk.1,by omega⟩)).own
          have aC:Hid (U.heap[P]?=some (XB 2 ⟨#[]⟩ (.slice (some ⟨z.heap.size,0,none⟩) 1 1) (.slice none 0 0) (.slice none 0 0) 0)):=(H.block P y.out.2.2.1 (by have:=y.out;omega)).trans N.out.2.1
          have al:Hid (P<U.heap.size):=show _<_ by have:=y.out;omega
          have aF:Hid (P≠z.heap.size):=show _≠_ by have:=y.out;omega
          have af:Hid (zf r g o7 Q (t4::aa) U):=L;clear H ah L ao;refine xe (fuel:=2) (fuel':=3) (i:=5) rfl (by decide +kernel) rfl rfl (by rfl) ?_
          intro K J;refine ye _ _ 43 rfl (by rfl) w0.heap.size 45 i0 _ 5 64 Tryz.underlying43 aY a3 a4 aX rfl (by decide) _ _ _ rfl (ai.out.alloc _) ⟨U.heap.size,0,none⟩ 1 1 [.int .i64 ya,.string yb,.int .i64 yc,.slice y0 y1 Z,.int .i64 yl] rfl rfl (ZP _ _ _) (by simp [Value.oneCell']) (by unfold maxLen;omega) (by omega) (by have:=ay.out;simp;omega) ?_
          intro v' w9 A I T;have G:(U.alloc (.cells #[.int .i64 ya,.string yb,.int .i64 yc,.slice y0 y1 Z,.int .i64 yl] 45)).grownBy w9 (some z.heap.size):=I;have ak:v'.ownBlock=some z.heap.size∨v'.ownBlock=some (U.alloc (.cells #[.int .i64 ya,.string yb,.int .i64 yc,.slice y0 y1 Z,.int .i64 yl] 45)).heap.size:=T;clear I T
          obtain ⟨vg,vc,aE⟩:∃vg vc,v'=.slice (some ⟨vg,0,none⟩) 2 vc:=by
           rcases A.2 with ⟨_,h0⟩ | ⟨g',O,_,h1,_⟩
           ·omega
           ·exact ⟨g',O,h1⟩
          subst aE;have aI:Hid (UH r g w w0.heap.size P x xq (t4::aa) (w9.setCell ⟨P,2,none⟩ (.slice (some ⟨vg,0,none⟩) 2 vc))):=zci (c1:=[.int .i64 x.kind,.string Y,.int .i64 X,.slice x0 x1 x2,.int .i64 V]) (c2:=[.int .i64 ya,.string yb,.int .i64 yc,.slice y0 y1 Z,.int .i64 yl]) au.out N.out.1 N.out.2.1 N.out.2.2 ap.out rfl (by have:=y.out;omega) y.out.2.2.2 y.out.2.1 y.out.2.2.1 hr ax H7.out.1 H7.out.2.1 rfl af.out A G ak
          have p9:w9.heap[P]?=some (XB 2 ⟨#[]⟩ (.slice (some ⟨z.heap.size,0,none⟩) 1 1) (.slice none 0 0) (.slice none 0 0) 0):=(G.block P (by have:=al.out;simp;omega) (by simpa using aF.out)).trans ((Below.heap_alloc _ _ _ al.out).trans aC.out)
          obtain ⟨-,-,n2,-,-,-,nf⟩:=zM p9;have a9:=nf 2;clear A G ak p9 nf;refine J.out _ _ trivial ?_;clear J K;simp only [Act.put,List.setIfInBounds_toArray,List.set_cons_zero,List.set_cons_succ];refine yA (fuel:=1) (fuel':=2) (idx:=[6]) (by decide +kernel) rfl rfl rfl (fun _ _ _ _ _ h=>h) trivial ?_
          show wpQuiet _ _ _ _ [_] _
          iterate 1 (go_big_quiet_step (exact rfl))
          refine wpQuiet_nil ?_;refine Zi (fuel:=0) (fuel':=1) (i:=7) rfl (by decide +kernel) rfl rfl (by rfl) ?_
          intro K J;go_simp;refine J.out _ _ trivial ?_;clear J K;refine Yg (by decide +kernel) ?_
          go_wp2_with fail
          go_meet
          exact aI.out
       case rest =>
        obtain ⟨o7,Q,g',O,k7,b7,p7,aG,L⟩:=hcut;have cn:=yI r g o7 Q t4 aa [59] wc L (fun hi=>(be.tail (zk hi)).ne)
        have aL:Hid (wc.heap[w.heap.size]?=some xw∧wc.heap[P]?=some (XB 2 ⟨#[]⟩ (.slice (some ⟨g',0,none⟩) 2 O) (.slice none 0 0) (.slice none 0 0) 0)):=⟨b7,p7⟩;have aJ:Hid (zK (fun k=>w0.heap.size≤k) wc [x,xq] (.slice (some ⟨g',0,none⟩) 2 O)):=aG
        have aR:Hid (zc r w wc):=k7;clear b7 p7 aG k7 L CU aP
        by_cases hm:zm t4 [59]=true
        ·simp only [if_pos hm] at cn
         simp only [if_pos hm,Option.some.injEq] at hp;subst hp;go_wp2_with fail
         refine cn.mono ?_;clear cn;rintro e w8 ⟨aq,rfl,h8⟩;have hS:=y.out;have ao:=aR.out.size;have bm:P<wc.heap.size:=(Array.getElem?_eq_some_iff.1 aL.out.2).1;have b8:=(aq.block w.heap.size (by omega) (by omega)).trans aL.out.1
         have p8:=(aq.block P bm (by omega)).trans aL.out.2
         have az:=aJ.out.keptR aq fun k hk=>by omega
         obtain ⟨e0,e1,e2,e3,e4,e5,-⟩:=zM p8;obtain ⟨q0,q1,q2,q3,q4,q5,qf⟩:=zM b8;obtain ⟨z0,z1,z2,z3,z4,z5,-⟩:=zM (Zu b8 (.int .i64 2) (.string ⟨#[]⟩) (.slice (some ⟨g',0,none⟩) 2 O) (.slice none 0 0) (.slice none 0 0) (.int .i64 0))
         have HP:Hid (ZF r g w (.ok (.mk 2 [] [x,xq] [] [] 0,aa)) (.returned (.agg #[.int .i64 2,.string ⟨#[]⟩,.slice (some ⟨g',0,none⟩) 2 O,.slice none 0 0,.slice none 0 0,.int .i64 0])) (XA w8 w.heap.size (.int .i64 2) (.string ⟨#[]⟩) (.slice (some ⟨g',0,none⟩) 2 O) (.slice none 0 0) (.slice none 0 0) (.int .i64 0))) :=
          ZF.of_set6 (B:=w0.heap.size) 2 [] 0 (aR.out.trans aq) (Nat.le_refl _) hr ax az (z8.nil _ _) (z8.nil _ _) (by omega) h8
         clear b8 p8 az aq hS ao bm h8 aL aJ aR N ap au y;go_wp2
         exact bodyPost_ret (v:=.agg #[.int .i64 2,.string ⟨#[]⟩,.slice (some ⟨g',0,none⟩) 2 O,.slice none 0 0,.slice none 0 0,.int .i64 0]) (by simp [results,Tryz.results167,go_sem,z0,z1,z2,z3,z4,z5]) rfl HP.out
        ·simp only [if_neg hm] at cn
         simp only [if_neg hm,Option.some.injEq] at hp;subst hp;go_wp2_with fail
         refine cn.mono ?_;clear cn;rintro e w8 ⟨aq,rfl⟩;exact ⟨rfl,aR.out.trans aq,rfl⟩
    ·have bk:Ym x=false:=by simpa using hpl
     rw [bk] at aj;rw [if_neg hpl] at hp;simp only [Option.some.injEq] at hp;subst hp;have cg:=Ux r g o1 D t1 us1 w4 an;clear an;go_wp2_with fail
     refine aj.mono ?_;clear aj p2 y0 y1 Z y3 y4;rintro e w' ⟨rfl,he⟩;obtain rfl:=he.symm;clear he;go_wp2_with fail
     refine cg.mono ?_;clear cg;rintro e _ ⟨rfl,rfl⟩;exact ⟨rfl,(av.out.trans aW.out).alloc _,rfl⟩
   ·have bu:zm t1 [61]=false:=by simpa using hi
    rw [bu] at ci;rw [if_neg hi] at hp
    unfold zR at hp
    simp only [zC,List.tail_cons] at hp;have cn:=yI r g o1 D t1 us1 [59] w3 ar.out (fun hi=>(a1.tail (zk hi)).ne)
    go_wp2_with fail
    rw [←aQ.out];refine ci.mono ?_;clear ci aQ;rintro e w' ⟨rfl,he⟩;obtain rfl:=he.symm;clear he;rw [bo.out]
    by_cases hm:zm t1 [59]=true
    ·simp only [if_pos hm] at cn
     rw [if_pos hm] at hp;simp only [Option.some.injEq] at hp;subst hp;go_wp2_with fail
     refine cn.mono ?_;clear cn;rintro e w5 ⟨ab,rfl,h5⟩;have hS:=HS.out;have a5:=ab.size;have b5:=(ab.block w.heap.size (by omega) (by omega)).trans HB.out.1
     have p5:=(ab.block P (by omega) (by omega)).trans HB.out.2.1
     have r5:=(ab.block z.heap.size (by omega) (by omega)).trans HB.out.2.2
     have bb:=aO.out.kept ab.size fun k hk hlt=>ab.block k hlt (by omega)
     have k5:zc r w w5:=av.out.trans ab;have aA:zK (fun k=>w0.heap.size≤k) w5 [x] (.slice (some ⟨z.heap.size,0,none⟩) 1 1):=Zf.row (Zf.ofBlock (E:=ExE) (sz:=5) (ty:=45) (c:=[.int .i64 x.kind,.string Y,.int .i64 X,.slice x0 x1 x2,.int .i64 V]) r5 rfl hS.2.2.2 (zX.wide bb fun k hk=>⟨hk.1,by omega⟩))
     obtain ⟨e0,e1,e2,e3,e4,e5,-⟩:=zM p5;obtain ⟨q0,q1,q2,q3,q4,q5,qf⟩:=zM b5;obtain ⟨z0,z1,z2,z3,z4,z5,-⟩:=zM (Zu b5 (.int .i64 7) (.string ⟨#[]⟩) (.slice (some ⟨z.heap.size,0,none⟩) 1 1) (.slice none 0 0) (.slice none 0 0) (.int .i64 0))
     have HP:Hid (ZF r g w (.ok (.mk 7 [] [x] [] [] 0,us1)) (.returned (.agg #[.int .i64 7,.string ⟨#[]⟩,.slice (some ⟨z.heap.size,0,none⟩) 1 1,.slice none 0 0,.slice none 0 0,.int .i64 0])) (XA w5 w.heap.size (.int .i64 7) (.string ⟨#[]⟩) (.slice (some ⟨z.heap.size,0,none⟩) 1 1) (.slice none 0 0) (.slice none 0 0) (.int .i64 0))) :=
      ZF.of_set6 (B:=w0.heap.size) 7 [] 0 k5 (Nat.le_refl _) hr ax aA (z8.nil _ _) (z8.nil _ _) (by omega) h5
     clear b5 p5 r5 bb k5 aA ab a5 hS h5 HB aO av HS ar;go_wp2
     exact bodyPost_ret (v:=.agg #[.int .i64 7,.string ⟨#[]⟩,.slice (some ⟨z.heap.size,0,none⟩) 1 1,.slice none 0 0,.slice none 0 0,.int .i64 0]) (by simp [results,Tryz.results167,go_sem,z0,z1,z2,z3,z4,z5]) rfl HP.out
    ·simp only [if_neg hm] at cn
     rw [if_neg hm] at hp;simp only [Option.some.injEq] at hp;subst hp;go_wp2_with fail
     refine cn.mono ?_;clear cn;rintro e w5 ⟨ab,rfl⟩;exact ⟨rfl,av.out.trans ab,rfl⟩
end Go.Proofs.YtcphojjpapgblaaGreatDoor
