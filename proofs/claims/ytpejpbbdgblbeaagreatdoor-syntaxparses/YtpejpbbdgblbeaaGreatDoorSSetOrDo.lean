import Derived.Test.YtpejpbbdgblbeaaGreatDoorMC23
import Derived.Test.YtpejpbbdgblbeaaGreatDoorMC24
import Derived.Deep.DeepCutAuto
namespace Go.Proofs.YtpejpbbdgblbeaaGreatDoor
open Go.RowKit Go.Shelf
set_option maxHeartbeats 16000000
set_option maxRecDepth 100000
theorem Zu.ofBlock {α:Type} {E:(Nat→Prop)→World→α→List Value→Prop} {sz ty B g:Nat} {w:World} {x:α} {c:List Value} (hb:w.heap[g]?=some (.cells c.toArray ty (0,0))) (hc:c.length=sz) (hB:B≤g) (hx:E (fun k=>B≤k∧k≠g) w x c) :
  Zu E sz ty B w [x] (.slice (some ⟨g,0,none⟩) 1 1) g 1 [c] where
 val:=rfl
 ne:=by simp
 own:=by
  refine ⟨by simp [hc],.inr ⟨g,1,c.toArray,rfl,hB,hb,Nat.le_refl _,by simp [maxLen],by simp [hc],?_⟩⟩
  simp [hc,List.take_of_length_le]
 len:=rfl
 wid:=by simp [hc]
 kids:=fun j y d hy hd=>by
  cases j with
  | succ j=>simp at hy
  | zero =>
   simp only [List.getElem?_cons_zero,Option.some.injEq] at hy hd;subst hy hd;exact hx
theorem yW {P:Program} {ops:Array Oper} {o:Oper} {a:Act} {w:World} {K:Act→World→Prop} {Q:Exit→Act→World→Prop} {E:Prop} (s x:Operand) (t:TypeId)
  (ho:o.op=.call { callee:=.builtin .append,args:=#[s,x],argTypes:=#[t,t] }) (hw:Region.wanted o (yielded ops a.tmps)=true)
  (base:Nat) (e:TypeId) (i:TypeInfo) (z:Value) (size bytes:Nat) (ht:P.underlying t=some (.slice e)) (hi:P.info? e=some i) (hz:i.zero=some z)
  (hsize:i.size=size) (hby:i.bytes=bytes) (hzs:z.cells.size=size) (hsz:0<size)
  (v:Value) (n:Nat) (xs:List Value) (hs:a.eval s=v) (hown:w.ownsRow base e size v n xs)
  (ad:Addr) (m c:Nat) (news:List Value) (hx:a.eval x=.slice (some ad) m c) (hl:news.length=m*size) (hnews:∀j u,news[j]?=some u→w.cell? (ad.add j)=some u) (h1:∀u∈news,u.oneCell'=true)
  (h63:n+m≤maxLen) (hbytes:(n+m)*bytes≤140737488355328) (hbase:base≤w.heap.size)
  (h:∀v' w',w'.ownsRow base e size v' (n+m) (xs++news)→w.grownBy w' v.ownBlock→(v'.ownBlock=v.ownBlock∨v'.ownBlock=some w.heap.size)→K (a.put o.dst v') w') :
  if Region.wanted o (yielded ops a.tmps)=true then Oper.wp P o a w K Q else E:=by
 rw [if_pos hw];obtain ⟨v',w',hrun,g1,g2,-,g4⟩:=run_append_own_at (P:=P) w base t o.type e i z size bytes ht hi hz hsize hby hzs hsz v n xs hown ad m c news hl hnews h1 h63 hbytes hbase
 unfold Oper.wp
 simp [execOp,ho,resolve,invoke,builtin,hs,hx,hrun,Result.andThen]
 exact h v' w' g1 g2 g4
def ExP (P:Nat) (S:Nat→Prop) (w:World) (x:Ex) (c:List Value):Prop:=qW (fun k=>S k∧k≠P) w x c
theorem zgW (P:Nat):yO (ExP P):=⟨fun h hs hb=>YJ.kept h hs fun k hk hlt=>hb k hk.1 hlt,fun h hS=>YJ.wide h fun k hk=>⟨hS k hk.1,hk.2⟩,fun h=>YJ.wide (YJ.low h) fun _ hk=>⟨⟨hk.1.1,hk.2⟩,hk.1.2⟩⟩
theorem Zu.rowP {P ty B:Nat} {w:World} {l:List Ex} {v:Value} {g cap:Nat} {us:List (List Value)} (h:Zu (ExP P) 5 ty B w l v g cap us) (hg:g≠P):zv (fun k=>B≤k∧k≠P) w l v:=by
 have hb:=h.block;refine .inr ⟨g,cap,us,h.val,h.ne,h.len,⟨hb.1,hg⟩,hb.2.1,hb.2.2.1,hb.2.2.2,fun j u hj=>?_,h.wid,fun j x c hx hc=>zY.wide (h.kids j x c hx hc) fun k hk=>⟨hk.1.1,hk.2⟩⟩
 have hx:=h.own.cells (g:=g) (by rw [h.val];rfl) j u hj
 by_cases h0:j=0
 ·subst h0;simpa [Addr.add] using hx
 ·simpa [Addr.add,h0] using hx
def qr (r g:Nat) (w:World) (B P:Nat) (x x2:Ex) (us:List Tk) (wx:World):Prop :=
 ∃o7 cap7 g' cap',zc r w wx∧wx.heap[w.heap.size]?=some YR∧wx.heap[P]?=some (vC 2 ⟨#[]⟩ (.slice (some ⟨g',0,none⟩) 2 cap') (.slice none 0 0) (.slice none 0 0) 0)∧zv (fun k=>B≤k) wx [x,x2] (.slice (some ⟨g',0,none⟩) 2 cap')∧zh r g o7 cap7 us wx
theorem zcS {r g P B Rg o7 cap7:Nat} {w w6 w7 w9:World} {x x2:Ex} {c1 c2:List Value} {us:List Tk} {v':Value} {ob:Obj} (hK6:zc r w w6) (b6:w6.heap[w.heap.size]?=some YR) (p6:w6.heap[P]?=some (vC 2 ⟨#[]⟩ (.slice (some ⟨Rg,0,none⟩) 1 1) (.slice none 0 0) (.slice none 0 0) 0)) (r6:w6.heap[Rg]?=some (.cells c1.toArray 45 (0,0)))
  (hx6:zY (fun k=>B≤k∧k<Rg) w6 x (.agg c1.toArray)) (hc1:c1.length=5) (hBw:w.heap.size<B) (hBR:B≤Rg) (hRP:Rg+1=P) (hP:P<w6.heap.size) (hr:r<w.heap.size) (hg:g<w.heap.size) (hk7:zc r w6 w7) (hx7:ZO w6.heap.size w7 x2 (.agg c2.toArray)) (hc2:c2.length=5) (hrd7:zh r g o7 cap7 us w7)
  (ho:w9.ownsRow B 45 5 v' (1+1) (c1++c2)) (hgr:(w7.alloc ob).grownBy w9 (some Rg)) (hat:v'.ownBlock=some Rg∨v'.ownBlock=some (w7.alloc ob).heap.size):qr r g w B P x x2 us (w9.setCell ⟨P,2,none⟩ v'):=by
 have hs7:=hk7.size
 have hrow7:Zu (ExP P) 5 45 B w7 [x] (.slice (some ⟨Rg,0,none⟩) 1 1) Rg 1 [c1] :=
  Zu.ofBlock ((hk7.block Rg (by omega) (by omega)).trans r6) hc1 hBR (zY.wide (hx6.kept hk7.size fun k hk hlt=>hk7.block k hlt (by omega)) fun k hk=>⟨⟨hk.1,by omega⟩,by omega⟩)
 obtain ⟨g',cap',hrow9,hg'⟩:=hrow7.snoc (zgW P) (x:=x2) (c:=c2) (ob:=ob) (zY.wide hx7 fun k hk=>⟨⟨by omega,by omega⟩,by omega⟩) hc2 (by simpa using ho) hgr hat
 have hv':=hrow9.val;simp only [List.cons_append,List.nil_append,List.length_cons,List.length_nil,Nat.zero_add] at hv';subst hv';have hkeep:∀k,k≠Rg→k<w7.heap.size→w9.heap[k]?=w7.heap[k]?:=fun k hk hlt=>(hgr.block k (by simp;omega) (by simpa using hk)).trans (Below.heap_alloc _ _ _ hlt)
 have p9:w9.heap[P]?=some (vC 2 ⟨#[]⟩ (.slice (some ⟨Rg,0,none⟩) 1 1) (.slice none 0 0) (.slice none 0 0) 0):=(hkeep P (by omega) (by omega)).trans ((hk7.block P hP (by omega)).trans p6)
 have k9:zc r w w9:=((hK6.trans hk7).alloc ob).grown hgr fun k hk=>by have:=Option.some.inj hk;omega
 refine ⟨o7,cap7,g',cap',k9.setOther (by simp;omega) _,?_,zm _ p9,?_,?_⟩
 ·rw [Below.heap_setCell _ _ _ _ (by simp;omega)]
  exact (hkeep w.heap.size (by omega) (by omega)).trans ((hk7.block _ (by omega) (by omega)).trans b6)
 ·exact ((hrow9.rowP (by omega)).setP _ fun k hk=>hk.2).wide fun k hk=>hk.1
 ·exact (hrd7.keep (hkeep r (by omega) (by omega)) (hkeep g (by omega) (by omega))).setP _ (by omega) (by omega)
theorem zeu (r g o cap F:Nat) (ts:List Tk) (w:World) (R:PR St) (h:zh r g o cap ts w) (hE:zj ts) (hp:setP F ts 0=some R)
  (hex:∀w1 o1 cap1 ts1 r1,zk F 1 ts1=some r1→zj ts1→zh r g o1 cap1 ts1 w1→zc r w w1→Calls Tryz.prog 44 #[.pointer (some ⟨r,0,none⟩)] w1 (zQ r g w1 r1)) :
  Calls Tryz.prog 169 #[.pointer (some ⟨r,0,none⟩)] w (Z0 r g w R):=by
 obtain ⟨i0,hi0,hz0,hz1,hz2⟩:=info_parts uV;obtain ⟨t0,ts0,rfl⟩:=hE.cons;have hr:=h.lt.1;have hgw:=h.lt.2
 unfold setP at hp
 obtain ⟨w0,hw0⟩:∃w0,w0=w.alloc YR:=⟨_,rfl⟩;have h0:zh r g o cap (t0::ts0) w0:=by rw [hw0];exact h.alloc _
 have k0:zc r w w0:=by rw [hw0];exact (zc.refl r w).alloc _
 have b0:w0.heap[w.heap.size]?=some YR:=by rw [hw0];exact World.alloc_heap_new _ _
 have hs0:w0.heap.size=w.heap.size+1:=by rw [hw0];simp
 have HW0:Hid (w0=w.alloc YR):=hw0;have HEX:Hid (∀w1 o1 cap1 ts1 r1,zk F 1 ts1=some r1→zj ts1→zh r g o1 cap1 ts1 w1→zc r w w1→Calls Tryz.prog 44 #[.pointer (some ⟨r,0,none⟩)] w1 (zQ r g w1 r1)):=hex;cases hb1:zk F 1 (t0::ts0) with
 | none=>rw [hb1] at hp;cases hp
 | some r1 =>
  have ce:=hex w0 o cap (t0::ts0) r1 hb1 hE h0 k0;rw [hb1] at hp;clear hex h h0 hw0
  go_enter Tryz.func169,Tryz.ntmps169
  go_wp2_with fail
  rw [←HW0.out];refine ce.mono ?_;clear ce HW0;rintro e w1 ⟨hk1,hpost⟩;rcases r1 with a | ⟨x,us⟩
  ·obtain rfl:=hpost
   simp only [zq,Option.some.injEq] at hp;subst hp;exact ⟨rfl,k0.trans hk1,rfl⟩
  ·obtain ⟨v,o1,cap1,rfl,hx,hrd⟩:=hpost
   obtain ⟨xa,xb,xc,x0,x1,x2,xl,rfl⟩:=hx.agg;have hxk:=hx.kind_eq;subst hxk;have hE1:=(ZF F).1 _ _ _ _ hb1 hE;simp only [zq] at hp;have hs1:=hk1.size;obtain ⟨P,hP⟩:∃P,P=w1.heap.size+1:=⟨_,rfl⟩;obtain ⟨w2,hw2⟩:∃w2,w2=(w1.alloc (exO x.kind xb xc (.slice x0 x1 x2) xl)).alloc (vC 7 ⟨#[]⟩ (.slice (some ⟨w1.heap.size,0,none⟩) 1 1) (.slice none 0 0) (.slice none 0 0) 0):=⟨_,rfl⟩;have hs2:w2.heap.size=P+1:=by rw [hw2,hP];simp
   have hbP:w2.heap[P]?=some (vC 7 ⟨#[]⟩ (.slice (some ⟨w1.heap.size,0,none⟩) 1 1) (.slice none 0 0) (.slice none 0 0) 0):=by
    rw [hw2,hP]
    have:=World.alloc_heap_new (w1.alloc (exO x.kind xb xc (.slice x0 x1 x2) xl)) (vC 7 ⟨#[]⟩ (.slice (some ⟨w1.heap.size,0,none⟩) 1 1) (.slice none 0 0) (.slice none 0 0) 0)
    simpa using this
   have hbR:w2.heap[w1.heap.size]?=some (exO x.kind xb xc (.slice x0 x1 x2) xl):=by
    rw [hw2,Below.heap_alloc _ _ _ (by simp)];exact World.alloc_heap_new _ _
   have k02:zc r w w2:=by rw [hw2];exact ((k0.trans hk1).alloc _).alloc _
   have b2:w2.heap[w.heap.size]?=some YR:=by
    rw [hw2,Below.heap_alloc _ _ _ (by simp;omega),Below.heap_alloc _ _ _ (by omega)]
    exact (hk1.block _ (by omega) (by omega)).trans b0
   obtain ⟨t1,us1,rfl⟩:=hE1.cons;have hrd2:zh r g o1 cap1 (t1::us1) w2:=by rw [hw2];exact (hrd.alloc _).alloc _
   have hx2:zY (fun k=>w0.heap.size≤k∧k<w1.heap.size) w2 x (.agg #[.int .i64 x.kind,.string xb,.int .i64 xc,.slice x0 x1 x2,.int .i64 xl]):=by
    rw [hw2];exact zY.kept (zY.low hx) (by simp;omega) fun k hk hlt=>by rw [Below.heap_alloc _ _ _ (by simp;omega),Below.heap_alloc _ _ _ hlt]
   have ci:=zgB r g o1 cap1 t1 us1 [61] w2 hrd2;obtain ⟨w3,hw3⟩:∃w3,w3=(w2.alloc (yi t1)).alloc (yi t1):=⟨_,rfl⟩;rw [←hw3] at ci;have k23:zc r w2 w3:=by rw [hw3];exact ((zc.refl r w2).alloc _).alloc _
   have hrd3:zh r g o1 cap1 (t1::us1) w3:=by rw [hw3];exact (hrd2.alloc _).alloc _
   have HW2:Hid (w2=(w1.alloc (exO x.kind xb xc (.slice x0 x1 x2) xl)).alloc (vC 7 ⟨#[]⟩ (.slice (some ⟨w1.heap.size,0,none⟩) 1 1) (.slice none 0 0) (.slice none 0 0) 0)):=hw2;have hs3:=k23.size;have b3:=(k23.block w.heap.size (by omega) (by omega)).trans b2
   have p3:=(k23.block P (by omega) (by omega)).trans hbP
   have r3:=(k23.block w1.heap.size (by omega) (by omega)).trans hbR
   have hx3:=hx2.kept k23.size fun k hk hlt=>k23.block k hlt (by omega)
   have HB:Hid (w3.heap[w.heap.size]?=some YR∧w3.heap[P]?=some (vC 7 ⟨#[]⟩ (.slice (some ⟨w1.heap.size,0,none⟩) 1 1) (.slice none 0 0) (.slice none 0 0) 0)∧w3.heap[w1.heap.size]?=some (exO x.kind xb xc (.slice x0 x1 x2) xl)):=⟨b3,p3,r3⟩;have HX3:Hid (zY (fun k=>w0.heap.size≤k∧k<w1.heap.size) w3 x (.agg #[.int .i64 x.kind,.string xb,.int .i64 xc,.slice x0 x1 x2,.int .i64 xl])):=hx3
   have HK3:Hid (zc r w w3):=k02.trans k23;have HS:Hid (w0.heap.size=w.heap.size+1∧w1.heap.size+1=P∧P<w3.heap.size∧w0.heap.size≤w1.heap.size):=⟨hs0,hP.symm,by omega,hs1⟩
   have HPP:Hid (w1.heap.size+1=P):=hP.symm;have HRD3:Hid (zh r g o1 cap1 (t1::us1) w3):=hrd3;simp only [zI,List.tail_cons] at hp;clear hw2 hw3 hbP hbR b2 b0 k0 hk1 hx hrd hrd2 k02 hs2 hs1 hs0 hP k23 hrd3 hs3 b3 p3 r3 hx3 hx2
   by_cases hi:zn t1 [61]=true
   ·rw [hi] at ci
    rw [if_pos hi] at hp;have hE2:=hE1.tail (zl hi);have hplc:YQ x=(x.kind==4||x.kind==8||x.kind==9):=rfl;go_wp2_with fail
    rw [←HW2.out];refine ci.mono ?_;clear ci HW2;rintro e w' ⟨rfl,he⟩;obtain rfl:=he.symm;clear he;rw [HPP.out];obtain ⟨-,-,p2,-,-,-,-⟩:=zp HB.out.2.1;obtain ⟨y0,y1,y2,y3,y4,-⟩:=zo HB.out.2.2;have cpl:=zbt x.kind xb xc x0 x1 x2 xl w3;rw [←hplc] at cpl;obtain ⟨w4,hw4⟩:∃w4,w4=w3.alloc (.cells #[.int .i64 (x.kind:Int),.string xb,.int .i64 xc,.slice x0 x1 x2,.int .i64 xl] 45):=⟨_,rfl⟩;rw [←hw4] at cpl;have k34:zc r w3 w4:=by rw [hw4];exact (zc.refl r w3).alloc _
    have hrd4:zh r g o1 cap1 (t1::us1) w4:=by rw [hw4];exact HRD3.out.alloc _
    have HK34:Hid (zc r w3 w4):=k34;clear hw4 k34 hplc
    by_cases hpl:YQ x=true
    ·rw [hpl] at cpl
     rw [if_pos hpl] at hp;have cst:=VM r g o1 cap1 t1 us1 w4 hrd4 hE2.ne;obtain ⟨w5,hw5⟩:∃w5,w5=w4.setCell ⟨r,0,none⟩ (.slice (some ⟨g,o1+5,none⟩) us1.length (cap1-1)):=⟨_,rfl⟩;rw [←hw5] at cst;have hrd5:zh r g (o1+5) (cap1-1) us1 w5:=by rw [hw5];exact hrd4.next
     have k35:zc r w3 w5:=by rw [hw5];exact HK34.out.setCell _ _
     have hS:=HS.out;have hs5:=k35.size;have b5:=(k35.block w.heap.size (by omega) (by omega)).trans HB.out.1
     have p5:=(k35.block P (by omega) (by omega)).trans HB.out.2.1
     have r5:=(k35.block w1.heap.size (by omega) (by omega)).trans HB.out.2.2
     obtain ⟨m0,-,-,-,-,-,mf⟩:=zp p5;have mf0:=mf 0;obtain ⟨w6,hw6⟩:∃w6,w6=w5.setCell ⟨P,0,none⟩ (.int .i64 2):=⟨_,rfl⟩;have p6:w6.heap[P]?=some (vC 2 ⟨#[]⟩ (.slice (some ⟨w1.heap.size,0,none⟩) 1 1) (.slice none 0 0) (.slice none 0 0) 0):=by rw [hw6];exact zm _ p5
     have b6:w6.heap[w.heap.size]?=some YR:=by rw [hw6,Below.heap_setCell _ _ _ _ (by simp;omega)];exact b5
     have r6:w6.heap[w1.heap.size]?=some (exO x.kind xb xc (.slice x0 x1 x2) xl):=by rw [hw6,Below.heap_setCell _ _ _ _ (by simp;omega)];exact r5
     have hz6:w6.heap.size=w5.heap.size:=by rw [hw6];simp
     have hrd6:zh r g (o1+5) (cap1-1) us1 w6:=by rw [hw6];exact hrd5.setP _ (by omega) (by omega)
     have k6:zc r w w6:=by rw [hw6];exact (HK3.out.trans k35).setOther (by simp;omega) _
     have hx6:zY (fun k=>w0.heap.size≤k∧k<w1.heap.size) w6 x (.agg #[.int .i64 x.kind,.string xb,.int .i64 xc,.slice x0 x1 x2,.int .i64 xl]):=by
      rw [hw6];exact ((HX3.out.kept k35.size fun k hk hlt=>k35.block k hlt (by omega)).kept (by simp) fun k hk _=>Below.heap_setCell _ _ _ _ (by simp;omega))
     cases hb2:zk F 1 us1 with
     | none=>rw [hb2] at hp;cases hp
     | some r2 =>
      rw [hb2] at hp;have hE3:zj us1:=hE2;have HB6:Hid (w6.heap[w.heap.size]?=some YR∧w6.heap[P]?=some (vC 2 ⟨#[]⟩ (.slice (some ⟨w1.heap.size,0,none⟩) 1 1) (.slice none 0 0) (.slice none 0 0) 0)∧w6.heap[w1.heap.size]?=some (exO x.kind xb xc (.slice x0 x1 x2) xl)):=⟨b6,p6,r6⟩;have HX6:Hid (zY (fun k=>w0.heap.size≤k∧k<w1.heap.size) w6 x (.agg #[.int .i64 x.kind,.string xb,.int .i64 xc,.slice x0 x1 x2,.int .i64 xl])):=hx6
      have HK6:Hid (zc r w w6):=k6;have HS6:Hid (w0.heap.size=w.heap.size+1∧w1.heap.size+1=P∧P<w6.heap.size∧w0.heap.size≤w1.heap.size):=⟨hS.1,hS.2.1,by omega,hS.2.2.2⟩
      have cb:∀W:World,W.heap=w6.heap→W.os=w6.os→W.tape=w6.tape→W.output=w6.output→Calls Tryz.prog 44 #[.pointer (some ⟨r,0,none⟩)] W (zQ r g w6 r2):=fun W e1 e2 e3 e4=>by
       have hKW:zc r w6 W:=⟨e2,e3,e4,by rw [e1];exact Nat.le_refl _,fun k _ _=>by rw [e1]⟩
       refine (HEX.out W _ _ us1 r2 hb2 hE3 (hrd6.keep (by rw [e1]) (by rw [e1])) (HK6.out.trans hKW)).mono fun e w' hh=>?_
       refine ⟨hKW.trans hh.1,?_⟩;have h9:=hh.2;rw [e1] at h9;exact h9
      have CB:Hid (∀W:World,W.heap=w6.heap→W.os=w6.os→W.tape=w6.tape→W.output=w6.output→Calls Tryz.prog 44 #[.pointer (some ⟨r,0,none⟩)] W (zQ r g w6 r2)):=cb;have hw5':=hw5.symm;have hw6':=hw6.symm;clear cb hw5 hw6 b6 p6 r6 hx6 k6 hrd6 hz6 mf b5 p5 r5 hs5 hS k35 hrd5 hrd4 HB HX3 HK3 HS HRD3;go_wp2_with fail
      refine cpl.mono ?_;clear cpl p2 y0 y1 y2 y3 y4;rintro e w' ⟨rfl,he⟩;obtain rfl:=he.symm;clear he;go_wp2_with fail
      refine cst.mono ?_;clear cst hw5';rintro e w' ⟨rfl,he⟩;obtain rfl:=he.symm;clear he;rcases r2 with a2 | ⟨xq,us2⟩
      ·simp only [Option.some.injEq] at hp
       subst hp;have cu':∀W:World,W.heap=w6.heap→W.os=w6.os→W.tape=w6.tape→W.output=w6.output→Calls Tryz.prog 44 #[.pointer (some ⟨r,0,none⟩)] W fun e w'=>e=Z2 a2∧zc r w w':=fun W e1 e2 e3 e4=>(CB.out W e1 e2 e3 e4).mono fun e w' h=>⟨h.2,HK6.out.trans h.1⟩
       obtain ⟨-,-,lp2,-,-,-,-⟩:=zp HB6.out.2.1;clear CB;go_wp2_with fail
       go_region_dies
       all_goals (go_wp2_with fail;refine (cu' _ (by rfl) (by rfl) (by rfl) (by rfl)).mono ?_;rintro e w4 ⟨rfl,hk4⟩;exact ⟨rfl,hk4,rfl⟩)
      ·have hE4:=(ZF F).1 _ _ _ _ hb2 hE3
       obtain ⟨t4,us4,rfl⟩:=hE4.cons;simp only [Zf,zI,List.tail_cons] at hp
       have CU:Hid (∀W:World,W.heap=w6.heap→W.os=w6.os→W.tape=w6.tape→W.output=w6.output→Calls Tryz.prog 44 #[.pointer (some ⟨r,0,none⟩)] W fun e w'=>∃(ya:Int) (yb:ByteArray) (yc:Int) (y0:Option Addr) (y1 y2:Nat) (yl:Int),e=.returned (.agg #[.int .i64 ya,.string yb,.int .i64 yc,.slice y0 y1 y2,.int .i64 yl])∧Hid (zc r w6 w'∧ZO w6.heap.size w' xq (.agg #[.int .i64 ya,.string yb,.int .i64 yc,.slice y0 y1 y2,.int .i64 yl])∧∃o7 cap7,zh r g o7 cap7 (t4::us4) w')):=fun W e1 e2 e3 e4=>(CB.out W e1 e2 e3 e4).mono fun e w' h=>by
        obtain ⟨hk7,v,o7,cap7,rfl,hx7,hrd7⟩:=h;obtain ⟨ya,yb,yc,y0,y1,y2,yl,rfl⟩:=hx7.agg;exact ⟨ya,yb,yc,y0,y1,y2,yl,rfl,hk7,hx7,o7,cap7,hrd7⟩
       obtain ⟨-,-,lp2,-,-,-,-⟩:=zp HB6.out.2.1;clear CB hb2;go_wp2_with fail
       go_cut [] (fun wx=>qr r g w w0.heap.size P x xq (t4::us4) wx)
       case first =>
        refine YK (n:=8) (S:=fun _=>True) (by kernel_rfl) rfl rfl ?_
        refine Zz (fuel:=6) (fuel':=8) (idx:=[0,2]) (by decide +kernel) rfl rfl rfl (fun _ _ _ _ _ h=>h) trivial ?_
        show wpQuiet _ _ _ _ [_,_] _
        iterate 2 (go_big_quiet_step (exact rfl))
        refine wpQuiet_nil ?_;refine YV (fuel:=5) (fuel':=6) (i:=1) (k:=3) rfl rfl (by decide +kernel) rfl rfl rfl (by rfl) (by rfl) ?_ ?_
        ·intro K hK
         go_simp;refine hK.out _ _ trivial ?_;clear hK K;refine zG (fuel:=4) (fuel':=5) (i:=3) rfl (by decide +kernel) rfl rfl (by rfl) ?_
         intro K hK;go_simp;refine (CU.out _ (by rfl) (by rfl) (by rfl) (by rfl)).mono ?_
         rintro e w7 ⟨ya,yb,yc,y0,y1,y2,yl,rfl,H7⟩
         (try go_simp)
         refine hK.out _ _ trivial ?_;clear hK K;refine zG (fuel:=3) (fuel':=4) (i:=4) rfl (by decide +kernel) rfl rfl (by rfl) ?_
         intro K hK;go_simp;refine hK.out _ _ trivial ?_;clear hK K;obtain ⟨hk7,hx7,o7,cap7,hrd7⟩:=H7.out;have hs7:=hk7.size;have HS7:Hid (w0.heap.size≤w7.heap.size):=show _≤_ by have:=HS6.out;omega
         have HOWN:Hid (w7.ownsRow w0.heap.size 45 5 (.slice (some ⟨w1.heap.size,0,none⟩) 1 1) 1 [.int .i64 x.kind,.string xb,.int .i64 xc,.slice x0 x1 x2,.int .i64 xl]):=(Zu.ofBlock (E:=qW) (sz:=5) (ty:=45) (c:=[.int .i64 x.kind,.string xb,.int .i64 xc,.slice x0 x1 x2,.int .i64 xl]) ((hk7.block w1.heap.size (by have:=HS6.out;omega) (by have:=HS6.out;omega)).trans HB6.out.2.2) rfl HS6.out.2.2.2 (zY.wide (HX6.out.kept hk7.size fun k hk hlt=>hk7.block k hlt (by have:=HS6.out;omega)) fun k hk=>⟨hk.1,by omega⟩)).own
         have HP7:Hid (w7.heap[P]?=some (vC 2 ⟨#[]⟩ (.slice (some ⟨w1.heap.size,0,none⟩) 1 1) (.slice none 0 0) (.slice none 0 0) 0)):=(hk7.block P HS6.out.2.2.1 (by have:=HS6.out;omega)).trans HB6.out.2.1
         have HPl:Hid (P<w7.heap.size):=show _<_ by have:=HS6.out;omega
         have HPR:Hid (P≠w1.heap.size):=show _≠_ by have:=HS6.out;omega
         have HRD7:Hid (zh r g o7 cap7 (t4::us4) w7):=hrd7;clear hk7 hx7 hrd7 hs7;refine x6 (fuel:=2) (fuel':=3) (i:=5) rfl (by decide +kernel) rfl rfl (by rfl) ?_
         intro K hK;refine yW _ _ 43 rfl (by rfl) w0.heap.size 45 i0 _ 5 64 Tryz.underlying43 hi0 hz0 hz1 hz2 rfl (by decide) _ _ _ rfl (HOWN.out.alloc _) ⟨w7.heap.size,0,none⟩ 1 1 [.int .i64 ya,.string yb,.int .i64 yc,.slice y0 y1 y2,.int .i64 yl] rfl rfl (Zl _ _ _) (by simp [Value.oneCell']) (by unfold maxLen;omega) (by omega) (by have:=HS7.out;simp;omega) ?_
         intro v' w9 hown' hgrow0 hat0;have hgrow:(w7.alloc (.cells #[.int .i64 ya,.string yb,.int .i64 yc,.slice y0 y1 y2,.int .i64 yl] 45)).grownBy w9 (some w1.heap.size):=hgrow0;have hat:v'.ownBlock=some w1.heap.size∨v'.ownBlock=some (w7.alloc (.cells #[.int .i64 ya,.string yb,.int .i64 yc,.slice y0 y1 y2,.int .i64 yl] 45)).heap.size:=hat0;clear hgrow0 hat0
         obtain ⟨vg,vc,hv'⟩:∃vg vc,v'=.slice (some ⟨vg,0,none⟩) 2 vc:=by
          rcases hown'.2 with ⟨_,h0⟩ | ⟨g',cap',_,h1,_⟩
          ·omega
          ·exact ⟨g',cap',h1⟩
         subst hv';have HCT:Hid (qr r g w w0.heap.size P x xq (t4::us4) (w9.setCell ⟨P,2,none⟩ (.slice (some ⟨vg,0,none⟩) 2 vc))):=zcS (c1:=[.int .i64 x.kind,.string xb,.int .i64 xc,.slice x0 x1 x2,.int .i64 xl]) (c2:=[.int .i64 ya,.string yb,.int .i64 yc,.slice y0 y1 y2,.int .i64 yl]) HK6.out HB6.out.1 HB6.out.2.1 HB6.out.2.2 HX6.out rfl (by have:=HS6.out;omega) HS6.out.2.2.2 HS6.out.2.1 HS6.out.2.2.1 hr hgw H7.out.1 H7.out.2.1 rfl HRD7.out hown' hgrow hat
         have p9:w9.heap[P]?=some (vC 2 ⟨#[]⟩ (.slice (some ⟨w1.heap.size,0,none⟩) 1 1) (.slice none 0 0) (.slice none 0 0) 0):=(hgrow.block P (by have:=HPl.out;simp;omega) (by simpa using HPR.out)).trans ((Below.heap_alloc _ _ _ HPl.out).trans HP7.out)
         obtain ⟨-,-,n2,-,-,-,nf⟩:=zp p9;have nf2:=nf 2;clear hown' hgrow hat p9 nf;refine hK.out _ _ trivial ?_;clear hK K;simp only [Act.put,List.setIfInBounds_toArray,List.set_cons_zero,List.set_cons_succ];refine Zz (fuel:=1) (fuel':=2) (idx:=[6]) (by decide +kernel) rfl rfl rfl (fun _ _ _ _ _ h=>h) trivial ?_
         show wpQuiet _ _ _ _ [_] _
         iterate 1 (go_big_quiet_step (exact rfl))
         refine wpQuiet_nil ?_;refine zG (fuel:=0) (fuel':=1) (i:=7) rfl (by decide +kernel) rfl rfl (by rfl) ?_
         intro K hK;go_simp;refine hK.out _ _ trivial ?_;clear hK K;refine ym (by decide +kernel) ?_
         go_wp2_with fail
         go_meet
         exact HCT.out
        ·intro K hK
         go_simp;refine (CU.out _ (by rfl) (by rfl) (by rfl) (by rfl)).mono ?_
         rintro e w7 ⟨ya,yb,yc,y0,y1,y2,yl,rfl,H7⟩
         (try go_simp)
         refine hK.out _ _ trivial ?_;clear hK K;obtain ⟨-,-,lp2,-,-,-,-⟩:=zp ((H7.out.1.block P HS6.out.2.2.1 (by have:=HS6.out;omega)).trans HB6.out.2.1)
         have lp2':=ze lp2;refine YV (fuel:=4) (fuel':=5) (i:=1) (k:=4) rfl rfl (by decide +kernel) rfl rfl rfl (by rfl) (by rfl) ?_ ?_
         ·intro K hK
          go_simp;refine hK.out _ _ trivial ?_;clear hK K;refine zG (fuel:=3) (fuel':=4) (i:=4) rfl (by decide +kernel) rfl rfl (by rfl) ?_
          intro K hK;go_simp;refine hK.out _ _ trivial ?_;clear hK K;obtain ⟨hk7,hx7,o7,cap7,hrd7⟩:=H7.out;have hs7:=hk7.size;have HS7:Hid (w0.heap.size≤w7.heap.size):=show _≤_ by have:=HS6.out;omega
          have HOWN:Hid (w7.ownsRow w0.heap.size 45 5 (.slice (some ⟨w1.heap.size,0,none⟩) 1 1) 1 [.int .i64 x.kind,.string xb,.int .i64 xc,.slice x0 x1 x2,.int .i64 xl]):=(Zu.ofBlock (E:=qW) (sz:=5) (ty:=45) (c:=[.int .i64 x.kind,.string xb,.int .i64 xc,.slice x0 x1 x2,.int .i64 xl]) ((hk7.block w1.heap.size (by have:=HS6.out;omega) (by have:=HS6.out;omega)).trans HB6.out.2.2) rfl HS6.out.2.2.2 (zY.wide (HX6.out.kept hk7.size fun k hk hlt=>hk7.block k hlt (by have:=HS6.out;omega)) fun k hk=>⟨hk.1,by omega⟩)).own
          have HP7:Hid (w7.heap[P]?=some (vC 2 ⟨#[]⟩ (.slice (some ⟨w1.heap.size,0,none⟩) 1 1) (.slice none 0 0) (.slice none 0 0) 0)):=(hk7.block P HS6.out.2.2.1 (by have:=HS6.out;omega)).trans HB6.out.2.1
          have HPl:Hid (P<w7.heap.size):=show _<_ by have:=HS6.out;omega
          have HPR:Hid (P≠w1.heap.size):=show _≠_ by have:=HS6.out;omega
          have HRD7:Hid (zh r g o7 cap7 (t4::us4) w7):=hrd7;clear hk7 hx7 hrd7 hs7;refine x6 (fuel:=2) (fuel':=3) (i:=5) rfl (by decide +kernel) rfl rfl (by rfl) ?_
          intro K hK;refine yW _ _ 43 rfl (by rfl) w0.heap.size 45 i0 _ 5 64 Tryz.underlying43 hi0 hz0 hz1 hz2 rfl (by decide) _ _ _ rfl (HOWN.out.alloc _) ⟨w7.heap.size,0,none⟩ 1 1 [.int .i64 ya,.string yb,.int .i64 yc,.slice y0 y1 y2,.int .i64 yl] rfl rfl (Zl _ _ _) (by simp [Value.oneCell']) (by unfold maxLen;omega) (by omega) (by have:=HS7.out;simp;omega) ?_
          intro v' w9 hown' hgrow0 hat0;have hgrow:(w7.alloc (.cells #[.int .i64 ya,.string yb,.int .i64 yc,.slice y0 y1 y2,.int .i64 yl] 45)).grownBy w9 (some w1.heap.size):=hgrow0;have hat:v'.ownBlock=some w1.heap.size∨v'.ownBlock=some (w7.alloc (.cells #[.int .i64 ya,.string yb,.int .i64 yc,.slice y0 y1 y2,.int .i64 yl] 45)).heap.size:=hat0;clear hgrow0 hat0
          obtain ⟨vg,vc,hv'⟩:∃vg vc,v'=.slice (some ⟨vg,0,none⟩) 2 vc:=by
           rcases hown'.2 with ⟨_,h0⟩ | ⟨g',cap',_,h1,_⟩
           ·omega
           ·exact ⟨g',cap',h1⟩
          subst hv';have HCT:Hid (qr r g w w0.heap.size P x xq (t4::us4) (w9.setCell ⟨P,2,none⟩ (.slice (some ⟨vg,0,none⟩) 2 vc))):=zcS (c1:=[.int .i64 x.kind,.string xb,.int .i64 xc,.slice x0 x1 x2,.int .i64 xl]) (c2:=[.int .i64 ya,.string yb,.int .i64 yc,.slice y0 y1 y2,.int .i64 yl]) HK6.out HB6.out.1 HB6.out.2.1 HB6.out.2.2 HX6.out rfl (by have:=HS6.out;omega) HS6.out.2.2.2 HS6.out.2.1 HS6.out.2.2.1 hr hgw H7.out.1 H7.out.2.1 rfl HRD7.out hown' hgrow hat
          have p9:w9.heap[P]?=some (vC 2 ⟨#[]⟩ (.slice (some ⟨w1.heap.size,0,none⟩) 1 1) (.slice none 0 0) (.slice none 0 0) 0):=(hgrow.block P (by have:=HPl.out;simp;omega) (by simpa using HPR.out)).trans ((Below.heap_alloc _ _ _ HPl.out).trans HP7.out)
          obtain ⟨-,-,n2,-,-,-,nf⟩:=zp p9;have nf2:=nf 2;clear hown' hgrow hat p9 nf;refine hK.out _ _ trivial ?_;clear hK K;simp only [Act.put,List.setIfInBounds_toArray,List.set_cons_zero,List.set_cons_succ];refine Zz (fuel:=1) (fuel':=2) (idx:=[6]) (by decide +kernel) rfl rfl rfl (fun _ _ _ _ _ h=>h) trivial ?_
          show wpQuiet _ _ _ _ [_] _
          iterate 1 (go_big_quiet_step (exact rfl))
          refine wpQuiet_nil ?_;refine zG (fuel:=0) (fuel':=1) (i:=7) rfl (by decide +kernel) rfl rfl (by rfl) ?_
          intro K hK;go_simp;refine hK.out _ _ trivial ?_;clear hK K;refine ym (by decide +kernel) ?_
          go_wp2_with fail
          go_meet
          exact HCT.out
         ·intro K hK
          go_simp;refine hK.out _ _ trivial ?_;clear hK K;refine zG (fuel:=3) (fuel':=4) (i:=1) rfl (by decide +kernel) rfl rfl (by rfl) ?_
          intro K hK;go_simp;refine hK.out _ _ trivial ?_;clear hK K;obtain ⟨hk7,hx7,o7,cap7,hrd7⟩:=H7.out;have hs7:=hk7.size;have HS7:Hid (w0.heap.size≤w7.heap.size):=show _≤_ by have:=HS6.out;omega
          have HOWN:Hid (w7.ownsRow w0.heap.size 45 5 (.slice (some ⟨w1.heap.size,0,none⟩) 1 1) 1 [.int .i64 x.kind,.string xb,.int .i64 xc,.slice x0 x1 x2,.int .i64 xl]):=(Zu.ofBlock (E:=qW) (sz:=5) (ty:=45) (c:=[.int .i64 x.kind,.string xb,.int .i64 xc,.slice x0 x1 x2,.int .i64 xl]) ((hk7.block w1.heap.size (by have:=HS6.out;omega) (by have:=HS6.out;omega)).trans HB6.out.2.2) rfl HS6.out.2.2.2 (zY.wide (HX6.out.kept hk7.size fun k hk hlt=>hk7.block k hlt (by have:=HS6.out;omega)) fun k hk=>⟨hk.1,by omega⟩)).own
          have HP7:Hid (w7.heap[P]?=some (vC 2 ⟨#[]⟩ (.slice (some ⟨w1.heap.size,0,none⟩) 1 1) (.slice none 0 0) (.slice none 0 0) 0)):=(hk7.block P HS6.out.2.2.1 (by have:=HS6.out;omega)).trans HB6.out.2.1
          have HPl:Hid (P<w7.heap.size):=show _<_ by have:=HS6.out;omega
          have HPR:Hid (P≠w1.heap.size):=show _≠_ by have:=HS6.out;omega
          have HRD7:Hid (zh r g o7 cap7 (t4::us4) w7):=hrd7;clear hk7 hx7 hrd7 hs7;refine x6 (fuel:=2) (fuel':=3) (i:=5) rfl (by decide +kernel) rfl rfl (by rfl) ?_
          intro K hK;refine yW _ _ 43 rfl (by rfl) w0.heap.size 45 i0 _ 5 64 Tryz.underlying43 hi0 hz0 hz1 hz2 rfl (by decide) _ _ _ rfl (HOWN.out.alloc _) ⟨w7.heap.size,0,none⟩ 1 1 [.int .i64 ya,.string yb,.int .i64 yc,.slice y0 y1 y2,.int .i64 yl] rfl rfl (Zl _ _ _) (by simp [Value.oneCell']) (by unfold maxLen;omega) (by omega) (by have:=HS7.out;simp;omega) ?_
          intro v' w9 hown' hgrow0 hat0;have hgrow:(w7.alloc (.cells #[.int .i64 ya,.string yb,.int .i64 yc,.slice y0 y1 y2,.int .i64 yl] 45)).grownBy w9 (some w1.heap.size):=hgrow0;have hat:v'.ownBlock=some w1.heap.size∨v'.ownBlock=some (w7.alloc (.cells #[.int .i64 ya,.string yb,.int .i64 yc,.slice y0 y1 y2,.int .i64 yl] 45)).heap.size:=hat0;clear hgrow0 hat0
          obtain ⟨vg,vc,hv'⟩:∃vg vc,v'=.slice (some ⟨vg,0,none⟩) 2 vc:=by
           rcases hown'.2 with ⟨_,h0⟩ | ⟨g',cap',_,h1,_⟩
           ·omega
           ·exact ⟨g',cap',h1⟩
          subst hv';have HCT:Hid (qr r g w w0.heap.size P x xq (t4::us4) (w9.setCell ⟨P,2,none⟩ (.slice (some ⟨vg,0,none⟩) 2 vc))):=zcS (c1:=[.int .i64 x.kind,.string xb,.int .i64 xc,.slice x0 x1 x2,.int .i64 xl]) (c2:=[.int .i64 ya,.string yb,.int .i64 yc,.slice y0 y1 y2,.int .i64 yl]) HK6.out HB6.out.1 HB6.out.2.1 HB6.out.2.2 HX6.out rfl (by have:=HS6.out;omega) HS6.out.2.2.2 HS6.out.2.1 HS6.out.2.2.1 hr hgw H7.out.1 H7.out.2.1 rfl HRD7.out hown' hgrow hat
          have p9:w9.heap[P]?=some (vC 2 ⟨#[]⟩ (.slice (some ⟨w1.heap.size,0,none⟩) 1 1) (.slice none 0 0) (.slice none 0 0) 0):=(hgrow.block P (by have:=HPl.out;simp;omega) (by simpa using HPR.out)).trans ((Below.heap_alloc _ _ _ HPl.out).trans HP7.out)
          obtain ⟨-,-,n2,-,-,-,nf⟩:=zp p9;have nf2:=nf 2;clear hown' hgrow hat p9 nf;refine hK.out _ _ trivial ?_;clear hK K;simp only [Act.put,List.setIfInBounds_toArray,List.set_cons_zero,List.set_cons_succ];refine Zz (fuel:=1) (fuel':=2) (idx:=[6]) (by decide +kernel) rfl rfl rfl (fun _ _ _ _ _ h=>h) trivial ?_
          show wpQuiet _ _ _ _ [_] _
          iterate 1 (go_big_quiet_step (exact rfl))
          refine wpQuiet_nil ?_;refine zG (fuel:=0) (fuel':=1) (i:=7) rfl (by decide +kernel) rfl rfl (by rfl) ?_
          intro K hK;go_simp;refine hK.out _ _ trivial ?_;clear hK K;refine ym (by decide +kernel) ?_
          go_wp2_with fail
          go_meet
          exact HCT.out
       case rest =>
        obtain ⟨o7,cap7,g',cap',k7,b7,p7,hrow7,hrd7⟩:=hcut;have cn:=Yt r g o7 cap7 t4 us4 [59] wc hrd7 (fun hi=>(hE4.tail (zl hi)).ne)
        have HB7:Hid (wc.heap[w.heap.size]?=some YR∧wc.heap[P]?=some (vC 2 ⟨#[]⟩ (.slice (some ⟨g',0,none⟩) 2 cap') (.slice none 0 0) (.slice none 0 0) 0)):=⟨b7,p7⟩;have HROW7:Hid (zv (fun k=>w0.heap.size≤k) wc [x,xq] (.slice (some ⟨g',0,none⟩) 2 cap')):=hrow7
        have HK7:Hid (zc r w wc):=k7;clear b7 p7 hrow7 k7 hrd7 CU lp2
        by_cases hm:zn t4 [59]=true
        ·simp only [if_pos hm] at cn
         simp only [if_pos hm,Option.some.injEq] at hp;subst hp;go_wp2_with fail
         refine cn.mono ?_;clear cn;rintro e w8 ⟨hk8,rfl,h8⟩;have hS:=HS6.out;have hs7:=HK7.out.size;have hPl:P<wc.heap.size:=(Array.getElem?_eq_some_iff.1 HB7.out.2).1;have b8:=(hk8.block w.heap.size (by omega) (by omega)).trans HB7.out.1
         have p8:=(hk8.block P hPl (by omega)).trans HB7.out.2
         have hrow8:=HROW7.out.keptR hk8 fun k hk=>by omega
         obtain ⟨e0,e1,e2,e3,e4,e5,-⟩:=zp p8;obtain ⟨q0,q1,q2,q3,q4,q5,qf⟩:=zp b8;obtain ⟨z0,z1,z2,z3,z4,z5,-⟩:=zp (zP b8 (.int .i64 2) (.string ⟨#[]⟩) (.slice (some ⟨g',0,none⟩) 2 cap') (.slice none 0 0) (.slice none 0 0) (.int .i64 0))
         have HP:Hid (Z0 r g w (.ok (.mk 2 [] [x,xq] [] [] 0,us4)) (.returned (.agg #[.int .i64 2,.string ⟨#[]⟩,.slice (some ⟨g',0,none⟩) 2 cap',.slice none 0 0,.slice none 0 0,.int .i64 0])) (Yu w8 w.heap.size (.int .i64 2) (.string ⟨#[]⟩) (.slice (some ⟨g',0,none⟩) 2 cap') (.slice none 0 0) (.slice none 0 0) (.int .i64 0))) :=
          Z0.of_set6 (B:=w0.heap.size) 2 [] 0 (HK7.out.trans hk8) (Nat.le_refl _) hr hgw hrow8 (zD.nil _ _) (zD.nil _ _) (by omega) h8
         clear b8 p8 hrow8 hk8 hS hs7 hPl h8 HB7 HROW7 HK7 HB6 HX6 HK6 HS6;go_wp2
         exact bodyPost_ret (v:=.agg #[.int .i64 2,.string ⟨#[]⟩,.slice (some ⟨g',0,none⟩) 2 cap',.slice none 0 0,.slice none 0 0,.int .i64 0]) (by simp [results,Tryz.results169,go_sem,z0,z1,z2,z3,z4,z5]) rfl HP.out
        ·simp only [if_neg hm] at cn
         simp only [if_neg hm,Option.some.injEq] at hp;subst hp;go_wp2_with fail
         refine cn.mono ?_;clear cn;rintro e w8 ⟨hk8,rfl⟩;exact ⟨rfl,HK7.out.trans hk8,rfl⟩
    ·have hpl':YQ x=false:=by simpa using hpl
     rw [hpl'] at cpl;rw [if_neg hpl] at hp;simp only [Option.some.injEq] at hp;subst hp;have cg:=UZ r g o1 cap1 t1 us1 w4 hrd4;clear hrd4;go_wp2_with fail
     refine cpl.mono ?_;clear cpl p2 y0 y1 y2 y3 y4;rintro e w' ⟨rfl,he⟩;obtain rfl:=he.symm;clear he;go_wp2_with fail
     refine cg.mono ?_;clear cg;rintro e _ ⟨rfl,rfl⟩;exact ⟨rfl,(HK3.out.trans HK34.out).alloc _,rfl⟩
   ·have hi':zn t1 [61]=false:=by simpa using hi
    rw [hi'] at ci;rw [if_neg hi] at hp
    unfold Zf at hp
    simp only [zI,List.tail_cons] at hp;have cn:=Yt r g o1 cap1 t1 us1 [59] w3 HRD3.out (fun hi=>(hE1.tail (zl hi)).ne)
    go_wp2_with fail
    rw [←HW2.out];refine ci.mono ?_;clear ci HW2;rintro e w' ⟨rfl,he⟩;obtain rfl:=he.symm;clear he;rw [HPP.out]
    by_cases hm:zn t1 [59]=true
    ·simp only [if_pos hm] at cn
     rw [if_pos hm] at hp;simp only [Option.some.injEq] at hp;subst hp;go_wp2_with fail
     refine cn.mono ?_;clear cn;rintro e w5 ⟨hk5,rfl,h5⟩;have hS:=HS.out;have hs5:=hk5.size;have b5:=(hk5.block w.heap.size (by omega) (by omega)).trans HB.out.1
     have p5:=(hk5.block P (by omega) (by omega)).trans HB.out.2.1
     have r5:=(hk5.block w1.heap.size (by omega) (by omega)).trans HB.out.2.2
     have hx5:=HX3.out.kept hk5.size fun k hk hlt=>hk5.block k hlt (by omega)
     have k5:zc r w w5:=HK3.out.trans hk5;have hrow5:zv (fun k=>w0.heap.size≤k) w5 [x] (.slice (some ⟨w1.heap.size,0,none⟩) 1 1):=Zu.row (Zu.ofBlock (E:=qW) (sz:=5) (ty:=45) (c:=[.int .i64 x.kind,.string xb,.int .i64 xc,.slice x0 x1 x2,.int .i64 xl]) r5 rfl hS.2.2.2 (zY.wide hx5 fun k hk=>⟨hk.1,by omega⟩))
     obtain ⟨e0,e1,e2,e3,e4,e5,-⟩:=zp p5;obtain ⟨q0,q1,q2,q3,q4,q5,qf⟩:=zp b5;obtain ⟨z0,z1,z2,z3,z4,z5,-⟩:=zp (zP b5 (.int .i64 7) (.string ⟨#[]⟩) (.slice (some ⟨w1.heap.size,0,none⟩) 1 1) (.slice none 0 0) (.slice none 0 0) (.int .i64 0))
     have HP:Hid (Z0 r g w (.ok (.mk 7 [] [x] [] [] 0,us1)) (.returned (.agg #[.int .i64 7,.string ⟨#[]⟩,.slice (some ⟨w1.heap.size,0,none⟩) 1 1,.slice none 0 0,.slice none 0 0,.int .i64 0])) (Yu w5 w.heap.size (.int .i64 7) (.string ⟨#[]⟩) (.slice (some ⟨w1.heap.size,0,none⟩) 1 1) (.slice none 0 0) (.slice none 0 0) (.int .i64 0))) :=
      Z0.of_set6 (B:=w0.heap.size) 7 [] 0 k5 (Nat.le_refl _) hr hgw hrow5 (zD.nil _ _) (zD.nil _ _) (by omega) h5
     clear b5 p5 r5 hx5 k5 hrow5 hk5 hs5 hS h5 HB HX3 HK3 HS HRD3;go_wp2
     exact bodyPost_ret (v:=.agg #[.int .i64 7,.string ⟨#[]⟩,.slice (some ⟨w1.heap.size,0,none⟩) 1 1,.slice none 0 0,.slice none 0 0,.int .i64 0]) (by simp [results,Tryz.results169,go_sem,z0,z1,z2,z3,z4,z5]) rfl HP.out
    ·simp only [if_neg hm] at cn
     rw [if_neg hm] at hp;simp only [Option.some.injEq] at hp;subst hp;go_wp2_with fail
     refine cn.mono ?_;clear cn;rintro e w5 ⟨hk5,rfl⟩;exact ⟨rfl,HK3.out.trans hk5,rfl⟩
end Go.Proofs.YtpejpbbdgblbeaaGreatDoor
