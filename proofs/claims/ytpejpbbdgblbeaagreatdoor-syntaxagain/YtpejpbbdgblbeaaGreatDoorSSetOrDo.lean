import Derived.Test.YtpejpbbdgblbeaaGreatDoorMC23
import Derived.Test.YtpejpbbdgblbeaaGreatDoorMC24
import Derived.Deep.DeepCutAuto
namespace Go.Proofs.YtpejpbbdgblbeaaGreatDoor
open Go.RowKit Go.Shelf
set_option maxHeartbeats 16000000
set_option maxRecDepth 100000
theorem Zj.ofBlock {α:Type} {E:(Nat→Prop)→World→α→List Value→Prop} {sz ty B g:Nat} {w:World} {x:α} {c:List Value} (hb:w.heap[g]?=some (.cells c.toArray ty (0,0))) (hc:c.length=sz) (hB:B≤g) (hx:E (fun k=>B≤k∧k≠g) w x c) :
  Zj E sz ty B w [x] (.slice (some ⟨g,0,none⟩) 1 1) g 1 [c] where
 val:=rfl
 ne:=by simp
 own:=by
  refine ⟨by simp [hc],.inr ⟨g,1,c.toArray,rfl,hB,hb,Nat.le_refl _,by simp [maxLen],by simp [hc],?_⟩⟩
  simp [hc,List.take_of_length_le]
 len:=rfl
 wid:=by simp [hc]
 kids:=fun j y d hy hd=>by
  cases j with
  | succ j=>simp at hy
  | zero =>
   simp only [List.getElem?_cons_zero,Option.some.injEq] at hy hd;subst hy hd;exact hx
theorem ym {P:Program} {ops:Array Oper} {o:Oper} {a:Act} {w:World} {K:Act→World→Prop} {Q:Exit→Act→World→Prop} {E:Prop} (s x:Operand) (t:TypeId)
  (ho:o.op=.call { callee:=.builtin .append,args:=#[s,x],argTypes:=#[t,t] }) (hw:Region.wanted o (yielded ops a.tmps)=true)
  (base:Nat) (e:TypeId) (i:TypeInfo) (z:Value) (size bytes:Nat) (ht:P.underlying t=some (.slice e)) (hi:P.info? e=some i) (hz:i.zero=some z)
  (hsize:i.size=size) (hby:i.bytes=bytes) (hzs:z.cells.size=size) (hsz:0<size)
  (v:Value) (n:Nat) (xs:List Value) (hs:a.eval s=v) (hown:w.ownsRow base e size v n xs)
  (ad:Addr) (m c:Nat) (news:List Value) (hx:a.eval x=.slice (some ad) m c) (hl:news.length=m*size) (hnews:∀j u,news[j]?=some u→w.cell? (ad.add j)=some u) (h1:∀u∈news,u.oneCell'=true)
  (h63:n+m≤maxLen) (hbytes:(n+m)*bytes≤140737488355328) (hbase:base≤w.heap.size)
  (h:∀y w',w'.ownsRow base e size y (n+m) (xs++news)→w.grownBy w' v.ownBlock→(y.ownBlock=v.ownBlock∨y.ownBlock=some w.heap.size)→K (a.put o.dst y) w') :
  if Region.wanted o (yielded ops a.tmps)=true then Oper.wp P o a w K Q else E:=by
 rw [if_pos hw];obtain ⟨y,w',A,G,H,-,D⟩:=run_append_own_at (P:=P) w base t o.type e i z size bytes ht hi hz hsize hby hzs hsz v n xs hown ad m c news hl hnews h1 h63 hbytes hbase
 unfold Oper.wp
 simp [execOp,ho,resolve,invoke,builtin,hs,hx,A,Result.andThen]
 exact h y w' G H D
def ExP (P:Nat) (S:Nat→Prop) (w:World) (x:Ex) (c:List Value):Prop:=ExE (fun k=>S k∧k≠P) w x c
theorem zgH (P:Nat):yd (ExP P):=⟨fun h hs hb=>xe.kept h hs fun k hk hlt=>hb k hk.1 hlt,fun h hS=>xe.wide h fun k hk=>⟨hS k hk.1,hk.2⟩,fun h=>xe.wide (xe.low h) fun _ hk=>⟨⟨hk.1.1,hk.2⟩,hk.1.2⟩⟩
theorem Zj.rowP {P ty B:Nat} {w:World} {l:List Ex} {v:Value} {g cap:Nat} {us:List (List Value)} (h:Zj (ExP P) 5 ty B w l v g cap us) (hg:g≠P):zK (fun k=>B≤k∧k≠P) w l v:=by
 have o:=h.block;refine .inr ⟨g,cap,us,h.val,h.ne,h.len,⟨o.1,hg⟩,o.2.1,o.2.2.1,o.2.2.2,fun j u hj=>?_,h.wid,fun j x c y hc=>zZ.wide (h.kids j x c y hc) fun k hk=>⟨hk.1.1,hk.2⟩⟩
 have y:=h.own.cells (g:=g) (by rw [h.val];rfl) j u hj
 by_cases h0:j=0
 ·subst h0;simpa [Addr.add] using y
 ·simpa [Addr.add,h0] using y
def UF (r g:Nat) (w:World) (B P:Nat) (x x2:Ex) (us:List Tk) (wx:World):Prop :=
 ∃o7 cap7 g' cap',zd r w wx∧wx.heap[w.heap.size]?=some xw∧wx.heap[P]?=some (XC 2 ⟨#[]⟩ (.slice (some ⟨g',0,none⟩) 2 cap') (.slice none 0 0) (.slice none 0 0) 0)∧zK (fun k=>B≤k) wx [x,x2] (.slice (some ⟨g',0,none⟩) 2 cap')∧zg r g o7 cap7 us wx
theorem zb5 {r g P B Rg o7 cap7:Nat} {w w6 w7 w9:World} {x x2:Ex} {c1 c2:List Value} {us:List Tk} {v':Value} {ob:Obj} (hK6:zd r w w6) (b6:w6.heap[w.heap.size]?=some xw) (p6:w6.heap[P]?=some (XC 2 ⟨#[]⟩ (.slice (some ⟨Rg,0,none⟩) 1 1) (.slice none 0 0) (.slice none 0 0) 0)) (r6:w6.heap[Rg]?=some (.cells c1.toArray 45 (0,0)))
  (hx6:zZ (fun k=>B≤k∧k<Rg) w6 x (.agg c1.toArray)) (hc1:c1.length=5) (hBw:w.heap.size<B) (hBR:B≤Rg) (hRP:Rg+1=P) (hP:P<w6.heap.size) (hr:r<w.heap.size) (hg:g<w.heap.size) (hk7:zd r w6 w7) (hx7:ZL w6.heap.size w7 x2 (.agg c2.toArray)) (hc2:c2.length=5) (hrd7:zg r g o7 cap7 us w7)
  (ho:w9.ownsRow B 45 5 v' (1+1) (c1++c2)) (hgr:(w7.alloc ob).grownBy w9 (some Rg)) (hat:v'.ownBlock=some Rg∨v'.ownBlock=some (w7.alloc ob).heap.size):UF r g w B P x x2 us (w9.setCell ⟨P,2,none⟩ v'):=by
 have I:=hk7.size
 have y:Zj (ExP P) 5 45 B w7 [x] (.slice (some ⟨Rg,0,none⟩) 1 1) Rg 1 [c1] :=
  Zj.ofBlock ((hk7.block Rg (by omega) (by omega)).trans r6) hc1 hBR (zZ.wide (hx6.kept hk7.size fun k hk hlt=>hk7.block k hlt (by omega)) fun k hk=>⟨⟨hk.1,by omega⟩,by omega⟩)
 obtain ⟨D,A,o,H⟩:=y.snoc (zgH P) (x:=x2) (c:=c2) (ob:=ob) (zZ.wide hx7 fun k hk=>⟨⟨by omega,by omega⟩,by omega⟩) hc2 (by simpa using ho) hgr hat
 have z:=o.val;simp only [List.cons_append,List.nil_append,List.length_cons,List.length_nil,Nat.zero_add] at z;subst z;have h:∀k,k≠Rg→k<w7.heap.size→w9.heap[k]?=w7.heap[k]?:=fun k hk hlt=>(hgr.block k (by simp;omega) (by simpa using hk)).trans (Below.heap_alloc _ _ _ hlt)
 have G:w9.heap[P]?=some (XC 2 ⟨#[]⟩ (.slice (some ⟨Rg,0,none⟩) 1 1) (.slice none 0 0) (.slice none 0 0) 0):=(h P (by omega) (by omega)).trans ((hk7.block P hP (by omega)).trans p6)
 have J:zd r w w9:=((hK6.trans hk7).alloc ob).grown hgr fun k hk=>by have:=Option.some.inj hk;omega
 refine ⟨o7,cap7,D,A,J.setOther (by simp;omega) _,?_,zq _ G,?_,?_⟩
 ·rw [Below.heap_setCell _ _ _ _ (by simp;omega)]
  exact (h w.heap.size (by omega) (by omega)).trans ((hk7.block _ (by omega) (by omega)).trans b6)
 ·exact ((o.rowP (by omega)).setP _ fun k hk=>hk.2).wide fun k hk=>hk.1
 ·exact (hrd7.keep (h r (by omega) (by omega)) (h g (by omega) (by omega))).setP _ (by omega) (by omega)
theorem zdO (r g o cap F:Nat) (ts:List Tk) (w:World) (R:PR St) (h:zg r g o cap ts w) (hE:zi ts) (hp:setP F ts 0=some R)
  (hex:∀z o1 D ts1 r1,zf F 1 ts1=some r1→zi ts1→zg r g o1 D ts1 z→zd r w z→Calls Tryz.prog 44 #[.pointer (some ⟨r,0,none⟩)] z (zJ r g z r1)) :
  Calls Tryz.prog 169 #[.pointer (some ⟨r,0,none⟩)] w (ZH r g w R):=by
 obtain ⟨i0,a0,a1,a4,aX⟩:=info_parts qX;obtain ⟨t0,aY,rfl⟩:=hE.cons;have hr:=h.lt.1;have aB:=h.lt.2
 unfold setP at hp
 obtain ⟨w0,au⟩:∃w0,w0=w.alloc xw:=⟨_,rfl⟩;have h0:zg r g o cap (t0::aY) w0:=by rw [au];exact h.alloc _
 have k0:zd r w w0:=by rw [au];exact (zd.refl r w).alloc _
 have b0:w0.heap[w.heap.size]?=some xw:=by rw [au];exact World.alloc_heap_new _ _
 have bc:w0.heap.size=w.heap.size+1:=by rw [au];simp
 have bj:Hid (w0=w.alloc xw):=au;have bu:Hid (∀z o1 D ts1 r1,zf F 1 ts1=some r1→zi ts1→zg r g o1 D ts1 z→zd r w z→Calls Tryz.prog 44 #[.pointer (some ⟨r,0,none⟩)] z (zJ r g z r1)):=hex;cases hb1:zf F 1 (t0::aY) with
 | none=>rw [hb1] at hp;cases hp
 | some r1 =>
  have ce:=hex w0 o cap (t0::aY) r1 hb1 hE h0 k0;rw [hb1] at hp;clear hex h h0 au
  go_enter Tryz.func169,Tryz.ntmps169
  go_wp2_with fail
  rw [←bj.out];refine ce.mono ?_;clear ce bj;rintro e z ⟨aC,aI⟩;rcases r1 with a | ⟨x,us⟩
  ·obtain rfl:=aI
   simp only [zh,Option.some.injEq] at hp;subst hp;exact ⟨rfl,k0.trans aC,rfl⟩
  ·obtain ⟨v,o1,D,rfl,hx,bq⟩:=aI
   obtain ⟨xa,V,Z,x0,x1,x2,Y,rfl⟩:=hx.agg;have bx:=hx.kind_eq;subst bx;have a3:=(Zi F).1 _ _ _ _ hb1 hE;simp only [zh] at hp;have br:=aC.size;obtain ⟨P,hP⟩:∃P,P=z.heap.size+1:=⟨_,rfl⟩;obtain ⟨w2,ad⟩:∃w2,w2=(z.alloc (exO x.kind V Z (.slice x0 x1 x2) Y)).alloc (XC 7 ⟨#[]⟩ (.slice (some ⟨z.heap.size,0,none⟩) 1 1) (.slice none 0 0) (.slice none 0 0) 0):=⟨_,rfl⟩;have bt:w2.heap.size=P+1:=by rw [ad,hP];simp
   have a7:w2.heap[P]?=some (XC 7 ⟨#[]⟩ (.slice (some ⟨z.heap.size,0,none⟩) 1 1) (.slice none 0 0) (.slice none 0 0) 0):=by
    rw [ad,hP]
    have:=World.alloc_heap_new (z.alloc (exO x.kind V Z (.slice x0 x1 x2) Y)) (XC 7 ⟨#[]⟩ (.slice (some ⟨z.heap.size,0,none⟩) 1 1) (.slice none 0 0) (.slice none 0 0) 0)
    simpa using this
   have bi:w2.heap[z.heap.size]?=some (exO x.kind V Z (.slice x0 x1 x2) Y):=by
    rw [ad,Below.heap_alloc _ _ _ (by simp)];exact World.alloc_heap_new _ _
   have a9:zd r w w2:=by rw [ad];exact ((k0.trans aC).alloc _).alloc _
   have b2:w2.heap[w.heap.size]?=some xw:=by
    rw [ad,Below.heap_alloc _ _ _ (by simp;omega),Below.heap_alloc _ _ _ (by omega)]
    exact (aC.block _ (by omega) (by omega)).trans b0
   obtain ⟨t1,us1,rfl⟩:=a3.cons;have aJ:zg r g o1 D (t1::us1) w2:=by rw [ad];exact (bq.alloc _).alloc _
   have bd:zZ (fun k=>w0.heap.size≤k∧k<z.heap.size) w2 x (.agg #[.int .i64 x.kind,.string V,.int .i64 Z,.slice x0 x1 x2,.int .i64 Y]):=by
    rw [ad];exact zZ.kept (zZ.low hx) (by simp;omega) fun k hk hlt=>by rw [Below.heap_alloc _ _ _ (by simp;omega),Below.heap_alloc _ _ _ hlt]
   have ci:=zgm r g o1 D t1 us1 [61] w2 aJ;obtain ⟨w3,aM⟩:∃w3,w3=(w2.alloc (ZK t1)).alloc (ZK t1):=⟨_,rfl⟩;rw [←aM] at ci;have al:zd r w2 w3:=by rw [aM];exact ((zd.refl r w2).alloc _).alloc _
   have aU:zg r g o1 D (t1::us1) w3:=by rw [aM];exact (aJ.alloc _).alloc _
   have aQ:Hid (w2=(z.alloc (exO x.kind V Z (.slice x0 x1 x2) Y)).alloc (XC 7 ⟨#[]⟩ (.slice (some ⟨z.heap.size,0,none⟩) 1 1) (.slice none 0 0) (.slice none 0 0) 0)):=ad;have bs:=al.size;have b3:=(al.block w.heap.size (by omega) (by omega)).trans b2
   have p3:=(al.block P (by omega) (by omega)).trans a7
   have r3:=(al.block z.heap.size (by omega) (by omega)).trans bi
   have bg:=bd.kept al.size fun k hk hlt=>al.block k hlt (by omega)
   have HB:Hid (w3.heap[w.heap.size]?=some xw∧w3.heap[P]?=some (XC 7 ⟨#[]⟩ (.slice (some ⟨z.heap.size,0,none⟩) 1 1) (.slice none 0 0) (.slice none 0 0) 0)∧w3.heap[z.heap.size]?=some (exO x.kind V Z (.slice x0 x1 x2) Y)):=⟨b3,p3,r3⟩;have aO:Hid (zZ (fun k=>w0.heap.size≤k∧k<z.heap.size) w3 x (.agg #[.int .i64 x.kind,.string V,.int .i64 Z,.slice x0 x1 x2,.int .i64 Y])):=bg
   have av:Hid (zd r w w3):=a9.trans al;have HS:Hid (w0.heap.size=w.heap.size+1∧z.heap.size+1=P∧P<w3.heap.size∧w0.heap.size≤z.heap.size):=⟨bc,hP.symm,by omega,br⟩
   have bm:Hid (z.heap.size+1=P):=hP.symm;have ar:Hid (zg r g o1 D (t1::us1) w3):=aU;simp only [zE,List.tail_cons] at hp;clear ad aM a7 bi b2 b0 k0 aC hx bq aJ a9 bt br bc hP al aU bs b3 p3 r3 bg bd
   by_cases hi:zm t1 [61]=true
   ·rw [hi] at ci
    rw [if_pos hi] at hp;have bo:=a3.tail (zj hi);have aV:yX x=(x.kind==4||x.kind==8||x.kind==9):=rfl;go_wp2_with fail
    rw [←aQ.out];refine ci.mono ?_;clear ci aQ;rintro e w' ⟨rfl,he⟩;obtain rfl:=he.symm;clear he;rw [bm.out];obtain ⟨-,-,p2,-,-,-,-⟩:=zM HB.out.2.1;obtain ⟨y0,y1,y2,y3,y4,-⟩:=zU HB.out.2.2;have an:=zaU x.kind V Z x0 x1 x2 Y w3;rw [←aV] at an;obtain ⟨w4,aP⟩:∃w4,w4=w3.alloc (.cells #[.int .i64 (x.kind:Int),.string V,.int .i64 Z,.slice x0 x1 x2,.int .i64 Y] 45):=⟨_,rfl⟩;rw [←aP] at an;have a8:zd r w3 w4:=by rw [aP];exact (zd.refl r w3).alloc _
    have ah:zg r g o1 D (t1::us1) w4:=by rw [aP];exact ar.out.alloc _
    have aT:Hid (zd r w3 w4):=a8;clear aP a8 aV
    by_cases hpl:yX x=true
    ·rw [hpl] at an
     rw [if_pos hpl] at hp;have aZ:=Vb r g o1 D t1 us1 w4 ah bo.ne;obtain ⟨w5,aK⟩:∃w5,w5=w4.setCell ⟨r,0,none⟩ (.slice (some ⟨g,o1+5,none⟩) us1.length (D-1)):=⟨_,rfl⟩;rw [←aK] at aZ;have aW:zg r g (o1+5) (D-1) us1 w5:=by rw [aK];exact ah.next
     have ai:zd r w3 w5:=by rw [aK];exact aT.out.setCell _ _
     have hS:=HS.out;have a5:=ai.size;have b5:=(ai.block w.heap.size (by omega) (by omega)).trans HB.out.1
     have p5:=(ai.block P (by omega) (by omega)).trans HB.out.2.1
     have r5:=(ai.block z.heap.size (by omega) (by omega)).trans HB.out.2.2
     obtain ⟨m0,-,-,-,-,-,mf⟩:=zM p5;have bD:=mf 0;obtain ⟨w6,ae⟩:∃w6,w6=w5.setCell ⟨P,0,none⟩ (.int .i64 2):=⟨_,rfl⟩;have p6:w6.heap[P]?=some (XC 2 ⟨#[]⟩ (.slice (some ⟨z.heap.size,0,none⟩) 1 1) (.slice none 0 0) (.slice none 0 0) 0):=by rw [ae];exact zq _ p5
     have b6:w6.heap[w.heap.size]?=some xw:=by rw [ae,Below.heap_setCell _ _ _ _ (by simp;omega)];exact b5
     have r6:w6.heap[z.heap.size]?=some (exO x.kind V Z (.slice x0 x1 x2) Y):=by rw [ae,Below.heap_setCell _ _ _ _ (by simp;omega)];exact r5
     have bw:w6.heap.size=w5.heap.size:=by rw [ae];simp
     have aS:zg r g (o1+5) (D-1) us1 w6:=by rw [ae];exact aW.setP _ (by omega) (by omega)
     have k6:zd r w w6:=by rw [ae];exact (av.out.trans ai).setOther (by simp;omega) _
     have bp:zZ (fun k=>w0.heap.size≤k∧k<z.heap.size) w6 x (.agg #[.int .i64 x.kind,.string V,.int .i64 Z,.slice x0 x1 x2,.int .i64 Y]):=by
      rw [ae];exact ((aO.out.kept ai.size fun k hk hlt=>ai.block k hlt (by omega)).kept (by simp) fun k hk _=>Below.heap_setCell _ _ _ _ (by simp;omega))
     cases hb2:zf F 1 us1 with
     | none=>rw [hb2] at hp;cases hp
     | some r2 =>
      rw [hb2] at hp;have a6:zi us1:=bo;have N:Hid (w6.heap[w.heap.size]?=some xw∧w6.heap[P]?=some (XC 2 ⟨#[]⟩ (.slice (some ⟨z.heap.size,0,none⟩) 1 1) (.slice none 0 0) (.slice none 0 0) 0)∧w6.heap[z.heap.size]?=some (exO x.kind V Z (.slice x0 x1 x2) Y)):=⟨b6,p6,r6⟩;have ao:Hid (zZ (fun k=>w0.heap.size≤k∧k<z.heap.size) w6 x (.agg #[.int .i64 x.kind,.string V,.int .i64 Z,.slice x0 x1 x2,.int .i64 Y])):=bp
      have aw:Hid (zd r w w6):=k6;have y:Hid (w0.heap.size=w.heap.size+1∧z.heap.size+1=P∧P<w6.heap.size∧w0.heap.size≤z.heap.size):=⟨hS.1,hS.2.1,by omega,hS.2.2.2⟩
      have cb:∀W:World,W.heap=w6.heap→W.os=w6.os→W.tape=w6.tape→W.output=w6.output→Calls Tryz.prog 44 #[.pointer (some ⟨r,0,none⟩)] W (zJ r g w6 r2):=fun W e1 e2 e3 e4=>by
       have bb:zd r w6 W:=⟨e2,e3,e4,by rw [e1];exact Nat.le_refl _,fun k _ _=>by rw [e1]⟩
       refine (bu.out W _ _ us1 r2 hb2 a6 (aS.keep (by rw [e1]) (by rw [e1])) (aw.out.trans bb)).mono fun e w' hh=>?_
       refine ⟨bb.trans hh.1,?_⟩;have h9:=hh.2;rw [e1] at h9;exact h9
      have CB:Hid (∀W:World,W.heap=w6.heap→W.os=w6.os→W.tape=w6.tape→W.output=w6.output→Calls Tryz.prog 44 #[.pointer (some ⟨r,0,none⟩)] W (zJ r g w6 r2)):=cb;have be:=aK.symm;have bB:=ae.symm;clear cb aK ae b6 p6 r6 bp k6 aS bw mf b5 p5 r5 a5 hS ai aW ah HB aO av HS ar;go_wp2_with fail
      refine an.mono ?_;clear an p2 y0 y1 y2 y3 y4;rintro e w' ⟨rfl,he⟩;obtain rfl:=he.symm;clear he;go_wp2_with fail
      refine aZ.mono ?_;clear aZ be;rintro e w' ⟨rfl,he⟩;obtain rfl:=he.symm;clear he;rcases r2 with a2 | ⟨xq,bE⟩
      ·simp only [Option.some.injEq] at hp
       subst hp;have bA:∀W:World,W.heap=w6.heap→W.os=w6.os→W.tape=w6.tape→W.output=w6.output→Calls Tryz.prog 44 #[.pointer (some ⟨r,0,none⟩)] W fun e w'=>e=ZI a2∧zd r w w':=fun W e1 e2 e3 e4=>(CB.out W e1 e2 e3 e4).mono fun e w' h=>⟨h.2,aw.out.trans h.1⟩
       obtain ⟨-,-,aL,-,-,-,-⟩:=zM N.out.2.1;clear CB;go_wp2_with fail
       go_region_dies
       all_goals (go_wp2_with fail;refine (bA _ (by rfl) (by rfl) (by rfl) (by rfl)).mono ?_;rintro e w4 ⟨rfl,bz⟩;exact ⟨rfl,bz,rfl⟩)
      ·have bk:=(Zi F).1 _ _ _ _ hb2 a6
       obtain ⟨t4,aa,rfl⟩:=bk.cons;simp only [zR,zE,List.tail_cons] at hp
       have CU:Hid (∀W:World,W.heap=w6.heap→W.os=w6.os→W.tape=w6.tape→W.output=w6.output→Calls Tryz.prog 44 #[.pointer (some ⟨r,0,none⟩)] W fun e w'=>∃(ya:Int) (yb:ByteArray) (yc:Int) (y0:Option Addr) (y1 y2:Nat) (yl:Int),e=.returned (.agg #[.int .i64 ya,.string yb,.int .i64 yc,.slice y0 y1 y2,.int .i64 yl])∧Hid (zd r w6 w'∧ZL w6.heap.size w' xq (.agg #[.int .i64 ya,.string yb,.int .i64 yc,.slice y0 y1 y2,.int .i64 yl])∧∃o7 Q,zg r g o7 Q (t4::aa) w')):=fun W e1 e2 e3 e4=>(CB.out W e1 e2 e3 e4).mono fun e w' h=>by
        obtain ⟨H,v,o7,Q,rfl,aj,L⟩:=h;obtain ⟨ya,yb,yc,y0,y1,y2,yl,rfl⟩:=aj.agg;exact ⟨ya,yb,yc,y0,y1,y2,yl,rfl,H,aj,o7,Q,L⟩
       obtain ⟨-,-,aL,-,-,-,-⟩:=zM N.out.2.1;clear CB hb2;go_wp2_with fail
       go_cut [] (fun wx=>UF r g w w0.heap.size P x xq (t4::aa) wx)
       case first =>
        refine vJ (n:=8) (S:=fun _=>True) (by kernel_rfl) rfl rfl ?_
        refine yD (fuel:=6) (fuel':=8) (idx:=[0,2]) (by decide +kernel) rfl rfl rfl (fun _ _ _ _ _ h=>h) trivial ?_
        show wpQuiet _ _ _ _ [_,_] _
        iterate 2 (go_big_quiet_step (exact rfl))
        refine wpQuiet_nil ?_;refine Xm (fuel:=5) (fuel':=6) (i:=1) (k:=3) rfl rfl (by decide +kernel) rfl rfl rfl (by rfl) (by rfl) ?_ ?_
        ·intro K J
         go_simp;refine J.out _ _ trivial ?_;clear J K;refine Zk (fuel:=4) (fuel':=5) (i:=3) rfl (by decide +kernel) rfl rfl (by rfl) ?_
         intro K J;go_simp;refine (CU.out _ (by rfl) (by rfl) (by rfl) (by rfl)).mono ?_
         rintro e U ⟨ya,yb,yc,y0,y1,y2,yl,rfl,H7⟩
         (try go_simp)
         refine J.out _ _ trivial ?_;clear J K;refine Zk (fuel:=3) (fuel':=4) (i:=4) rfl (by decide +kernel) rfl rfl (by rfl) ?_
         intro K J;go_simp;refine J.out _ _ trivial ?_;clear J K;obtain ⟨H,aj,o7,Q,L⟩:=H7.out;have ap:=H.size;have aG:Hid (w0.heap.size≤U.heap.size):=show _≤_ by have:=y.out;omega
         have ak:Hid (U.ownsRow w0.heap.size 45 5 (.slice (some ⟨z.heap.size,0,none⟩) 1 1) 1 [.int .i64 x.kind,.string V,.int .i64 Z,.slice x0 x1 x2,.int .i64 Y]):=(Zj.ofBlock (E:=ExE) (sz:=5) (ty:=45) (c:=[.int .i64 x.kind,.string V,.int .i64 Z,.slice x0 x1 x2,.int .i64 Y]) ((H.block z.heap.size (by have:=y.out;omega) (by have:=y.out;omega)).trans N.out.2.2) rfl y.out.2.2.2 (zZ.wide (ao.out.kept H.size fun k hk hlt=>H.block k hlt (by have:=y.out;omega)) fun k hk=>⟨hk.1,by omega⟩)).own
         have ay:Hid (U.heap[P]?=some (XC 2 ⟨#[]⟩ (.slice (some ⟨z.heap.size,0,none⟩) 1 1) (.slice none 0 0) (.slice none 0 0) 0)):=(H.block P y.out.2.2.1 (by have:=y.out;omega)).trans N.out.2.1
         have ag:Hid (P<U.heap.size):=show _<_ by have:=y.out;omega
         have aA:Hid (P≠z.heap.size):=show _≠_ by have:=y.out;omega
         have af:Hid (zg r g o7 Q (t4::aa) U):=L;clear H aj L ap;refine xg (fuel:=2) (fuel':=3) (i:=5) rfl (by decide +kernel) rfl rfl (by rfl) ?_
         intro K J;refine ym _ _ 43 rfl (by rfl) w0.heap.size 45 i0 _ 5 64 Tryz.underlying43 a0 a1 a4 aX rfl (by decide) _ _ _ rfl (ak.out.alloc _) ⟨U.heap.size,0,none⟩ 1 1 [.int .i64 ya,.string yb,.int .i64 yc,.slice y0 y1 y2,.int .i64 yl] rfl rfl (ZQ _ _ _) (by simp [Value.oneCell']) (by unfold maxLen;omega) (by omega) (by have:=aG.out;simp;omega) ?_
         intro v' w9 A I T;have G:(U.alloc (.cells #[.int .i64 ya,.string yb,.int .i64 yc,.slice y0 y1 y2,.int .i64 yl] 45)).grownBy w9 (some z.heap.size):=I;have am:v'.ownBlock=some z.heap.size∨v'.ownBlock=some (U.alloc (.cells #[.int .i64 ya,.string yb,.int .i64 yc,.slice y0 y1 y2,.int .i64 yl] 45)).heap.size:=T;clear I T
         obtain ⟨vg,vc,aE⟩:∃vg vc,v'=.slice (some ⟨vg,0,none⟩) 2 vc:=by
          rcases A.2 with ⟨_,h0⟩ | ⟨g',O,_,h1,_⟩
          ·omega
          ·exact ⟨g',O,h1⟩
         subst aE;have aH:Hid (UF r g w w0.heap.size P x xq (t4::aa) (w9.setCell ⟨P,2,none⟩ (.slice (some ⟨vg,0,none⟩) 2 vc))):=zb5 (c1:=[.int .i64 x.kind,.string V,.int .i64 Z,.slice x0 x1 x2,.int .i64 Y]) (c2:=[.int .i64 ya,.string yb,.int .i64 yc,.slice y0 y1 y2,.int .i64 yl]) aw.out N.out.1 N.out.2.1 N.out.2.2 ao.out rfl (by have:=y.out;omega) y.out.2.2.2 y.out.2.1 y.out.2.2.1 hr aB H7.out.1 H7.out.2.1 rfl af.out A G am
         have p9:w9.heap[P]?=some (XC 2 ⟨#[]⟩ (.slice (some ⟨z.heap.size,0,none⟩) 1 1) (.slice none 0 0) (.slice none 0 0) 0):=(G.block P (by have:=ag.out;simp;omega) (by simpa using aA.out)).trans ((Below.heap_alloc _ _ _ ag.out).trans ay.out)
         obtain ⟨-,-,n2,-,-,-,nf⟩:=zM p9;have bf:=nf 2;clear A G am p9 nf;refine J.out _ _ trivial ?_;clear J K;simp only [Act.put,List.setIfInBounds_toArray,List.set_cons_zero,List.set_cons_succ];refine yD (fuel:=1) (fuel':=2) (idx:=[6]) (by decide +kernel) rfl rfl rfl (fun _ _ _ _ _ h=>h) trivial ?_
         show wpQuiet _ _ _ _ [_] _
         iterate 1 (go_big_quiet_step (exact rfl))
         refine wpQuiet_nil ?_;refine Zk (fuel:=0) (fuel':=1) (i:=7) rfl (by decide +kernel) rfl rfl (by rfl) ?_
         intro K J;go_simp;refine J.out _ _ trivial ?_;clear J K;refine Yf (by decide +kernel) ?_
         go_wp2_with fail
         go_meet
         exact aH.out
        ·intro K J
         go_simp;refine (CU.out _ (by rfl) (by rfl) (by rfl) (by rfl)).mono ?_
         rintro e U ⟨ya,yb,yc,y0,y1,y2,yl,rfl,H7⟩
         (try go_simp)
         refine J.out _ _ trivial ?_;clear J K;obtain ⟨-,-,aL,-,-,-,-⟩:=zM ((H7.out.1.block P y.out.2.2.1 (by have:=y.out;omega)).trans N.out.2.1)
         have bC:=zl aL;refine Xm (fuel:=4) (fuel':=5) (i:=1) (k:=4) rfl rfl (by decide +kernel) rfl rfl rfl (by rfl) (by rfl) ?_ ?_
         ·intro K J
          go_simp;refine J.out _ _ trivial ?_;clear J K;refine Zk (fuel:=3) (fuel':=4) (i:=4) rfl (by decide +kernel) rfl rfl (by rfl) ?_
          intro K J;go_simp;refine J.out _ _ trivial ?_;clear J K;obtain ⟨H,aj,o7,Q,L⟩:=H7.out;have ap:=H.size;have aG:Hid (w0.heap.size≤U.heap.size):=show _≤_ by have:=y.out;omega
          have ak:Hid (U.ownsRow w0.heap.size 45 5 (.slice (some ⟨z.heap.size,0,none⟩) 1 1) 1 [.int .i64 x.kind,.string V,.int .i64 Z,.slice x0 x1 x2,.int .i64 Y]):=(Zj.ofBlock (E:=ExE) (sz:=5) (ty:=45) (c:=[.int .i64 x.kind,.string V,.int .i64 Z,.slice x0 x1 x2,.int .i64 Y]) ((H.block z.heap.size (by have:=y.out;omega) (by have:=y.out;omega)).trans N.out.2.2) rfl y.out.2.2.2 (zZ.wide (ao.out.kept H.size fun k hk hlt=>H.block k hlt (by have:=y.out;omega)) fun k hk=>⟨hk.1,by omega⟩)).own
          have ay:Hid (U.heap[P]?=some (XC 2 ⟨#[]⟩ (.slice (some ⟨z.heap.size,0,none⟩) 1 1) (.slice none 0 0) (.slice none 0 0) 0)):=(H.block P y.out.2.2.1 (by have:=y.out;omega)).trans N.out.2.1
          have ag:Hid (P<U.heap.size):=show _<_ by have:=y.out;omega
          have aA:Hid (P≠z.heap.size):=show _≠_ by have:=y.out;omega
          have af:Hid (zg r g o7 Q (t4::aa) U):=L;clear H aj L ap;refine xg (fuel:=2) (fuel':=3) (i:=5) rfl (by decide +kernel) rfl rfl (by rfl) ?_
          intro K J;refine ym _ _ 43 rfl (by rfl) w0.heap.size 45 i0 _ 5 64 Tryz.underlying43 a0 a1 a4 aX rfl (by decide) _ _ _ rfl (ak.out.alloc _) ⟨U.heap.size,0,none⟩ 1 1 [.int .i64 ya,.string yb,.int .i64 yc,.slice y0 y1 y2,.int .i64 yl] rfl rfl (ZQ _ _ _) (by simp [Value.oneCell']) (by unfold maxLen;omega) (by omega) (by have:=aG.out;simp;omega) ?_
          intro v' w9 A I T;have G:(U.alloc (.cells #[.int .i64 ya,.string yb,.int .i64 yc,.slice y0 y1 y2,.int .i64 yl] 45)).grownBy w9 (some z.heap.size):=I;have am:v'.ownBlock=some z.heap.size∨v'.ownBlock=some (U.alloc (.cells #[.int .i64 ya,.string yb,.int .i64 yc,.slice y0 y1 y2,.int .i64 yl] 45)).heap.size:=T;clear I T
          obtain ⟨vg,vc,aE⟩:∃vg vc,v'=.slice (some ⟨vg,0,none⟩) 2 vc:=by
           rcases A.2 with ⟨_,h0⟩ | ⟨g',O,_,h1,_⟩
           ·omega
           ·exact ⟨g',O,h1⟩
          subst aE;have aH:Hid (UF r g w w0.heap.size P x xq (t4::aa) (w9.setCell ⟨P,2,none⟩ (.slice (some ⟨vg,0,none⟩) 2 vc))):=zb5 (c1:=[.int .i64 x.kind,.string V,.int .i64 Z,.slice x0 x1 x2,.int .i64 Y]) (c2:=[.int .i64 ya,.string yb,.int .i64 yc,.slice y0 y1 y2,.int .i64 yl]) aw.out N.out.1 N.out.2.1 N.out.2.2 ao.out rfl (by have:=y.out;omega) y.out.2.2.2 y.out.2.1 y.out.2.2.1 hr aB H7.out.1 H7.out.2.1 rfl af.out A G am
          have p9:w9.heap[P]?=some (XC 2 ⟨#[]⟩ (.slice (some ⟨z.heap.size,0,none⟩) 1 1) (.slice none 0 0) (.slice none 0 0) 0):=(G.block P (by have:=ag.out;simp;omega) (by simpa using aA.out)).trans ((Below.heap_alloc _ _ _ ag.out).trans ay.out)
          obtain ⟨-,-,n2,-,-,-,nf⟩:=zM p9;have bf:=nf 2;clear A G am p9 nf;refine J.out _ _ trivial ?_;clear J K;simp only [Act.put,List.setIfInBounds_toArray,List.set_cons_zero,List.set_cons_succ];refine yD (fuel:=1) (fuel':=2) (idx:=[6]) (by decide +kernel) rfl rfl rfl (fun _ _ _ _ _ h=>h) trivial ?_
          show wpQuiet _ _ _ _ [_] _
          iterate 1 (go_big_quiet_step (exact rfl))
          refine wpQuiet_nil ?_;refine Zk (fuel:=0) (fuel':=1) (i:=7) rfl (by decide +kernel) rfl rfl (by rfl) ?_
          intro K J;go_simp;refine J.out _ _ trivial ?_;clear J K;refine Yf (by decide +kernel) ?_
          go_wp2_with fail
          go_meet
          exact aH.out
         ·intro K J
          go_simp;refine J.out _ _ trivial ?_;clear J K;refine Zk (fuel:=3) (fuel':=4) (i:=1) rfl (by decide +kernel) rfl rfl (by rfl) ?_
          intro K J;go_simp;refine J.out _ _ trivial ?_;clear J K;obtain ⟨H,aj,o7,Q,L⟩:=H7.out;have ap:=H.size;have aG:Hid (w0.heap.size≤U.heap.size):=show _≤_ by have:=y.out;omega
          have ak:Hid (U.ownsRow w0.heap.size 45 5 (.slice (some ⟨z.heap.size,0,none⟩) 1 1) 1 [.int .i64 x.kind,.string V,.int .i64 Z,.slice x0 x1 x2,.int .i64 Y]):=(Zj.ofBlock (E:=ExE) (sz:=5) (ty:=45) (c:=[.int .i64 x.kind,.string V,.int .i64 Z,.slice x0 x1 x2,.int .i64 Y]) ((H.block z.heap.size (by have:=y.out;omega) (by have:=y.out;omega)).trans N.out.2.2) rfl y.out.2.2.2 (zZ.wide (ao.out.kept H.size fun k hk hlt=>H.block k hlt (by have:=y.out;omega)) fun k hk=>⟨hk.1,by omega⟩)).own
          have ay:Hid (U.heap[P]?=some (XC 2 ⟨#[]⟩ (.slice (some ⟨z.heap.size,0,none⟩) 1 1) (.slice none 0 0) (.slice none 0 0) 0)):=(H.block P y.out.2.2.1 (by have:=y.out;omega)).trans N.out.2.1
          have ag:Hid (P<U.heap.size):=show _<_ by have:=y.out;omega
          have aA:Hid (P≠z.heap.size):=show _≠_ by have:=y.out;omega
          have af:Hid (zg r g o7 Q (t4::aa) U):=L;clear H aj L ap;refine xg (fuel:=2) (fuel':=3) (i:=5) rfl (by decide +kernel) rfl rfl (by rfl) ?_
          intro K J;refine ym _ _ 43 rfl (by rfl) w0.heap.size 45 i0 _ 5 64 Tryz.underlying43 a0 a1 a4 aX rfl (by decide) _ _ _ rfl (ak.out.alloc _) ⟨U.heap.size,0,none⟩ 1 1 [.int .i64 ya,.string yb,.int .i64 yc,.slice y0 y1 y2,.int .i64 yl] rfl rfl (ZQ _ _ _) (by simp [Value.oneCell']) (by unfold maxLen;omega) (by omega) (by have:=aG.out;simp;omega) ?_
          intro v' w9 A I T;have G:(U.alloc (.cells #[.int .i64 ya,.string yb,.int .i64 yc,.slice y0 y1 y2,.int .i64 yl] 45)).grownBy w9 (some z.heap.size):=I;have am:v'.ownBlock=some z.heap.size∨v'.ownBlock=some (U.alloc (.cells #[.int .i64 ya,.string yb,.int .i64 yc,.slice y0 y1 y2,.int .i64 yl] 45)).heap.size:=T;clear I T
          obtain ⟨vg,vc,aE⟩:∃vg vc,v'=.slice (some ⟨vg,0,none⟩) 2 vc:=by
           rcases A.2 with ⟨_,h0⟩ | ⟨g',O,_,h1,_⟩
           ·omega
           ·exact ⟨g',O,h1⟩
          subst aE;have aH:Hid (UF r g w w0.heap.size P x xq (t4::aa) (w9.setCell ⟨P,2,none⟩ (.slice (some ⟨vg,0,none⟩) 2 vc))):=zb5 (c1:=[.int .i64 x.kind,.string V,.int .i64 Z,.slice x0 x1 x2,.int .i64 Y]) (c2:=[.int .i64 ya,.string yb,.int .i64 yc,.slice y0 y1 y2,.int .i64 yl]) aw.out N.out.1 N.out.2.1 N.out.2.2 ao.out rfl (by have:=y.out;omega) y.out.2.2.2 y.out.2.1 y.out.2.2.1 hr aB H7.out.1 H7.out.2.1 rfl af.out A G am
          have p9:w9.heap[P]?=some (XC 2 ⟨#[]⟩ (.slice (some ⟨z.heap.size,0,none⟩) 1 1) (.slice none 0 0) (.slice none 0 0) 0):=(G.block P (by have:=ag.out;simp;omega) (by simpa using aA.out)).trans ((Below.heap_alloc _ _ _ ag.out).trans ay.out)
          obtain ⟨-,-,n2,-,-,-,nf⟩:=zM p9;have bf:=nf 2;clear A G am p9 nf;refine J.out _ _ trivial ?_;clear J K;simp only [Act.put,List.setIfInBounds_toArray,List.set_cons_zero,List.set_cons_succ];refine yD (fuel:=1) (fuel':=2) (idx:=[6]) (by decide +kernel) rfl rfl rfl (fun _ _ _ _ _ h=>h) trivial ?_
          show wpQuiet _ _ _ _ [_] _
          iterate 1 (go_big_quiet_step (exact rfl))
          refine wpQuiet_nil ?_;refine Zk (fuel:=0) (fuel':=1) (i:=7) rfl (by decide +kernel) rfl rfl (by rfl) ?_
          intro K J;go_simp;refine J.out _ _ trivial ?_;clear J K;refine Yf (by decide +kernel) ?_
          go_wp2_with fail
          go_meet
          exact aH.out
       case rest =>
        obtain ⟨o7,Q,g',O,k7,b7,p7,az,L⟩:=hcut;have cn:=yJ r g o7 Q t4 aa [59] wc L (fun hi=>(bk.tail (zj hi)).ne)
        have aN:Hid (wc.heap[w.heap.size]?=some xw∧wc.heap[P]?=some (XC 2 ⟨#[]⟩ (.slice (some ⟨g',0,none⟩) 2 O) (.slice none 0 0) (.slice none 0 0) 0)):=⟨b7,p7⟩;have ax:Hid (zK (fun k=>w0.heap.size≤k) wc [x,xq] (.slice (some ⟨g',0,none⟩) 2 O)):=az
        have aR:Hid (zd r w wc):=k7;clear b7 p7 az k7 L CU aL
        by_cases hm:zm t4 [59]=true
        ·simp only [if_pos hm] at cn
         simp only [if_pos hm,Option.some.injEq] at hp;subst hp;go_wp2_with fail
         refine cn.mono ?_;clear cn;rintro e w8 ⟨aq,rfl,h8⟩;have hS:=y.out;have ap:=aR.out.size;have bn:P<wc.heap.size:=(Array.getElem?_eq_some_iff.1 aN.out.2).1;have b8:=(aq.block w.heap.size (by omega) (by omega)).trans aN.out.1
         have p8:=(aq.block P bn (by omega)).trans aN.out.2
         have aD:=ax.out.keptR aq fun k hk=>by omega
         obtain ⟨e0,e1,e2,e3,e4,e5,-⟩:=zM p8;obtain ⟨q0,q1,q2,q3,q4,q5,qf⟩:=zM b8;obtain ⟨z0,z1,z2,z3,z4,z5,-⟩:=zM (Zu b8 (.int .i64 2) (.string ⟨#[]⟩) (.slice (some ⟨g',0,none⟩) 2 O) (.slice none 0 0) (.slice none 0 0) (.int .i64 0))
         have HP:Hid (ZH r g w (.ok (.mk 2 [] [x,xq] [] [] 0,aa)) (.returned (.agg #[.int .i64 2,.string ⟨#[]⟩,.slice (some ⟨g',0,none⟩) 2 O,.slice none 0 0,.slice none 0 0,.int .i64 0])) (XB w8 w.heap.size (.int .i64 2) (.string ⟨#[]⟩) (.slice (some ⟨g',0,none⟩) 2 O) (.slice none 0 0) (.slice none 0 0) (.int .i64 0))) :=
          ZH.of_set6 (B:=w0.heap.size) 2 [] 0 (aR.out.trans aq) (Nat.le_refl _) hr aB aD (z8.nil _ _) (z8.nil _ _) (by omega) h8
         clear b8 p8 aD aq hS ap bn h8 aN ax aR N ao aw y;go_wp2
         exact bodyPost_ret (v:=.agg #[.int .i64 2,.string ⟨#[]⟩,.slice (some ⟨g',0,none⟩) 2 O,.slice none 0 0,.slice none 0 0,.int .i64 0]) (by simp [results,Tryz.results169,go_sem,z0,z1,z2,z3,z4,z5]) rfl HP.out
        ·simp only [if_neg hm] at cn
         simp only [if_neg hm,Option.some.injEq] at hp;subst hp;go_wp2_with fail
         refine cn.mono ?_;clear cn;rintro e w8 ⟨aq,rfl⟩;exact ⟨rfl,aR.out.trans aq,rfl⟩
    ·have bh:yX x=false:=by simpa using hpl
     rw [bh] at an;rw [if_neg hpl] at hp;simp only [Option.some.injEq] at hp;subst hp;have cg:=Ur r g o1 D t1 us1 w4 ah;clear ah;go_wp2_with fail
     refine an.mono ?_;clear an p2 y0 y1 y2 y3 y4;rintro e w' ⟨rfl,he⟩;obtain rfl:=he.symm;clear he;go_wp2_with fail
     refine cg.mono ?_;clear cg;rintro e _ ⟨rfl,rfl⟩;exact ⟨rfl,(av.out.trans aT.out).alloc _,rfl⟩
   ·have bv:zm t1 [61]=false:=by simpa using hi
    rw [bv] at ci;rw [if_neg hi] at hp
    unfold zR at hp
    simp only [zE,List.tail_cons] at hp;have cn:=yJ r g o1 D t1 us1 [59] w3 ar.out (fun hi=>(a3.tail (zj hi)).ne)
    go_wp2_with fail
    rw [←aQ.out];refine ci.mono ?_;clear ci aQ;rintro e w' ⟨rfl,he⟩;obtain rfl:=he.symm;clear he;rw [bm.out]
    by_cases hm:zm t1 [59]=true
    ·simp only [if_pos hm] at cn
     rw [if_pos hm] at hp;simp only [Option.some.injEq] at hp;subst hp;go_wp2_with fail
     refine cn.mono ?_;clear cn;rintro e w5 ⟨ab,rfl,h5⟩;have hS:=HS.out;have a5:=ab.size;have b5:=(ab.block w.heap.size (by omega) (by omega)).trans HB.out.1
     have p5:=(ab.block P (by omega) (by omega)).trans HB.out.2.1
     have r5:=(ab.block z.heap.size (by omega) (by omega)).trans HB.out.2.2
     have ba:=aO.out.kept ab.size fun k hk hlt=>ab.block k hlt (by omega)
     have k5:zd r w w5:=av.out.trans ab;have aF:zK (fun k=>w0.heap.size≤k) w5 [x] (.slice (some ⟨z.heap.size,0,none⟩) 1 1):=Zj.row (Zj.ofBlock (E:=ExE) (sz:=5) (ty:=45) (c:=[.int .i64 x.kind,.string V,.int .i64 Z,.slice x0 x1 x2,.int .i64 Y]) r5 rfl hS.2.2.2 (zZ.wide ba fun k hk=>⟨hk.1,by omega⟩))
     obtain ⟨e0,e1,e2,e3,e4,e5,-⟩:=zM p5;obtain ⟨q0,q1,q2,q3,q4,q5,qf⟩:=zM b5;obtain ⟨z0,z1,z2,z3,z4,z5,-⟩:=zM (Zu b5 (.int .i64 7) (.string ⟨#[]⟩) (.slice (some ⟨z.heap.size,0,none⟩) 1 1) (.slice none 0 0) (.slice none 0 0) (.int .i64 0))
     have HP:Hid (ZH r g w (.ok (.mk 7 [] [x] [] [] 0,us1)) (.returned (.agg #[.int .i64 7,.string ⟨#[]⟩,.slice (some ⟨z.heap.size,0,none⟩) 1 1,.slice none 0 0,.slice none 0 0,.int .i64 0])) (XB w5 w.heap.size (.int .i64 7) (.string ⟨#[]⟩) (.slice (some ⟨z.heap.size,0,none⟩) 1 1) (.slice none 0 0) (.slice none 0 0) (.int .i64 0))) :=
      ZH.of_set6 (B:=w0.heap.size) 7 [] 0 k5 (Nat.le_refl _) hr aB aF (z8.nil _ _) (z8.nil _ _) (by omega) h5
     clear b5 p5 r5 ba k5 aF ab a5 hS h5 HB aO av HS ar;go_wp2
     exact bodyPost_ret (v:=.agg #[.int .i64 7,.string ⟨#[]⟩,.slice (some ⟨z.heap.size,0,none⟩) 1 1,.slice none 0 0,.slice none 0 0,.int .i64 0]) (by simp [results,Tryz.results169,go_sem,z0,z1,z2,z3,z4,z5]) rfl HP.out
    ·simp only [if_neg hm] at cn
     rw [if_neg hm] at hp;simp only [Option.some.injEq] at hp;subst hp;go_wp2_with fail
     refine cn.mono ?_;clear cn;rintro e w5 ⟨ab,rfl⟩;exact ⟨rfl,av.out.trans ab,rfl⟩
end Go.Proofs.YtpejpbbdgblbeaaGreatDoor
