import Derived.Test.YtpejpbbdgblbeaaGreatDoorMC23
import Derived.Test.YtpejpbbdgblbeaaGreatDoorMC24
import Derived.Deep.DeepCutAuto
namespace Go.Proofs.YtpejpbbdgblbeaaGreatDoor
open Go.RowKit Go.Shelf
set_option maxHeartbeats 16000000
set_option maxRecDepth 100000
theorem Zf.ofBlock {α:Type} {E:(Nat→Prop)→World→α→List Value→Prop} {sz ty B g:Nat} {w:World} {x:α} {c:List Value} (hb:w.heap[g]?=some (.cells c.toArray ty (0,0))) (hc:c.length=sz) (hB:B≤g) (hx:E (fun k=>B≤k∧k≠g) w x c) :
  Zf E sz ty B w [x] (.slice (some ⟨g,0,none⟩) 1 1) g 1 [c] where
 val:=rfl
 ne:=by simp
 own:=by
  refine ⟨by simp [hc],.inr ⟨g,1,c.toArray,rfl,hB,hb,Nat.le_refl _,by simp [maxLen],by simp [hc],?_⟩⟩
  simp [hc,List.take_of_length_le]
 len:=rfl
 wid:=by simp [hc]
 kids:=fun j y d hy hd=>by
  cases j with
  | succ j=>simp at hy
  | zero =>
   simp only [List.getElem?_cons_zero,Option.some.injEq] at hy hd;subst hy hd;exact hx
theorem Z7 {P:Program} {ops:Array Oper} {o:Oper} {a:Act} {w:World} {K:Act→World→Prop} {Q:Exit→Act→World→Prop} {E:Prop} (s x:Operand) (t:TypeId)
  (ho:o.op=.call { callee:=.builtin .append,args:=#[s,x],argTypes:=#[t,t] }) (hw:Region.wanted o (yielded ops a.tmps)=true)
  (base:Nat) (e:TypeId) (i:TypeInfo) (z:Value) (size bytes:Nat) (ht:P.underlying t=some (.slice e)) (hi:P.info? e=some i) (hz:i.zero=some z)
  (hsize:i.size=size) (hby:i.bytes=bytes) (hzs:z.cells.size=size) (hsz:0<size)
  (v:Value) (n:Nat) (xs:List Value) (hs:a.eval s=v) (hown:w.ownsRow base e size v n xs)
  (ad:Addr) (m c:Nat) (news:List Value) (hx:a.eval x=.slice (some ad) m c) (hl:news.length=m*size) (hnews:∀j u,news[j]?=some u→w.cell? (ad.add j)=some u) (h1:∀u∈news,u.oneCell'=true)
  (h63:n+m≤maxLen) (hbytes:(n+m)*bytes≤140737488355328) (hbase:base≤w.heap.size)
  (h:∀y w',w'.ownsRow base e size y (n+m) (xs++news)→w.grownBy w' v.ownBlock→(y.ownBlock=v.ownBlock∨y.ownBlock=some w.heap.size)→K (a.put o.dst y) w') :
  if Region.wanted o (yielded ops a.tmps)=true then Oper.wp P o a w K Q else E:=by
 rw [if_pos hw];obtain ⟨y,w',A,D,G,-,H⟩:=run_append_own_at (P:=P) w base t o.type e i z size bytes ht hi hz hsize hby hzs hsz v n xs hown ad m c news hl hnews h1 h63 hbytes hbase
 unfold Oper.wp
 simp [execOp,ho,resolve,invoke,builtin,hs,hx,A,Result.andThen]
 exact h y w' D G H
def ExP (P:Nat) (S:Nat→Prop) (w:World) (x:Ex) (c:List Value):Prop:=ExE (fun k=>S k∧k≠P) w x c
theorem zeO (P:Nat):Z2 (ExP P):=⟨fun h hs hb=>YX.kept h hs fun k hk hlt=>hb k hk.1 hlt,fun h hS=>YX.wide h fun k hk=>⟨hS k hk.1,hk.2⟩,fun h=>YX.wide (YX.low h) fun _ hk=>⟨⟨hk.1.1,hk.2⟩,hk.1.2⟩⟩
theorem Zf.rowP {P ty B:Nat} {w:World} {l:List Ex} {v:Value} {g cap:Nat} {us:List (List Value)} (h:Zf (ExP P) 5 ty B w l v g cap us) (hg:g≠P):zI (fun k=>B≤k∧k≠P) w l v:=by
 have s:=h.block;refine .inr ⟨g,cap,us,h.val,h.ne,h.len,⟨s.1,hg⟩,s.2.1,s.2.2.1,s.2.2.2,fun j u hj=>?_,h.wid,fun j x c o hc=>zV.wide (h.kids j x c o hc) fun k hk=>⟨hk.1.1,hk.2⟩⟩
 have o:=h.own.cells (g:=g) (by rw [h.val];rfl) j u hj
 by_cases h0:j=0
 ·subst h0;simpa [Addr.add] using o
 ·simpa [Addr.add,h0] using o
def uM (r g:Nat) (w:World) (B P:Nat) (x x2:Ex) (us:List Tk) (wx:World):Prop :=
 ∃o7 cap7 g' cap',zd r w wx∧wx.heap[w.heap.size]?=some xf∧wx.heap[P]?=some (Xg 2 ⟨#[]⟩ (.slice (some ⟨g',0,none⟩) 2 cap') (.slice none 0 0) (.slice none 0 0) 0)∧zI (fun k=>B≤k) wx [x,x2] (.slice (some ⟨g',0,none⟩) 2 cap')∧zf r g o7 cap7 us wx
theorem zaW {r g P B Rg o7 cap7:Nat} {w w6 w7 w9:World} {x x2:Ex} {c1 c2:List Value} {us:List Tk} {v':Value} {ob:Obj} (hK6:zd r w w6) (b6:w6.heap[w.heap.size]?=some xf) (p6:w6.heap[P]?=some (Xg 2 ⟨#[]⟩ (.slice (some ⟨Rg,0,none⟩) 1 1) (.slice none 0 0) (.slice none 0 0) 0)) (r6:w6.heap[Rg]?=some (.cells c1.toArray 45 (0,0)))
  (hx6:zV (fun k=>B≤k∧k<Rg) w6 x (.agg c1.toArray)) (hc1:c1.length=5) (hBw:w.heap.size<B) (hBR:B≤Rg) (hRP:Rg+1=P) (hP:P<w6.heap.size) (hr:r<w.heap.size) (hg:g<w.heap.size) (hk7:zd r w6 w7) (hx7:ZL w6.heap.size w7 x2 (.agg c2.toArray)) (hc2:c2.length=5) (hrd7:zf r g o7 cap7 us w7)
  (ho:w9.ownsRow B 45 5 v' (1+1) (c1++c2)) (hgr:(w7.alloc ob).grownBy w9 (some Rg)) (hat:v'.ownBlock=some Rg∨v'.ownBlock=some (w7.alloc ob).heap.size):uM r g w B P x x2 us (w9.setCell ⟨P,2,none⟩ v'):=by
 have H:=hk7.size
 have s:Zf (ExP P) 5 45 B w7 [x] (.slice (some ⟨Rg,0,none⟩) 1 1) Rg 1 [c1] :=
  Zf.ofBlock ((hk7.block Rg (by omega) (by omega)).trans r6) hc1 hBR (zV.wide (hx6.kept hk7.size fun k hk hlt=>hk7.block k hlt (by omega)) fun k hk=>⟨⟨hk.1,by omega⟩,by omega⟩)
 obtain ⟨D,y,o,I⟩:=s.snoc (zeO P) (x:=x2) (c:=c2) (ob:=ob) (zV.wide hx7 fun k hk=>⟨⟨by omega,by omega⟩,by omega⟩) hc2 (by simpa using ho) hgr hat
 have z:=o.val;simp only [List.cons_append,List.nil_append,List.length_cons,List.length_nil,Nat.zero_add] at z;subst z;have h:∀k,k≠Rg→k<w7.heap.size→w9.heap[k]?=w7.heap[k]?:=fun k hk hlt=>(hgr.block k (by simp;omega) (by simpa using hk)).trans (Below.heap_alloc _ _ _ hlt)
 have A:w9.heap[P]?=some (Xg 2 ⟨#[]⟩ (.slice (some ⟨Rg,0,none⟩) 1 1) (.slice none 0 0) (.slice none 0 0) 0):=(h P (by omega) (by omega)).trans ((hk7.block P hP (by omega)).trans p6)
 have G:zd r w w9:=((hK6.trans hk7).alloc ob).grown hgr fun k hk=>by have:=Option.some.inj hk;omega
 refine ⟨o7,cap7,D,y,G.setOther (by simp;omega) _,?_,zn _ A,?_,?_⟩
 ·rw [Below.heap_setCell _ _ _ _ (by simp;omega)]
  exact (h w.heap.size (by omega) (by omega)).trans ((hk7.block _ (by omega) (by omega)).trans b6)
 ·exact ((o.rowP (by omega)).setP _ fun k hk=>hk.2).wide fun k hk=>hk.1
 ·exact (hrd7.keep (h r (by omega) (by omega)) (h g (by omega) (by omega))).setP _ (by omega) (by omega)
theorem zcs (r g o cap F:Nat) (ts:List Tk) (w:World) (R:PR St) (h:zf r g o cap ts w) (hE:zg ts) (hp:setP F ts 0=some R)
  (hex:∀y o1 D ts1 r1,zh F 1 ts1=some r1→zg ts1→zf r g o1 D ts1 y→zd r w y→Calls Tryz.prog 44 #[.pointer (some ⟨r,0,none⟩)] y (zH r g y r1)) :
  Calls Tryz.prog 169 #[.pointer (some ⟨r,0,none⟩)] w (ZG r g w R):=by
 obtain ⟨i0,a0,a5,aX,aY⟩:=info_parts U0;obtain ⟨t0,a1,rfl⟩:=hE.cons;have hr:=h.lt.1;have aH:=h.lt.2
 unfold setP at hp
 obtain ⟨w0,au⟩:∃w0,w0=w.alloc xf:=⟨_,rfl⟩;have h0:zf r g o cap (t0::a1) w0:=by rw [au];exact h.alloc _
 have k0:zd r w w0:=by rw [au];exact (zd.refl r w).alloc _
 have b0:w0.heap[w.heap.size]?=some xf:=by rw [au];exact World.alloc_heap_new _ _
 have bq:w0.heap.size=w.heap.size+1:=by rw [au];simp
 have ba:Hid (w0=w.alloc xf):=au;have bw:Hid (∀y o1 D ts1 r1,zh F 1 ts1=some r1→zg ts1→zf r g o1 D ts1 y→zd r w y→Calls Tryz.prog 44 #[.pointer (some ⟨r,0,none⟩)] y (zH r g y r1)):=hex;cases hb1:zh F 1 (t0::a1) with
 | none=>rw [hb1] at hp;cases hp
 | some r1 =>
  have ce:=hex w0 o cap (t0::a1) r1 hb1 hE h0 k0;rw [hb1] at hp;clear hex h h0 au
  go_enter Tryz.func169,Tryz.ntmps169
  go_wp2_with fail
  rw [←ba.out];refine ce.mono ?_;clear ce ba;rintro e y ⟨ax,az⟩;rcases r1 with a | ⟨x,us⟩
  ·obtain rfl:=az
   simp only [zm,Option.some.injEq] at hp;subst hp;exact ⟨rfl,k0.trans ax,rfl⟩
  ·obtain ⟨v,o1,D,rfl,hx,a7⟩:=az
   obtain ⟨xa,U,V,x0,x1,x2,Y,rfl⟩:=hx.agg;have bu:=hx.kind_eq;subst bu;have a3:=(Ze F).1 _ _ _ _ hb1 hE;simp only [zm] at hp;have bg:=ax.size;obtain ⟨P,hP⟩:∃P,P=y.heap.size+1:=⟨_,rfl⟩;obtain ⟨w2,ae⟩:∃w2,w2=(y.alloc (exO x.kind U V (.slice x0 x1 x2) Y)).alloc (Xg 7 ⟨#[]⟩ (.slice (some ⟨y.heap.size,0,none⟩) 1 1) (.slice none 0 0) (.slice none 0 0) 0):=⟨_,rfl⟩;have bv:w2.heap.size=P+1:=by rw [ae,hP];simp
   have bm:w2.heap[P]?=some (Xg 7 ⟨#[]⟩ (.slice (some ⟨y.heap.size,0,none⟩) 1 1) (.slice none 0 0) (.slice none 0 0) 0):=by
    rw [ae,hP]
    have:=World.alloc_heap_new (y.alloc (exO x.kind U V (.slice x0 x1 x2) Y)) (Xg 7 ⟨#[]⟩ (.slice (some ⟨y.heap.size,0,none⟩) 1 1) (.slice none 0 0) (.slice none 0 0) 0)
    simpa using this
   have a9:w2.heap[y.heap.size]?=some (exO x.kind U V (.slice x0 x1 x2) Y):=by
    rw [ae,Below.heap_alloc _ _ _ (by simp)];exact World.alloc_heap_new _ _
   have a8:zd r w w2:=by rw [ae];exact ((k0.trans ax).alloc _).alloc _
   have b2:w2.heap[w.heap.size]?=some xf:=by
    rw [ae,Below.heap_alloc _ _ _ (by simp;omega),Below.heap_alloc _ _ _ (by omega)]
    exact (ax.block _ (by omega) (by omega)).trans b0
   obtain ⟨t1,us1,rfl⟩:=a3.cons;have aD:zf r g o1 D (t1::us1) w2:=by rw [ae];exact (a7.alloc _).alloc _
   have bc:zV (fun k=>w0.heap.size≤k∧k<y.heap.size) w2 x (.agg #[.int .i64 x.kind,.string U,.int .i64 V,.slice x0 x1 x2,.int .i64 Y]):=by
    rw [ae];exact zV.kept (zV.low hx) (by simp;omega) fun k hk hlt=>by rw [Below.heap_alloc _ _ _ (by simp;omega),Below.heap_alloc _ _ _ hlt]
   have ci:=zev r g o1 D t1 us1 [61] w2 aD;obtain ⟨w3,aQ⟩:∃w3,w3=(w2.alloc (ZK t1)).alloc (ZK t1):=⟨_,rfl⟩;rw [←aQ] at ci;have ak:zd r w2 w3:=by rw [aQ];exact ((zd.refl r w2).alloc _).alloc _
   have aS:zf r g o1 D (t1::us1) w3:=by rw [aQ];exact (aD.alloc _).alloc _
   have aN:Hid (w2=(y.alloc (exO x.kind U V (.slice x0 x1 x2) Y)).alloc (Xg 7 ⟨#[]⟩ (.slice (some ⟨y.heap.size,0,none⟩) 1 1) (.slice none 0 0) (.slice none 0 0) 0)):=ae;have bz:=ak.size;have b3:=(ak.block w.heap.size (by omega) (by omega)).trans b2
   have p3:=(ak.block P (by omega) (by omega)).trans bm
   have r3:=(ak.block y.heap.size (by omega) (by omega)).trans a9
   have a6:=bc.kept ak.size fun k hk hlt=>ak.block k hlt (by omega)
   have HB:Hid (w3.heap[w.heap.size]?=some xf∧w3.heap[P]?=some (Xg 7 ⟨#[]⟩ (.slice (some ⟨y.heap.size,0,none⟩) 1 1) (.slice none 0 0) (.slice none 0 0) 0)∧w3.heap[y.heap.size]?=some (exO x.kind U V (.slice x0 x1 x2) Y)):=⟨b3,p3,r3⟩;have aO:Hid (zV (fun k=>w0.heap.size≤k∧k<y.heap.size) w3 x (.agg #[.int .i64 x.kind,.string U,.int .i64 V,.slice x0 x1 x2,.int .i64 Y])):=a6
   have av:Hid (zd r w w3):=a8.trans ak;have HS:Hid (w0.heap.size=w.heap.size+1∧y.heap.size+1=P∧P<w3.heap.size∧w0.heap.size≤y.heap.size):=⟨bq,hP.symm,by omega,bg⟩
   have bf:Hid (y.heap.size+1=P):=hP.symm;have ar:Hid (zf r g o1 D (t1::us1) w3):=aS;simp only [zz,List.tail_cons] at hp;clear ae aQ bm a9 b2 b0 k0 ax hx a7 aD a8 bv bg bq hP ak aS bz b3 p3 r3 a6 bc
   by_cases hi:zo t1 [61]=true
   ·rw [hi] at ci
    rw [if_pos hi] at hp;have bj:=a3.tail (zi hi);have aW:Yy x=(x.kind==4||x.kind==8||x.kind==9):=rfl;go_wp2_with fail
    rw [←aN.out];refine ci.mono ?_;clear ci aN;rintro e w' ⟨rfl,he⟩;obtain rfl:=he.symm;clear he;rw [bf.out];obtain ⟨-,-,p2,-,-,-,-⟩:=zJ HB.out.2.1;obtain ⟨y0,Z,y2,y3,y4,-⟩:=zR HB.out.2.2;have ai:=QN x.kind U V x0 x1 x2 Y w3;rw [←aW] at ai;obtain ⟨w4,aM⟩:∃w4,w4=w3.alloc (.cells #[.int .i64 (x.kind:Int),.string U,.int .i64 V,.slice x0 x1 x2,.int .i64 Y] 45):=⟨_,rfl⟩;rw [←aM] at ai;have bo:zd r w3 w4:=by rw [aM];exact (zd.refl r w3).alloc _
    have af:zf r g o1 D (t1::us1) w4:=by rw [aM];exact ar.out.alloc _
    have aT:Hid (zd r w3 w4):=bo;clear aM bo aW
    by_cases hpl:Yy x=true
    ·rw [hpl] at ai
     rw [if_pos hpl] at hp;have a4:=vx r g o1 D t1 us1 w4 af bj.ne;obtain ⟨w5,aA⟩:∃w5,w5=w4.setCell ⟨r,0,none⟩ (.slice (some ⟨g,o1+5,none⟩) us1.length (D-1)):=⟨_,rfl⟩;rw [←aA] at a4;have aV:zf r g (o1+5) (D-1) us1 w5:=by rw [aA];exact af.next
     have an:zd r w3 w5:=by rw [aA];exact aT.out.setCell _ _
     have hS:=HS.out;have aZ:=an.size;have b5:=(an.block w.heap.size (by omega) (by omega)).trans HB.out.1
     have p5:=(an.block P (by omega) (by omega)).trans HB.out.2.1
     have r5:=(an.block y.heap.size (by omega) (by omega)).trans HB.out.2.2
     obtain ⟨m0,-,-,-,-,-,mf⟩:=zJ p5;have bC:=mf 0;obtain ⟨w6,ad⟩:∃w6,w6=w5.setCell ⟨P,0,none⟩ (.int .i64 2):=⟨_,rfl⟩;have p6:w6.heap[P]?=some (Xg 2 ⟨#[]⟩ (.slice (some ⟨y.heap.size,0,none⟩) 1 1) (.slice none 0 0) (.slice none 0 0) 0):=by rw [ad];exact zn _ p5
     have b6:w6.heap[w.heap.size]?=some xf:=by rw [ad,Below.heap_setCell _ _ _ _ (by simp;omega)];exact b5
     have r6:w6.heap[y.heap.size]?=some (exO x.kind U V (.slice x0 x1 x2) Y):=by rw [ad,Below.heap_setCell _ _ _ _ (by simp;omega)];exact r5
     have bs:w6.heap.size=w5.heap.size:=by rw [ad];simp
     have aU:zf r g (o1+5) (D-1) us1 w6:=by rw [ad];exact aV.setP _ (by omega) (by omega)
     have k6:zd r w w6:=by rw [ad];exact (av.out.trans an).setOther (by simp;omega) _
     have bn:zV (fun k=>w0.heap.size≤k∧k<y.heap.size) w6 x (.agg #[.int .i64 x.kind,.string U,.int .i64 V,.slice x0 x1 x2,.int .i64 Y]):=by
      rw [ad];exact ((aO.out.kept an.size fun k hk hlt=>an.block k hlt (by omega)).kept (by simp) fun k hk _=>Below.heap_setCell _ _ _ _ (by simp;omega))
     cases hb2:zh F 1 us1 with
     | none=>rw [hb2] at hp;cases hp
     | some r2 =>
      rw [hb2] at hp;have bl:zg us1:=bj;have L:Hid (w6.heap[w.heap.size]?=some xf∧w6.heap[P]?=some (Xg 2 ⟨#[]⟩ (.slice (some ⟨y.heap.size,0,none⟩) 1 1) (.slice none 0 0) (.slice none 0 0) 0)∧w6.heap[y.heap.size]?=some (exO x.kind U V (.slice x0 x1 x2) Y)):=⟨b6,p6,r6⟩;have ao:Hid (zV (fun k=>w0.heap.size≤k∧k<y.heap.size) w6 x (.agg #[.int .i64 x.kind,.string U,.int .i64 V,.slice x0 x1 x2,.int .i64 Y])):=bn
      have aw:Hid (zd r w w6):=k6;have s:Hid (w0.heap.size=w.heap.size+1∧y.heap.size+1=P∧P<w6.heap.size∧w0.heap.size≤y.heap.size):=⟨hS.1,hS.2.1,by omega,hS.2.2.2⟩
      have cb:∀W:World,W.heap=w6.heap→W.os=w6.os→W.tape=w6.tape→W.output=w6.output→Calls Tryz.prog 44 #[.pointer (some ⟨r,0,none⟩)] W (zH r g w6 r2):=fun W e1 e2 e3 e4=>by
       have bh:zd r w6 W:=⟨e2,e3,e4,by rw [e1];exact Nat.le_refl _,fun k _ _=>by rw [e1]⟩
       refine (bw.out W _ _ us1 r2 hb2 bl (aU.keep (by rw [e1]) (by rw [e1])) (aw.out.trans bh)).mono fun e w' hh=>?_
       refine ⟨bh.trans hh.1,?_⟩;have h9:=hh.2;rw [e1] at h9;exact h9
      have CB:Hid (∀W:World,W.heap=w6.heap→W.os=w6.os→W.tape=w6.tape→W.output=w6.output→Calls Tryz.prog 44 #[.pointer (some ⟨r,0,none⟩)] W (zH r g w6 r2)):=cb;have bp:=aA.symm;have bA:=ad.symm;clear cb aA ad b6 p6 r6 bn k6 aU bs mf b5 p5 r5 aZ hS an aV af HB aO av HS ar;go_wp2_with fail
      refine ai.mono ?_;clear ai p2 y0 Z y2 y3 y4;rintro e w' ⟨rfl,he⟩;obtain rfl:=he.symm;clear he;go_wp2_with fail
      refine a4.mono ?_;clear a4 bp;rintro e w' ⟨rfl,he⟩;obtain rfl:=he.symm;clear he;rcases r2 with a2 | ⟨xq,bD⟩
      ·simp only [Option.some.injEq] at hp
       subst hp;have br:∀W:World,W.heap=w6.heap→W.os=w6.os→W.tape=w6.tape→W.output=w6.output→Calls Tryz.prog 44 #[.pointer (some ⟨r,0,none⟩)] W fun e w'=>e=ZH a2∧zd r w w':=fun W e1 e2 e3 e4=>(CB.out W e1 e2 e3 e4).mono fun e w' h=>⟨h.2,aw.out.trans h.1⟩
       obtain ⟨-,-,aL,-,-,-,-⟩:=zJ L.out.2.1;clear CB;go_wp2_with fail
       go_region_dies
       all_goals (go_wp2_with fail;refine (br _ (by rfl) (by rfl) (by rfl) (by rfl)).mono ?_;rintro e w4 ⟨rfl,bt⟩;exact ⟨rfl,bt,rfl⟩)
      ·have bk:=(Ze F).1 _ _ _ _ hb2 bl
       obtain ⟨t4,aa,rfl⟩:=bk.cons;simp only [zW,zz,List.tail_cons] at hp
       have CU:Hid (∀W:World,W.heap=w6.heap→W.os=w6.os→W.tape=w6.tape→W.output=w6.output→Calls Tryz.prog 44 #[.pointer (some ⟨r,0,none⟩)] W fun e w'=>∃(ya:Int) (yb:ByteArray) (yc:Int) (y0:Option Addr) (Z y2:Nat) (yl:Int),e=.returned (.agg #[.int .i64 ya,.string yb,.int .i64 yc,.slice y0 Z y2,.int .i64 yl])∧Hid (zd r w6 w'∧ZL w6.heap.size w' xq (.agg #[.int .i64 ya,.string yb,.int .i64 yc,.slice y0 Z y2,.int .i64 yl])∧∃o7 O,zf r g o7 O (t4::aa) w')):=fun W e1 e2 e3 e4=>(CB.out W e1 e2 e3 e4).mono fun e w' h=>by
        obtain ⟨G,v,o7,O,rfl,al,J⟩:=h;obtain ⟨ya,yb,yc,y0,Z,y2,yl,rfl⟩:=al.agg;exact ⟨ya,yb,yc,y0,Z,y2,yl,rfl,G,al,o7,O,J⟩
       obtain ⟨-,-,aL,-,-,-,-⟩:=zJ L.out.2.1;clear CB hb2;go_wp2_with fail
       go_cut [] (fun wx=>uM r g w w0.heap.size P x xq (t4::aa) wx)
       case first =>
        refine xZ (n:=8) (S:=fun _=>True) (by kernel_rfl) rfl rfl ?_
        refine Z8 (fuel:=6) (fuel':=8) (idx:=[0,2]) (by decide +kernel) rfl rfl rfl (fun _ _ _ _ _ h=>h) trivial ?_
        show wpQuiet _ _ _ _ [_,_] _
        iterate 2 (go_big_quiet_step (exact rfl))
        refine wpQuiet_nil ?_;refine x6 (fuel:=5) (fuel':=6) (i:=1) (k:=3) rfl rfl (by decide +kernel) rfl rfl rfl (by rfl) (by rfl) ?_ ?_
        ·intro K I
         go_simp;refine I.out _ _ trivial ?_;clear I K;refine Za (fuel:=4) (fuel':=5) (i:=3) rfl (by decide +kernel) rfl rfl (by rfl) ?_
         intro K I;go_simp;refine (CU.out _ (by rfl) (by rfl) (by rfl) (by rfl)).mono ?_
         rintro e T ⟨ya,yb,yc,y0,Z,y2,yl,rfl,H7⟩
         (try go_simp)
         refine I.out _ _ trivial ?_;clear I K;refine Za (fuel:=3) (fuel':=4) (i:=4) rfl (by decide +kernel) rfl rfl (by rfl) ?_
         intro K I;go_simp;refine I.out _ _ trivial ?_;clear I K;obtain ⟨G,al,o7,O,J⟩:=H7.out;have aq:=G.size;have aF:Hid (w0.heap.size≤T.heap.size):=show _≤_ by have:=s.out;omega
         have am:Hid (T.ownsRow w0.heap.size 45 5 (.slice (some ⟨y.heap.size,0,none⟩) 1 1) 1 [.int .i64 x.kind,.string U,.int .i64 V,.slice x0 x1 x2,.int .i64 Y]):=(Zf.ofBlock (E:=ExE) (sz:=5) (ty:=45) (c:=[.int .i64 x.kind,.string U,.int .i64 V,.slice x0 x1 x2,.int .i64 Y]) ((G.block y.heap.size (by have:=s.out;omega) (by have:=s.out;omega)).trans L.out.2.2) rfl s.out.2.2.2 (zV.wide (ao.out.kept G.size fun k hk hlt=>G.block k hlt (by have:=s.out;omega)) fun k hk=>⟨hk.1,by omega⟩)).own
         have aB:Hid (T.heap[P]?=some (Xg 2 ⟨#[]⟩ (.slice (some ⟨y.heap.size,0,none⟩) 1 1) (.slice none 0 0) (.slice none 0 0) 0)):=(G.block P s.out.2.2.1 (by have:=s.out;omega)).trans L.out.2.1
         have ah:Hid (P<T.heap.size):=show _<_ by have:=s.out;omega
         have aJ:Hid (P≠y.heap.size):=show _≠_ by have:=s.out;omega
         have ag:Hid (zf r g o7 O (t4::aa) T):=J;clear G al J aq;refine Y3 (fuel:=2) (fuel':=3) (i:=5) rfl (by decide +kernel) rfl rfl (by rfl) ?_
         intro K I;refine Z7 _ _ 43 rfl (by rfl) w0.heap.size 45 i0 _ 5 64 Tryz.underlying43 a0 a5 aX aY rfl (by decide) _ _ _ rfl (am.out.alloc _) ⟨T.heap.size,0,none⟩ 1 1 [.int .i64 ya,.string yb,.int .i64 yc,.slice y0 Z y2,.int .i64 yl] rfl rfl (ZR _ _ _) (by simp [Value.oneCell']) (by unfold maxLen;omega) (by omega) (by have:=aF.out;simp;omega) ?_
         intro v' w9 A H Q;have z:(T.alloc (.cells #[.int .i64 ya,.string yb,.int .i64 yc,.slice y0 Z y2,.int .i64 yl] 45)).grownBy w9 (some y.heap.size):=H;have aj:v'.ownBlock=some y.heap.size∨v'.ownBlock=some (T.alloc (.cells #[.int .i64 ya,.string yb,.int .i64 yc,.slice y0 Z y2,.int .i64 yl] 45)).heap.size:=Q;clear H Q
         obtain ⟨vg,vc,aK⟩:∃vg vc,v'=.slice (some ⟨vg,0,none⟩) 2 vc:=by
          rcases A.2 with ⟨_,h0⟩ | ⟨g',N,_,h1,_⟩
          ·omega
          ·exact ⟨g',N,h1⟩
         subst aK;have aG:Hid (uM r g w w0.heap.size P x xq (t4::aa) (w9.setCell ⟨P,2,none⟩ (.slice (some ⟨vg,0,none⟩) 2 vc))):=zaW (c1:=[.int .i64 x.kind,.string U,.int .i64 V,.slice x0 x1 x2,.int .i64 Y]) (c2:=[.int .i64 ya,.string yb,.int .i64 yc,.slice y0 Z y2,.int .i64 yl]) aw.out L.out.1 L.out.2.1 L.out.2.2 ao.out rfl (by have:=s.out;omega) s.out.2.2.2 s.out.2.1 s.out.2.2.1 hr aH H7.out.1 H7.out.2.1 rfl ag.out A z aj
         have p9:w9.heap[P]?=some (Xg 2 ⟨#[]⟩ (.slice (some ⟨y.heap.size,0,none⟩) 1 1) (.slice none 0 0) (.slice none 0 0) 0):=(z.block P (by have:=ah.out;simp;omega) (by simpa using aJ.out)).trans ((Below.heap_alloc _ _ _ ah.out).trans aB.out)
         obtain ⟨-,-,n2,-,-,-,nf⟩:=zJ p9;have bi:=nf 2;clear A z aj p9 nf;refine I.out _ _ trivial ?_;clear I K;simp only [Act.put,List.setIfInBounds_toArray,List.set_cons_zero,List.set_cons_succ];refine Z8 (fuel:=1) (fuel':=2) (idx:=[6]) (by decide +kernel) rfl rfl rfl (fun _ _ _ _ _ h=>h) trivial ?_
         show wpQuiet _ _ _ _ [_] _
         iterate 1 (go_big_quiet_step (exact rfl))
         refine wpQuiet_nil ?_;refine Za (fuel:=0) (fuel':=1) (i:=7) rfl (by decide +kernel) rfl rfl (by rfl) ?_
         intro K I;go_simp;refine I.out _ _ trivial ?_;clear I K;refine yQ (by decide +kernel) ?_
         go_wp2_with fail
         go_meet
         exact aG.out
        ·intro K I
         go_simp;refine (CU.out _ (by rfl) (by rfl) (by rfl) (by rfl)).mono ?_
         rintro e T ⟨ya,yb,yc,y0,Z,y2,yl,rfl,H7⟩
         (try go_simp)
         refine I.out _ _ trivial ?_;clear I K;obtain ⟨-,-,aL,-,-,-,-⟩:=zJ ((H7.out.1.block P s.out.2.2.1 (by have:=s.out;omega)).trans L.out.2.1)
         have bB:=zj aL;refine x6 (fuel:=4) (fuel':=5) (i:=1) (k:=4) rfl rfl (by decide +kernel) rfl rfl rfl (by rfl) (by rfl) ?_ ?_
         ·intro K I
          go_simp;refine I.out _ _ trivial ?_;clear I K;refine Za (fuel:=3) (fuel':=4) (i:=4) rfl (by decide +kernel) rfl rfl (by rfl) ?_
          intro K I;go_simp;refine I.out _ _ trivial ?_;clear I K;obtain ⟨G,al,o7,O,J⟩:=H7.out;have aq:=G.size;have aF:Hid (w0.heap.size≤T.heap.size):=show _≤_ by have:=s.out;omega
          have am:Hid (T.ownsRow w0.heap.size 45 5 (.slice (some ⟨y.heap.size,0,none⟩) 1 1) 1 [.int .i64 x.kind,.string U,.int .i64 V,.slice x0 x1 x2,.int .i64 Y]):=(Zf.ofBlock (E:=ExE) (sz:=5) (ty:=45) (c:=[.int .i64 x.kind,.string U,.int .i64 V,.slice x0 x1 x2,.int .i64 Y]) ((G.block y.heap.size (by have:=s.out;omega) (by have:=s.out;omega)).trans L.out.2.2) rfl s.out.2.2.2 (zV.wide (ao.out.kept G.size fun k hk hlt=>G.block k hlt (by have:=s.out;omega)) fun k hk=>⟨hk.1,by omega⟩)).own
          have aB:Hid (T.heap[P]?=some (Xg 2 ⟨#[]⟩ (.slice (some ⟨y.heap.size,0,none⟩) 1 1) (.slice none 0 0) (.slice none 0 0) 0)):=(G.block P s.out.2.2.1 (by have:=s.out;omega)).trans L.out.2.1
          have ah:Hid (P<T.heap.size):=show _<_ by have:=s.out;omega
          have aJ:Hid (P≠y.heap.size):=show _≠_ by have:=s.out;omega
          have ag:Hid (zf r g o7 O (t4::aa) T):=J;clear G al J aq;refine Y3 (fuel:=2) (fuel':=3) (i:=5) rfl (by decide +kernel) rfl rfl (by rfl) ?_
          intro K I;refine Z7 _ _ 43 rfl (by rfl) w0.heap.size 45 i0 _ 5 64 Tryz.underlying43 a0 a5 aX aY rfl (by decide) _ _ _ rfl (am.out.alloc _) ⟨T.heap.size,0,none⟩ 1 1 [.int .i64 ya,.string yb,.int .i64 yc,.slice y0 Z y2,.int .i64 yl] rfl rfl (ZR _ _ _) (by simp [Value.oneCell']) (by unfold maxLen;omega) (by omega) (by have:=aF.out;simp;omega) ?_
          intro v' w9 A H Q;have z:(T.alloc (.cells #[.int .i64 ya,.string yb,.int .i64 yc,.slice y0 Z y2,.int .i64 yl] 45)).grownBy w9 (some y.heap.size):=H;have aj:v'.ownBlock=some y.heap.size∨v'.ownBlock=some (T.alloc (.cells #[.int .i64 ya,.string yb,.int .i64 yc,.slice y0 Z y2,.int .i64 yl] 45)).heap.size:=Q;clear H Q
          obtain ⟨vg,vc,aK⟩:∃vg vc,v'=.slice (some ⟨vg,0,none⟩) 2 vc:=by
           rcases A.2 with ⟨_,h0⟩ | ⟨g',N,_,h1,_⟩
           ·omega
           ·exact ⟨g',N,h1⟩
          subst aK;have aG:Hid (uM r g w w0.heap.size P x xq (t4::aa) (w9.setCell ⟨P,2,none⟩ (.slice (some ⟨vg,0,none⟩) 2 vc))):=zaW (c1:=[.int .i64 x.kind,.string U,.int .i64 V,.slice x0 x1 x2,.int .i64 Y]) (c2:=[.int .i64 ya,.string yb,.int .i64 yc,.slice y0 Z y2,.int .i64 yl]) aw.out L.out.1 L.out.2.1 L.out.2.2 ao.out rfl (by have:=s.out;omega) s.out.2.2.2 s.out.2.1 s.out.2.2.1 hr aH H7.out.1 H7.out.2.1 rfl ag.out A z aj
          have p9:w9.heap[P]?=some (Xg 2 ⟨#[]⟩ (.slice (some ⟨y.heap.size,0,none⟩) 1 1) (.slice none 0 0) (.slice none 0 0) 0):=(z.block P (by have:=ah.out;simp;omega) (by simpa using aJ.out)).trans ((Below.heap_alloc _ _ _ ah.out).trans aB.out)
          obtain ⟨-,-,n2,-,-,-,nf⟩:=zJ p9;have bi:=nf 2;clear A z aj p9 nf;refine I.out _ _ trivial ?_;clear I K;simp only [Act.put,List.setIfInBounds_toArray,List.set_cons_zero,List.set_cons_succ];refine Z8 (fuel:=1) (fuel':=2) (idx:=[6]) (by decide +kernel) rfl rfl rfl (fun _ _ _ _ _ h=>h) trivial ?_
          show wpQuiet _ _ _ _ [_] _
          iterate 1 (go_big_quiet_step (exact rfl))
          refine wpQuiet_nil ?_;refine Za (fuel:=0) (fuel':=1) (i:=7) rfl (by decide +kernel) rfl rfl (by rfl) ?_
          intro K I;go_simp;refine I.out _ _ trivial ?_;clear I K;refine yQ (by decide +kernel) ?_
          go_wp2_with fail
          go_meet
          exact aG.out
         ·intro K I
          go_simp;refine I.out _ _ trivial ?_;clear I K;refine Za (fuel:=3) (fuel':=4) (i:=1) rfl (by decide +kernel) rfl rfl (by rfl) ?_
          intro K I;go_simp;refine I.out _ _ trivial ?_;clear I K;obtain ⟨G,al,o7,O,J⟩:=H7.out;have aq:=G.size;have aF:Hid (w0.heap.size≤T.heap.size):=show _≤_ by have:=s.out;omega
          have am:Hid (T.ownsRow w0.heap.size 45 5 (.slice (some ⟨y.heap.size,0,none⟩) 1 1) 1 [.int .i64 x.kind,.string U,.int .i64 V,.slice x0 x1 x2,.int .i64 Y]):=(Zf.ofBlock (E:=ExE) (sz:=5) (ty:=45) (c:=[.int .i64 x.kind,.string U,.int .i64 V,.slice x0 x1 x2,.int .i64 Y]) ((G.block y.heap.size (by have:=s.out;omega) (by have:=s.out;omega)).trans L.out.2.2) rfl s.out.2.2.2 (zV.wide (ao.out.kept G.size fun k hk hlt=>G.block k hlt (by have:=s.out;omega)) fun k hk=>⟨hk.1,by omega⟩)).own
          have aB:Hid (T.heap[P]?=some (Xg 2 ⟨#[]⟩ (.slice (some ⟨y.heap.size,0,none⟩) 1 1) (.slice none 0 0) (.slice none 0 0) 0)):=(G.block P s.out.2.2.1 (by have:=s.out;omega)).trans L.out.2.1
          have ah:Hid (P<T.heap.size):=show _<_ by have:=s.out;omega
          have aJ:Hid (P≠y.heap.size):=show _≠_ by have:=s.out;omega
          have ag:Hid (zf r g o7 O (t4::aa) T):=J;clear G al J aq;refine Y3 (fuel:=2) (fuel':=3) (i:=5) rfl (by decide +kernel) rfl rfl (by rfl) ?_
          intro K I;refine Z7 _ _ 43 rfl (by rfl) w0.heap.size 45 i0 _ 5 64 Tryz.underlying43 a0 a5 aX aY rfl (by decide) _ _ _ rfl (am.out.alloc _) ⟨T.heap.size,0,none⟩ 1 1 [.int .i64 ya,.string yb,.int .i64 yc,.slice y0 Z y2,.int .i64 yl] rfl rfl (ZR _ _ _) (by simp [Value.oneCell']) (by unfold maxLen;omega) (by omega) (by have:=aF.out;simp;omega) ?_
          intro v' w9 A H Q;have z:(T.alloc (.cells #[.int .i64 ya,.string yb,.int .i64 yc,.slice y0 Z y2,.int .i64 yl] 45)).grownBy w9 (some y.heap.size):=H;have aj:v'.ownBlock=some y.heap.size∨v'.ownBlock=some (T.alloc (.cells #[.int .i64 ya,.string yb,.int .i64 yc,.slice y0 Z y2,.int .i64 yl] 45)).heap.size:=Q;clear H Q
          obtain ⟨vg,vc,aK⟩:∃vg vc,v'=.slice (some ⟨vg,0,none⟩) 2 vc:=by
           rcases A.2 with ⟨_,h0⟩ | ⟨g',N,_,h1,_⟩
           ·omega
           ·exact ⟨g',N,h1⟩
          subst aK;have aG:Hid (uM r g w w0.heap.size P x xq (t4::aa) (w9.setCell ⟨P,2,none⟩ (.slice (some ⟨vg,0,none⟩) 2 vc))):=zaW (c1:=[.int .i64 x.kind,.string U,.int .i64 V,.slice x0 x1 x2,.int .i64 Y]) (c2:=[.int .i64 ya,.string yb,.int .i64 yc,.slice y0 Z y2,.int .i64 yl]) aw.out L.out.1 L.out.2.1 L.out.2.2 ao.out rfl (by have:=s.out;omega) s.out.2.2.2 s.out.2.1 s.out.2.2.1 hr aH H7.out.1 H7.out.2.1 rfl ag.out A z aj
          have p9:w9.heap[P]?=some (Xg 2 ⟨#[]⟩ (.slice (some ⟨y.heap.size,0,none⟩) 1 1) (.slice none 0 0) (.slice none 0 0) 0):=(z.block P (by have:=ah.out;simp;omega) (by simpa using aJ.out)).trans ((Below.heap_alloc _ _ _ ah.out).trans aB.out)
          obtain ⟨-,-,n2,-,-,-,nf⟩:=zJ p9;have bi:=nf 2;clear A z aj p9 nf;refine I.out _ _ trivial ?_;clear I K;simp only [Act.put,List.setIfInBounds_toArray,List.set_cons_zero,List.set_cons_succ];refine Z8 (fuel:=1) (fuel':=2) (idx:=[6]) (by decide +kernel) rfl rfl rfl (fun _ _ _ _ _ h=>h) trivial ?_
          show wpQuiet _ _ _ _ [_] _
          iterate 1 (go_big_quiet_step (exact rfl))
          refine wpQuiet_nil ?_;refine Za (fuel:=0) (fuel':=1) (i:=7) rfl (by decide +kernel) rfl rfl (by rfl) ?_
          intro K I;go_simp;refine I.out _ _ trivial ?_;clear I K;refine yQ (by decide +kernel) ?_
          go_wp2_with fail
          go_meet
          exact aG.out
       case rest =>
        obtain ⟨o7,O,g',N,k7,b7,p7,ay,J⟩:=hcut;have cn:=yB r g o7 O t4 aa [59] wc J (fun hi=>(bk.tail (zi hi)).ne)
        have aR:Hid (wc.heap[w.heap.size]?=some xf∧wc.heap[P]?=some (Xg 2 ⟨#[]⟩ (.slice (some ⟨g',0,none⟩) 2 N) (.slice none 0 0) (.slice none 0 0) 0)):=⟨b7,p7⟩;have aI:Hid (zI (fun k=>w0.heap.size≤k) wc [x,xq] (.slice (some ⟨g',0,none⟩) 2 N)):=ay
        have aP:Hid (zd r w wc):=k7;clear b7 p7 ay k7 J CU aL
        by_cases hm:zo t4 [59]=true
        ·simp only [if_pos hm] at cn
         simp only [if_pos hm,Option.some.injEq] at hp;subst hp;go_wp2_with fail
         refine cn.mono ?_;clear cn;rintro e w8 ⟨ap,rfl,h8⟩;have hS:=s.out;have aq:=aP.out.size;have bd:P<wc.heap.size:=(Array.getElem?_eq_some_iff.1 aR.out.2).1;have b8:=(ap.block w.heap.size (by omega) (by omega)).trans aR.out.1
         have p8:=(ap.block P bd (by omega)).trans aR.out.2
         have aC:=aI.out.keptR ap fun k hk=>by omega
         obtain ⟨e0,e1,e2,e3,e4,e5,-⟩:=zJ p8;obtain ⟨q0,q1,q2,q3,q4,q5,qf⟩:=zJ b8;obtain ⟨z0,z1,z2,z3,z4,z5,-⟩:=zJ (Zq b8 (.int .i64 2) (.string ⟨#[]⟩) (.slice (some ⟨g',0,none⟩) 2 N) (.slice none 0 0) (.slice none 0 0) (.int .i64 0))
         have HP:Hid (ZG r g w (.ok (.mk 2 [] [x,xq] [] [] 0,aa)) (.returned (.agg #[.int .i64 2,.string ⟨#[]⟩,.slice (some ⟨g',0,none⟩) 2 N,.slice none 0 0,.slice none 0 0,.int .i64 0])) (Xf w8 w.heap.size (.int .i64 2) (.string ⟨#[]⟩) (.slice (some ⟨g',0,none⟩) 2 N) (.slice none 0 0) (.slice none 0 0) (.int .i64 0))) :=
          ZG.of_set6 (B:=w0.heap.size) 2 [] 0 (aP.out.trans ap) (Nat.le_refl _) hr aH aC (z6.nil _ _) (z6.nil _ _) (by omega) h8
         clear b8 p8 aC ap hS aq bd h8 aR aI aP L ao aw s;go_wp2
         exact bodyPost_ret (v:=.agg #[.int .i64 2,.string ⟨#[]⟩,.slice (some ⟨g',0,none⟩) 2 N,.slice none 0 0,.slice none 0 0,.int .i64 0]) (by simp [results,Tryz.results169,go_sem,z0,z1,z2,z3,z4,z5]) rfl HP.out
        ·simp only [if_neg hm] at cn
         simp only [if_neg hm,Option.some.injEq] at hp;subst hp;go_wp2_with fail
         refine cn.mono ?_;clear cn;rintro e w8 ⟨ap,rfl⟩;exact ⟨rfl,aP.out.trans ap,rfl⟩
    ·have be:Yy x=false:=by simpa using hpl
     rw [be] at ai;rw [if_neg hpl] at hp;simp only [Option.some.injEq] at hp;subst hp;have cg:=uA r g o1 D t1 us1 w4 af;clear af;go_wp2_with fail
     refine ai.mono ?_;clear ai p2 y0 Z y2 y3 y4;rintro e w' ⟨rfl,he⟩;obtain rfl:=he.symm;clear he;go_wp2_with fail
     refine cg.mono ?_;clear cg;rintro e _ ⟨rfl,rfl⟩;exact ⟨rfl,(av.out.trans aT.out).alloc _,rfl⟩
   ·have bx:zo t1 [61]=false:=by simpa using hi
    rw [bx] at ci;rw [if_neg hi] at hp
    unfold zW at hp
    simp only [zz,List.tail_cons] at hp;have cn:=yB r g o1 D t1 us1 [59] w3 ar.out (fun hi=>(a3.tail (zi hi)).ne)
    go_wp2_with fail
    rw [←aN.out];refine ci.mono ?_;clear ci aN;rintro e w' ⟨rfl,he⟩;obtain rfl:=he.symm;clear he;rw [bf.out]
    by_cases hm:zo t1 [59]=true
    ·simp only [if_pos hm] at cn
     rw [if_pos hm] at hp;simp only [Option.some.injEq] at hp;subst hp;go_wp2_with fail
     refine cn.mono ?_;clear cn;rintro e w5 ⟨ab,rfl,h5⟩;have hS:=HS.out;have aZ:=ab.size;have b5:=(ab.block w.heap.size (by omega) (by omega)).trans HB.out.1
     have p5:=(ab.block P (by omega) (by omega)).trans HB.out.2.1
     have r5:=(ab.block y.heap.size (by omega) (by omega)).trans HB.out.2.2
     have bb:=aO.out.kept ab.size fun k hk hlt=>ab.block k hlt (by omega)
     have k5:zd r w w5:=av.out.trans ab;have aE:zI (fun k=>w0.heap.size≤k) w5 [x] (.slice (some ⟨y.heap.size,0,none⟩) 1 1):=Zf.row (Zf.ofBlock (E:=ExE) (sz:=5) (ty:=45) (c:=[.int .i64 x.kind,.string U,.int .i64 V,.slice x0 x1 x2,.int .i64 Y]) r5 rfl hS.2.2.2 (zV.wide bb fun k hk=>⟨hk.1,by omega⟩))
     obtain ⟨e0,e1,e2,e3,e4,e5,-⟩:=zJ p5;obtain ⟨q0,q1,q2,q3,q4,q5,qf⟩:=zJ b5;obtain ⟨z0,z1,z2,z3,z4,z5,-⟩:=zJ (Zq b5 (.int .i64 7) (.string ⟨#[]⟩) (.slice (some ⟨y.heap.size,0,none⟩) 1 1) (.slice none 0 0) (.slice none 0 0) (.int .i64 0))
     have HP:Hid (ZG r g w (.ok (.mk 7 [] [x] [] [] 0,us1)) (.returned (.agg #[.int .i64 7,.string ⟨#[]⟩,.slice (some ⟨y.heap.size,0,none⟩) 1 1,.slice none 0 0,.slice none 0 0,.int .i64 0])) (Xf w5 w.heap.size (.int .i64 7) (.string ⟨#[]⟩) (.slice (some ⟨y.heap.size,0,none⟩) 1 1) (.slice none 0 0) (.slice none 0 0) (.int .i64 0))) :=
      ZG.of_set6 (B:=w0.heap.size) 7 [] 0 k5 (Nat.le_refl _) hr aH aE (z6.nil _ _) (z6.nil _ _) (by omega) h5
     clear b5 p5 r5 bb k5 aE ab aZ hS h5 HB aO av HS ar;go_wp2
     exact bodyPost_ret (v:=.agg #[.int .i64 7,.string ⟨#[]⟩,.slice (some ⟨y.heap.size,0,none⟩) 1 1,.slice none 0 0,.slice none 0 0,.int .i64 0]) (by simp [results,Tryz.results169,go_sem,z0,z1,z2,z3,z4,z5]) rfl HP.out
    ·simp only [if_neg hm] at cn
     rw [if_neg hm] at hp;simp only [Option.some.injEq] at hp;subst hp;go_wp2_with fail
     refine cn.mono ?_;clear cn;rintro e w5 ⟨ab,rfl⟩;exact ⟨rfl,av.out.trans ab,rfl⟩
end Go.Proofs.YtpejpbbdgblbeaaGreatDoor
