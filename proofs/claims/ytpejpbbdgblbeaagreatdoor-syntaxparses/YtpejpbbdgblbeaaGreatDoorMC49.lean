import Derived.Test.YtpejpbbdgblbeaaGreatDoorMC47
import Derived.Test.YtpejpbbdgblbeaaGreatDoorMC45
namespace Go.Proofs.YtpejpbbdgblbeaaGreatDoor
open Go.RowKit Go.Shelf
set_option maxHeartbeats 16000000
set_option maxRecDepth 100000
theorem qU:∀(f:Nat) (l:List Sz) (base:Option Addr) (m cap:Nat) (w:World),ZB (ZT w.heap.size w f) 6 w.heap.size w l base m cap→(ZX l).length≤1099511627776 →
  Calls Tryz.prog 30 #[.slice base m cap] w (LnP w (ZX l)):=by
 intro f
 induction f with
 | zero =>
  intro l base m cap w h hln;refine VJ l base m cap w h.1 (by have:=h.1;have:=h.2.1;have:=h.2.2.1;unfold maxLen at this;omega) hln fun i y hy=>?_
  obtain ⟨b,o,c,e,hB,hlt,hc,hp,hcell⟩:=h.2.2.2 i y hy;exact hp.elim
 | succ f ih =>
  intro l base m cap w h hln;refine VJ l base m cap w h.1 (by have:=h.1;have:=h.2.1;have:=h.2.2.1;unfold maxLen at this;omega) hln fun i y hy=>?_
  obtain ⟨k,s,es,body,els,line⟩:=y;obtain ⟨b,o,be,me,ce,bb,mb,cb,bl,ml,cl,e1,hb,r1,r2,r3,c0,c1,c2,c3,c4,c5⟩:=h.sz2 hy;have h1:=VI l (i+1);rw [qT l i _ hy,zeZ,List.length_append,List.length_cons,List.length_append,List.length_append] at h1;refine ⟨b,o,be,me,ce,bb,mb,cb,bl,ml,cl,line,es,body,els,k,s,rfl,e1,hb,r1.1,by have:=r1.1;have:=r1.2.1;have:=r1.2.2.1;unfold maxLen at this;omega,r1.kids,c2,c3,c4,c5,fun wx hwx=>?_,fun wx hwx=>?_⟩
  ·exact ih body bb mb cb wx (r2.near hwx fun x c h=>ZT.wide hwx.size f x c (ZT.kept hwx f x c h)) (by omega)
  ·exact ih els bl ml cl wx (r3.near hwx fun x c h=>ZT.wide hwx.size f x c (ZT.kept hwx f x c h)) (by omega)
def vq:List Fz→List Int
 | []=>[]
 | x::xs=>(x.line::ZX x.body)++vq xs
def uf (l:List Rz):List Int:=l.map fun x=>x.line
def lnsP (x:Pz):List Int:=uf x.recs++vq x.funs
theorem zaa (l:List Fz):∀i y,l[i]?=some y→vq (l.take (i+1))=vq (l.take i)++(y.line::ZX y.body):=by
 induction l with
 | nil=>intro i y h;simp at h
 | cons x xs ih =>
  intro i y h;cases i with
  | zero =>
   simp only [List.getElem?_cons_zero,Option.some.injEq] at h;subst h
   simp [vq]
  | succ i =>
   have:=ih i y (by simpa using h)
   rw [List.take_succ_cons,List.take_succ_cons,vq,vq,this,List.append_assoc]
theorem uK (l:List Fz):∀i,(vq (l.take i)).length≤(vq l).length:=by
 induction l with
 | nil=>intro i;simp [vq]
 | cons x xs ih =>
  intro i;cases i with
  | zero=>simp [vq]
  | succ i =>
   rw [List.take_succ_cons,vq,vq,List.length_append,List.length_append]
   have:=ih i
   omega
theorem ze0 (l:List Rz) (i:Nat) (y:Rz) (h:l[i]?=some y):uf (l.take (i+1))=uf (l.take i)++[y.line]:=by
 unfold uf
 rw [List.map_take,List.map_take,List.take_add_one,List.getElem?_map,h]
 rfl
theorem XN {ops:Array Oper} {rest:List Oper} {o:Oper} {a:Act} {Q:Exit→Act→World→Prop} {w:World} (hgd:o.guard=none) (s x:Operand)
  (ho:o.op=.call { callee:=.builtin .append,args:=#[s,x],argTypes:=#[33,33] })
  (base:Nat) (v:Value) (L:List Int) (n:Int) (N:Nat) (hs:a.eval s=v) (hown:w.ownsRow base 3 1 v L.length (yh L)) (hx:a.eval x=.slice (some ⟨N,0,none⟩) 1 1) (hN:w.heap[N]?=some (.cells #[.int .i64 n] 3))
  (hln:L.length+1≤1099511627776) (hbase:base≤w.heap.size)
  (h:∀v' w',w'.ownsRow base 3 1 v' (L++[n]).length (yh (L++[n]))→Below base w w'→wpList Tryz.prog ops Q rest (a.put o.dst v') w'):wpList Tryz.prog ops Q (o::rest) a w:=by
 obtain ⟨i0,hi0,hz0,hz1,hz2⟩:=info_parts zdR;refine wpList_append_own_at w hgd s x 33 ho base 3 i0 _ 1 8 Tryz.underlying33 hi0 hz0 hz1 hz2 rfl (by decide) v _ _ hs hown ⟨N,0,none⟩ 1 1 [.int .i64 n] hx (by simp) (fun j v h=>?_) (by simp [Value.oneCell']) (by unfold maxLen;omega) (by omega) hbase ?_
 ·cases j with
  | zero=>simp only [List.getElem?_cons_zero,Option.some.injEq] at h;subst h;simp [World.cell?,Addr.add,hN]
  | succ j=>simp at h
 ·intro v' w' hown' hgrow _ hat
  refine h v' w' ?_ ((Below.refl base w).grown hgrow hbase fun q hq=>(hown.lt q hq).1)
  have e1:(L++[n]).length=L.length+1:=by simp
  have e2:yh (L++[n])=yh L++[.int .i64 n]:=by simp
  rw [e1,e2];exact hown'
def zhq (base:Option Addr) (w:World) (i:Nat) (x:Rz):Prop:=∃(b o:Nat),base=some ⟨b,o,none⟩∧b<w.heap.size∧w.cell? ⟨b,o+i*3+2,none⟩=some (.int .i64 x.line)
def zhr (base:Option Addr) (w:World) (i:Nat) (x:Fz):Prop:=∃(b o:Nat) (bg:Option Addr) (mg cg:Nat),base=some ⟨b,o,none⟩∧b<w.heap.size∧w.cell? ⟨b,o+i*5+3,none⟩=some (.slice bg mg cg)∧w.cell? ⟨b,o+i*5+4,none⟩=some (.int .i64 x.line) ∧
 Hid (∀wx,Below w.heap.size w wx→Calls Tryz.prog 30 #[.slice bg mg cg] wx (LnP wx (ZX x.body)))
theorem zgi (rs:List Rz) (fs:List Fz) (b b2:Option Addr) (m cap m2 cap2:Nat) (w:World) (hm:m=rs.length) (hm2:m2=fs.length) (hmx:m≤9223372036854775807) (hmx2:m2≤9223372036854775807) (hln:(lnsP ⟨rs,fs⟩).length≤1099511627776)
  (hr:∀i x,rs[i]?=some x→zhq b w i x) (hf:∀i x,fs[i]?=some x→zhr b2 w i x) :
  Calls Tryz.prog 12 #[.agg #[.slice b m cap,.slice b2 m2 cap2]] w (LnP w (lnsP ⟨rs,fs⟩)):=by
 have HR:Hid (∀i x,rs[i]?=some x→zhq b w i x):=hr;have HF:Hid (∀i x,fs[i]?=some x→zhr b2 w i x):=hf;have HM:Hid (m=rs.length):=hm;have HM2:Hid (m2=fs.length):=hm2;have HLN:Hid ((uf rs).length+(vq fs).length≤1099511627776):=show _≤_ by unfold lnsP at hln;rw [List.length_append] at hln;exact hln
 obtain ⟨w1,hw1⟩:∃w1,w1=w.alloc (pzO b m cap b2 m2 cap2):=⟨_,rfl⟩;have hsz1:w1.heap.size=w.heap.size+1:=by rw [hw1];simp
 have hb1:Below w.heap.size w w1:=by rw [hw1];exact (Below.refl _ w).alloc (Nat.le_refl _) _
 have p1:w1.heap[w.heap.size]?=some (pzO b m cap b2 m2 cap2):=by rw [hw1];exact World.alloc_heap_new w _
 have HB1:Hid (Below w.heap.size w w1):=hb1;have HP:Hid (w1.heap[w.heap.size]?=some (pzO b m cap b2 m2 cap2)):=p1;obtain ⟨c0,c1⟩:=YB p1;have HO0:Hid (w1.ownsRow w1.heap.size 3 1 (.slice none 0 0) 0 []∧Below w1.heap.size w1 w1):=⟨World.ownsRow_nil w1 _ _ _,Below.refl _ _⟩;have hw1':=hw1.symm;clear hr hf hm hm2 hln hw1 hb1 p1
 go_enter Tryz.func12,Tryz.ntmps12
 go_wp2_with fail
 go_loopw [3,4] (fun vo vi wr=>∃(i:Nat) (L:List Int),i≤m∧vi=.int .i64 (i:Int)∧L=uf (rs.take i)∧(L=[]→vo=.slice none 0 0)∧wr.ownsRow w1.heap.size 3 1 vo L.length (yh L)∧Below w1.heap.size w1 wr) (fun _ vi _=>m-(intOf vi).toNat)
 case atStart=>exact ⟨0,[],Nat.zero_le _,rfl,by simp [uf],fun _=>rfl,HO0.out⟩
 case round =>
  obtain ⟨i,L,hi,rfl,hL,hnil,hown,hbr⟩:=hrel;clear c0 c1 HO0;have HB:Hid (Below w1.heap.size w1 wr):=hbr;have HLL:Hid (L=uf (rs.take i)):=hL;have HNL:Hid (L=[]→_=Value.slice none 0 0):=hnil;have HOW:Hid (wr.ownsRow w1.heap.size 3 1 _ L.length (yh L)):=hown;have hsr:w1.heap.size≤wr.heap.size:=hbr.size;obtain ⟨c0,c1⟩:=YB ((hbr.block w.heap.size (by omega)).trans HP.out)
  have HBw:Hid (Below w.heap.size w wr):=zi HB1.out hbr;have hLm:L.length=i:=by rw [hL];unfold uf;rw [List.length_map,List.length_take,←HM.out];omega
  have hRm:(uf rs).length=m:=by unfold uf;rw [List.length_map,←HM.out]
  have hln2:=HLN.out;clear hbr hL hnil hown
  by_cases hlt:i<m
  ·have hi2:(i:Int)<m:=by omega
   obtain ⟨x,hx⟩:∃x,rs[i]?=some x:=⟨rs[i]'(by rw [←HM.out];exact hlt),List.getElem?_eq_getElem (by rw [←HM.out];exact hlt)⟩
   obtain ⟨bb,o,rfl,hb,q2⟩:=HR.out i x hx;have HNX:Hid (L++[x.line]=uf (rs.take (i+1))):=show _=_ by rw [ze0 rs i x hx,HLL.out]
   generalize x.line=n at *;have d2:=(HBw.out.cell (p:=⟨bb,o+i*3+2,none⟩) hb).trans q2;obtain ⟨w2,hw2⟩:∃w2,w2=wr.alloc (.cells #[.int .i64 n] 3):=⟨_,rfl⟩;have hb2:Below wr.heap.size wr w2:=by rw [hw2];exact (Below.refl _ wr).alloc (Nat.le_refl _) _
   have hs2:w1.heap.size≤w2.heap.size:=by have:=hb2.size;omega
   have p2:w2.heap[wr.heap.size]?=some (.cells #[.int .i64 n] 3):=by rw [hw2];exact World.alloc_heap_new wr _
   have HP2:Hid (w2.heap[wr.heap.size]?=some (.cells #[.int .i64 n] 3)):=p2;have HO2:Hid (w2.ownsRow w1.heap.size 3 1 _ L.length (yh L)):=yT HOW.out hb2 (Nat.le_refl _);have HB2:Hid (Below w1.heap.size w1 w2):=zi HB.out hb2;have hw2':=hw2.symm;clear hw2 hb2 p2 q2 hx HOW HB HNL HLL HBw
   go_wp2_with (at_builtin;refine XN rfl _ _ rfl w1.heap.size _ L n wr.heap.size rfl HO2.out rfl HP2.out (by omega) hs2 ?_;intro v' wz hown' hbz)
   have HB5:Hid (Below w1.heap.size w1 wz):=HB2.out.trans hbz;have HO5:Hid (wz.ownsRow w1.heap.size 3 1 v' (L++[n]).length (yh (L++[n]))):=hown';clear hown' hbz HO2 HB2 HP2 hw2' c0 c1 d2;go_wp2
   exact ⟨⟨i+1,L++[n],by omega,by go_num,HNX.out,fun h=>absurd h (by simp),HO5.out,HB5.out⟩,by simp [intOf];omega⟩
  ·obtain rfl:i=m:=by omega
   have hi2:¬ (i:Int)<i:=by omega
   have hLR:L=uf rs:=by rw [HLL.out,HM.out,List.take_length]
   have HLR:Hid (L=uf rs):=hLR;have HO9:Hid ((L=[]→_=Value.slice none 0 0)∧wr.ownsRow w1.heap.size 3 1 _ L.length (yh L)∧Below w1.heap.size w1 wr):=⟨HNL.out,HOW.out,HB.out⟩;clear HR HLL HNL HOW HB hLR;go_wp2_with fail
   go_loopw [3,5] (fun vo vk wr=>∃(j:Nat) (L':List Int),j≤m2∧vk=.int .i64 (j:Int)∧L'=L++vq (fs.take j)∧(L'=[]→vo=.slice none 0 0)∧wr.ownsRow w1.heap.size 3 1 vo L'.length (yh L')∧Below w1.heap.size w1 wr) (fun _ vk _=>m2-(intOf vk).toNat)
   case atStart=>exact ⟨0,L,Nat.zero_le _,rfl,by simp [vq],HO9.out⟩
   case round =>
    obtain ⟨j,L',hj,rfl,hL',hnil,hown,hbr⟩:=hrel;clear c0 c1 HO9 HBw hsr;have HB:Hid (Below w1.heap.size w1 wr):=hbr;have HLL:Hid (L'=L++vq (fs.take j)):=hL';have HNL:Hid (L'=[]→_=Value.slice none 0 0):=hnil;have HOW:Hid (wr.ownsRow w1.heap.size 3 1 _ L'.length (yh L')):=hown;have hsr:w1.heap.size≤wr.heap.size:=hbr.size;obtain ⟨c0,c1⟩:=YB ((hbr.block w.heap.size (by omega)).trans HP.out)
    have HBw:Hid (Below w.heap.size w wr):=zi HB1.out hbr;clear hbr hL' hnil hown
    by_cases hlt2:j<m2
    ·have hi3:(j:Int)<m2:=by omega
     obtain ⟨x,hx⟩:∃x,fs[j]?=some x:=⟨fs[j]'(by rw [←HM2.out];exact hlt2),List.getElem?_eq_getElem (by rw [←HM2.out];exact hlt2)⟩
     obtain ⟨bb,o,bg,mg,cg,rfl,hb,q1,q2,HC⟩:=HF.out j x hx;have HNX:Hid (L'++[x.line]++ZX x.body=L++vq (fs.take (j+1))):=show _=_ by rw [zaa fs j x hx,HLL.out];simp
     have hLy:L'.length+1+(ZX x.body).length≤1099511627776:=by
      have h1:=congrArg List.length HNX.out;have h2:=uK fs (j+1);simp only [List.length_append,List.length_cons,List.length_nil] at h1;omega
     obtain ⟨Y,hY⟩:∃Y,Y=ZX x.body:=⟨_,rfl⟩;rw [←hY] at HNX hLy HC;generalize x.line=n at *;have d2:=(HBw.out.cell (p:=⟨bb,o+j*5+4,none⟩) hb).trans q2;have HQ:Hid (bb<w.heap.size∧w.cell? ⟨bb,o+j*5+3,none⟩=some (.slice bg mg cg)):=⟨hb,q1⟩;obtain ⟨w2,hw2⟩:∃w2,w2=wr.alloc (.cells #[.int .i64 n] 3):=⟨_,rfl⟩;have hb2:Below wr.heap.size wr w2:=by rw [hw2];exact (Below.refl _ wr).alloc (Nat.le_refl _) _
     have hs2:w1.heap.size≤w2.heap.size:=by have:=hb2.size;omega
     have p2:w2.heap[wr.heap.size]?=some (.cells #[.int .i64 n] 3):=by rw [hw2];exact World.alloc_heap_new wr _
     have HP2:Hid (w2.heap[wr.heap.size]?=some (.cells #[.int .i64 n] 3)):=p2;have HO2:Hid (w2.ownsRow w1.heap.size 3 1 _ L'.length (yh L')):=yT HOW.out hb2 (Nat.le_refl _);have HB2:Hid (Below w1.heap.size w1 w2):=zi HB.out hb2;have hw2':=hw2.symm;clear hw2 hb2 p2 q1 q2 hx hb HOW HB HNL HLL HBw hY
     go_upto_region 10 with (at_builtin;refine XN rfl _ _ rfl w1.heap.size _ L' n wr.heap.size rfl HO2.out rfl HP2.out (by omega) hs2 ?_;intro v' wz hown' hbz)
     have HB5:Hid (Below w1.heap.size w1 wz):=HB2.out.trans hbz;have HO5:Hid (wz.ownsRow w1.heap.size 3 1 v' (L'++[n]).length (yh (L'++[n]))):=hown';clear hown' hbz HO2 HB2 HP2 hw2' c0 c1 d2;obtain ⟨c0,c1⟩:=YB ((HB5.out.block w.heap.size (by omega)).trans HP.out)
     have HBw:Hid (Below w.heap.size w wz):=zi HB1.out HB5.out;have d1:=(HBw.out.cell (p:=⟨bb,o+j*5+3,none⟩) HQ.out.1).trans HQ.out.2;have ck:=HC.out wz HBw.out;have hL2:(L'++[n]).length+Y.length≤1099511627776:=by rw [List.length_append];simpa using hLy
     have hne:L'++[n]++Y≠[]:=by simp
     obtain ⟨L3,hL3⟩:∃L3,L3=L'++[n]:=⟨_,rfl⟩;rw [←hL3] at HO5 hL2 hne HNX;clear HC HQ HBw hL3 hLy;go_wp2_with fail
     refine ck.mono ?_;clear ck d1 c0 c1;rintro e w4 ⟨u4,rfl,hn,hou,hb2⟩;have HOW2:Hid (w4.ownsRow w1.heap.size 3 1 _ L3.length (yh L3)):=yT HO5.out hb2 (Nat.le_refl _);have HB6:Hid (Below w1.heap.size w1 w4):=zi HB5.out hb2;have HOU:Hid (w4.ownsRow wz.heap.size 3 1 u4 Y.length (yh Y)):=hou;have HNU:Hid (Y=[]→u4=.slice none 0 0):=hn;have hs4:w1.heap.size≤w4.heap.size:=HB6.out.size;clear hou hb2 HO5 HB5 hn;go_wp2_with (at_builtin;refine YM rfl _ _ rfl w1.heap.size wz.heap.size _ u4 L3 Y rfl HOW2.out rfl HNU.out HOU.out hL2 hs4 ?_;intro v3 wx hown' hbz)
     have HB7:Hid (Below w1.heap.size w1 wx):=HB6.out.trans hbz;have HO7:Hid (wx.ownsRow w1.heap.size 3 1 v3 (L3++Y).length (yh (L3++Y))):=hown';clear hown' hbz HOW2 HB6 HOU HNU;go_wp2
     exact ⟨⟨j+1,L3++Y,by omega,by go_num,HNX.out,fun h=>absurd h hne,HO7.out,HB7.out⟩,by simp [intOf];omega⟩
    ·obtain rfl:j=m2:=by omega
     have hi3:¬ (j:Int)<j:=by omega
     have heL:L'=lnsP ⟨rs,fs⟩:=by rw [HLL.out,HM2.out,List.take_length,HLR.out];rfl
     have HZ:=(show Hid (_∧_∧_) from ⟨HNL.out,zaS HOW.out HB1.out.size,HBw.out⟩)
     rw [heL] at HZ;clear HF HM HM2 HLN HLR HLL HNL HOW HB HBw heL;go_wp2
     exact bodyPost_ret (v:=_) (by simp [results,Tryz.results12,go_sem]) rfl ⟨_,rfl,HZ.out⟩
theorem zab (f:Nat) (x:Pz) (v:Value) (w:World) (hx:Xo w.heap.size w f x v) (hln:(lnsP x).length≤1099511627776) :
  Calls Tryz.prog 12 #[v] w (LnP w (lnsP x)):=by
 obtain ⟨b,m,cap,b2,m2,cap2,rfl,r1,f1⟩:=hx;obtain ⟨rs,fs⟩:=x;refine zgi rs fs b b2 m cap m2 cap2 w r1.1 f1.1 (by have:=r1.1;have:=r1.2.1;have:=r1.2.2.1;unfold maxLen at this;simp only at *;omega) (by have:=f1.1;have:=f1.2.1;have:=f1.2.2.1;unfold maxLen at this;simp only at *;omega) hln (fun i x hx=>?_) (fun i x hx=>?_)
 ·obtain ⟨bb,o,c,e1,hlt,-,-,hp,hc⟩:=r1.2.2.2 i x hx
  obtain ⟨bf,mf,cf,rfl,-,-⟩:=hp;exact ⟨bb,o,e1,hlt,hc 2 _ rfl⟩
 ·obtain ⟨bb,o,c,e1,hlt,-,-,hp,hc⟩:=f1.2.2.2 i x hx
  obtain ⟨bf,mf,cf,bg,mg,cg,rfl,-,-,-,hg⟩:=hp;refine ⟨bb,o,bg,mg,cg,e1,hlt,hc 3 _ rfl,hc 4 _ rfl,fun wx hwx=>?_⟩
  refine qU f _ bg mg cg wx (hg.near hwx fun x c h=>ZT.wide hwx.size f x c (ZT.kept hwx f x c h)) ?_
  have h1:=uK fs (i+1);rw [zaa fs i x hx,List.length_append,List.length_cons] at h1
  unfold lnsP at hln
  rw [List.length_append] at hln;simp only at hln;omega
mutual
def dpS:Sz→Nat
 | .mk _ _ es body els _=>max (Vh es) (max (dpSL body) (dpSL els))+1
def dpSL:List Sz→Nat
 | []=>0
 | x::xs=>max (dpS x) (dpSL xs)
end
theorem Uh (l:List Sz):∀i y,l[i]?=some y→dpSL (l.take (i+1))=max (dpSL (l.take i)) (dpS y):=by
 induction l with
 | nil=>intro i y h;simp at h
 | cons x xs ih =>
  intro i y h;cases i with
  | zero =>
   simp only [List.getElem?_cons_zero,Option.some.injEq] at h;subst h
   simp [dpSL]
  | succ i =>
   have:=ih i y (by simpa using h)
   rw [List.take_succ_cons,List.take_succ_cons,dpSL,dpSL,this,Nat.max_assoc]
theorem vL (l:List Sz):∀i,dpSL (l.take i)≤dpSL l:=by
 induction l with
 | nil=>intro i;simp [dpSL]
 | cons x xs ih =>
  intro i;cases i with
  | zero=>simp [dpSL]
  | succ i =>
   rw [List.take_succ_cons,dpSL,dpSL]
   have:=ih i
   omega
def ziS (base:Option Addr) (w:World) (i:Nat) (y:Sz):Prop:=∃(b o:Nat) (k:Int) (s:List UInt8) (be:Option Addr) (me ce:Nat) (bb:Option Addr) (mb cb:Nat) (bl:Option Addr) (ml cl:Nat) (line:Int),base=some ⟨b,o,none⟩∧b<w.heap.size ∧
 w.cell? ⟨b,o+i*6,none⟩=some (.int .i64 k)∧w.cell? ⟨b,o+i*6+1,none⟩=some (.string (za s))∧w.cell? ⟨b,o+i*6+2,none⟩=some (.slice be me ce)∧w.cell? ⟨b,o+i*6+3,none⟩=some (.slice bb mb cb)∧w.cell? ⟨b,o+i*6+4,none⟩=some (.slice bl ml cl)∧w.cell? ⟨b,o+i*6+5,none⟩=some (.int .i64 line) ∧
 Hid (∀wx,Below w.heap.size w wx→Calls Tryz.prog 66 #[.agg #[.int .i64 k,.string (za s),.slice be me ce,.slice bb mb cb,.slice bl ml cl,.int .i64 line]] wx fun e w'=>e=.returned (.int .i64 (dpS y:Int))∧Below wx.heap.size wx w')
theorem zac (l:List Sz) (base:Option Addr) (m cap:Nat) (w:World) (hm:m=l.length) (hmx:m≤9223372036854775807) (hd:dpSL l≤4611686018427387904) (hat:∀i y,l[i]?=some y→ziS base w i y) :
  Calls Tryz.prog 27 #[.slice base m cap] w fun e w'=>e=.returned (.int .i64 (dpSL l:Int))∧Below w.heap.size w w':=by
 have HAT:Hid (∀i y,l[i]?=some y→ziS base w i y):=hat
 have HM:Hid (m=l.length):=hm;have HD0:Hid (dpSL l≤4611686018427387904):=hd;have HB0:Hid (Below w.heap.size w w):=Below.refl _ _;clear hat hm hd
 go_enter Tryz.func27,Tryz.ntmps27
 go_wp2_with fail
 go_loopw [3,4] (fun vn vi wr=>∃(i D:Nat),i≤m∧vi=.int .i64 (i:Int)∧vn=.int .i64 (D:Int)∧D=dpSL (l.take i)∧Below w.heap.size w wr) (fun _ vi _=>m-(intOf vi).toNat)
 case atStart=>exact ⟨0,0,Nat.zero_le _,rfl,rfl,by simp [dpSL],HB0.out⟩
 case round =>
  obtain ⟨i,D,hi,rfl,rfl,hD,hbr⟩:=hrel;have HB:Hid (Below w.heap.size w wr):=hbr;have hDN:D≤4611686018427387904:=by rw [hD];exact Nat.le_trans (vL l i) HD0.out
  have HD:Hid (D=dpSL (l.take i)):=hD;clear hbr hD
  by_cases hlt:i<m
  ·have hlt':(i:Int)<(m:Int):=by omega
   obtain ⟨y,hy⟩:∃y,l[i]?=some y:=⟨l[i]'(by rw [←HM.out];exact hlt),List.getElem?_eq_getElem (by rw [←HM.out];exact hlt)⟩
   obtain ⟨b,o,k,s,be,me,ce,bb,mb,cb,bl,ml,cl,line,rfl,hb,q0,q1,q2,q3,q4,q5,HC⟩:=HAT.out i y hy;have m0:=(HB.out.cell (p:=⟨b,o+i*6,none⟩) hb).trans q0;have m1:=(HB.out.cell (p:=⟨b,o+i*6+1,none⟩) hb).trans q1;have m2:=(HB.out.cell (p:=⟨b,o+i*6+2,none⟩) hb).trans q2;have m3:=(HB.out.cell (p:=⟨b,o+i*6+3,none⟩) hb).trans q3;have m4:=(HB.out.cell (p:=⟨b,o+i*6+4,none⟩) hb).trans q4;have m5:=(HB.out.cell (p:=⟨b,o+i*6+5,none⟩) hb).trans q5;have ck:=HC.out wr HB.out;have HNX:Hid (max D (dpS y)=dpSL (l.take (i+1))):=show _=_ by rw [Uh l i y hy,HD.out]
   have hyN:dpS y≤4611686018427387904:=by
    have h1:=vL l (i+1);have h2:=HD0.out;rw [Uh l i y hy] at h1;omega
   clear hy HD q0 q1 q2 q3 q4 q5 HC;generalize dpS y=Y at *;go_wp2_with fail
   refine ck.mono ?_;clear ck m0 m1 m2 m3 m4 m5;rintro e w2 ⟨rfl,hb2⟩;have HB2:Hid (Below w.heap.size w w2):=zi HB.out hb2;clear hb2 HB;go_wp2
   exact ⟨⟨i+1,max D Y,by omega,by go_num,by go_num,HNX.out,HB2.out⟩,by simp [intOf];omega⟩
  ·obtain rfl:i=m:=by omega
   have hlt':¬ (i:Int)<(i:Int):=by omega
   have HV:Hid ((dpSL l:Int)=(D:Int)):=show _=_ by
    rw [HD.out,HM.out,List.take_length]
   clear HAT HM HD0 HD;go_wp2
   exact bodyPost_ret (v:=.int .i64 (D:Int)) (by simp [results,Tryz.results27,go_sem]) rfl ⟨by rw [HV.out],HB.out⟩
theorem zgj {P:Program} {ats:Array TypeId} {ty:TypeId} (a b c:Nat) (w:World):Sem.run P (Builtin.max_ ats ty #[.int .i64 (a:Int),.int .i64 (b:Int),.int .i64 (c:Int)]) w=Result.ok (.int .i64 ((max a (max b c):Nat):Int)) w:=by
 unfold Builtin.max_
 simp only [List.foldlM,Sem.run_bind,Sem.run_pure]
 by_cases h1:(a:Int)<b <;> by_cases h2:(b:Int)<c <;> by_cases h3:(a:Int)<c <;> simp [Builtin.max2,Sem.run_pure,Result.andThen_ok,h1,h2,h3] <;> omega
theorem zdj (k:Int) (s:List UInt8) (be:Option Addr) (m ce:Nat) (bb:Option Addr) (mb cb:Nat) (bl:Option Addr) (ml cl:Nat) (line:Int) (es:List Ez) (D1 D2:Nat) (w:World) (hm:m=es.length) (hmx:m≤9223372036854775807) (hk:YG w es be)
  (hd:Vh es≤4611686018427387903) (hd1:D1≤4611686018427387903) (hd2:D2≤4611686018427387903)
  (h1:∀wx,Below w.heap.size w wx→Calls Tryz.prog 27 #[.slice bb mb cb] wx fun e w'=>e=.returned (.int .i64 (D1:Int))∧Below wx.heap.size wx w')
  (h2:∀wx,Below w.heap.size w wx→Calls Tryz.prog 27 #[.slice bl ml cl] wx fun e w'=>e=.returned (.int .i64 (D2:Int))∧Below wx.heap.size wx w') :
  Calls Tryz.prog 66 #[QX k s be m ce bb mb cb bl ml cl line] w fun e w'=>e=.returned (.int .i64 ((max (Vh es) (max D1 D2)+1:Nat):Int))∧Below w.heap.size w w':=by
 obtain ⟨w1,hw1⟩:∃w1,w1=w.alloc (VC k s be m ce bb mb cb bl ml cl line):=⟨_,rfl⟩;have hb1:Below w.heap.size w w1:=by rw [hw1];exact (Below.refl _ w).alloc (Nat.le_refl _) _
 have p1:w1.heap[w.heap.size]?=some (VC k s be m ce bb mb cb bl ml cl line):=by rw [hw1];exact World.alloc_heap_new w _
 have hsz1:w1.heap.size=w.heap.size+1:=by rw [hw1];simp
 have HK:Hid (YG w es be):=hk;have HP1:Hid (w1.heap[w.heap.size]?=some (VC k s be m ce bb mb cb bl ml cl line)):=p1;have HB1:Hid (Below w.heap.size w w1):=hb1;have HM:Hid (m=es.length):=hm;have HD0:Hid (Vh es≤4611686018427387903):=hd;have HC1:Hid (∀wx,Below w1.heap.size w1 wx→Calls Tryz.prog 27 #[.slice bb mb cb] wx fun e w'=>e=.returned (.int .i64 (D1:Int))∧Below wx.heap.size wx w'):=fun wx h=>h1 wx (zi hb1 h)
 have HC2:Hid (∀wx,Below w1.heap.size w1 wx→Calls Tryz.prog 27 #[.slice bl ml cl] wx fun e w'=>e=.returned (.int .i64 (D2:Int))∧Below wx.heap.size wx w'):=fun wx h=>h2 wx (zi hb1 h)
 obtain ⟨c0,c1,c2,c3,c4,c5⟩:=zF p1;have hw1':=hw1.symm;clear hk h1 h2 hm hd hb1 p1 hw1
 go_enter Tryz.func66,Tryz.ntmps66
 go_wp2_with fail
 go_loopw [3,4] (fun vn vi wr=>∃(i D:Nat),i≤m∧vi=.int .i64 (i:Int)∧vn=.int .i64 (D:Int)∧D=Vh (es.take i)∧Below w1.heap.size w1 wr) (fun _ vi _=>m-(intOf vi).toNat)
 case atStart=>exact ⟨0,0,Nat.zero_le _,rfl,rfl,by simp [Vh],Below.refl _ _⟩
 case round =>
  obtain ⟨i,D,hi,rfl,rfl,hD,hbr⟩:=hrel;clear c0 c1 c2 c3 c4 c5;obtain ⟨c0,c1,c2,c3,c4,c5⟩:=zF ((hbr.block w.heap.size (by omega)).trans HP1.out)
  have HBR:Hid (Below w1.heap.size w1 wr):=hbr;have hsr:w1.heap.size≤wr.heap.size:=hbr.size;have hDN:D≤4611686018427387903:=by rw [hD];exact Nat.le_trans (Ut es i) HD0.out
  have HD:Hid (D=Vh (es.take i)):=hD;clear hbr hD
  by_cases hlt:i<m
  ·have hlt':(i:Int)<(m:Int):=by omega
   obtain ⟨y,hy⟩:∃y,es[i]?=some y:=⟨es[i]'(by rw [←HM.out];exact hlt),List.getElem?_eq_getElem (by rw [←HM.out];exact hlt)⟩
   obtain ⟨b,o,a1,a2,a3,a4,a5,a6,a7,rfl,hb,hxy,m0,m1,m2,m3,m4⟩:=(HK.out.below (zi HB1.out HBR.out)) i y hy;have hyN:dpE y≤4611686018427387903:=uu.1 HD0.out y (List.mem_of_getElem? hy);have ck:=qm (dpE y) y _ wr (by omega) (Nat.le_refl _) hxy
   have HNX:Hid (max D (dpE y)=Vh (es.take (i+1))):=show _=_ by rw [zbB es i y hy,HD.out]
   clear hy HK HD hxy;generalize dpE y=Y at *;go_wp2_with fail
   refine ck.mono ?_;clear ck m0 m1 m2 m3 m4 c0 c1 c2 c3 c4 c5;rintro e w2 ⟨rfl,hb2⟩;have HB2:Hid (Below w1.heap.size w1 w2):=zi HBR.out hb2;clear hb2 HBR;go_wp2
   exact ⟨⟨i+1,max D Y,by omega,by go_num,by go_num,HNX.out,HB2.out⟩,by simp [intOf];omega⟩
  ·obtain rfl:i=m:=by omega
   have hlt':¬ (i:Int)<(i:Int):=by omega
   have HDD:Hid (D=Vh es):=show _=_ by rw [HD.out,HM.out,List.take_length]
   have HX1:Hid (∀wx,Below wr.heap.size wr wx→Calls Tryz.prog 27 #[.slice bb mb cb] wx fun e w''=>e=.returned (.int .i64 (D1:Int))∧Below wr.heap.size wr w''):=fun wx h=>(HC1.out wx (zi HBR.out h)).mono fun e w'' h'=>⟨h'.1,h.trans (h'.2.mono h.size)⟩
   have HX2:Hid (∀wx,Below wr.heap.size wr wx→Calls Tryz.prog 27 #[.slice bl ml cl] wx fun e w''=>e=.returned (.int .i64 (D2:Int))∧Below wr.heap.size wr w''):=fun wx h=>(HC2.out wx (zi HBR.out h)).mono fun e w'' h'=>⟨h'.1,h.trans (h'.2.mono h.size)⟩
   have x3:=Zk (n:=wr.heap.size) c3 (show w.heap.size<wr.heap.size by omega)
   have x4:=Zk (n:=wr.heap.size) c4 (show w.heap.size<wr.heap.size by omega)
   clear HC1 HC2 HK HM HD0 HD;go_wp2_with fail
   refine xG (n:=wr.heap.size) (w0:=wr) (Below.refl _ _) (by kernel_rfl) (by kernel_rfl) ?_
   iterate 3 (go_big_quiet_step (fail))
   go_big_quiet_step (exact xz HX1.out _)
   iterate 2 (go_big_quiet_step (fail))
   go_big_quiet_step (exact xz HX2.out _)
   go_big_quiet_step ((rw [zgj];exact ⟨rfl,rfl⟩))
   iterate 2 (go_big_quiet_step (fail))
   refine wpQuiet_nil ?_;rintro _ ⟨c,rfl⟩;have HBc:Hid (Below w.heap.size w c.1):=zi HB1.out (HBR.out.trans (c.2.mono hsr));clear x3 x4 c0 c1 c2 c3 c4 c5;have hmx3:((max D (max D1 D2):Nat):Int)≤4611686018427387903:=by omega
   go_wp2
   exact bodyPost_ret (v:=.int .i64 (((max D (max D1 D2):Nat):Int)+1)) (by simp [results,Tryz.results66,go_sem]) rfl ⟨by rw [HDD.out];push_cast;rfl,HBc.out⟩
theorem zgk {l:List Sz} {i:Nat} {y:Sz} (h:l[i]?=some y):dpS y≤dpSL l:=by
 have h1:=vL l (i+1);rw [Uh l i y h] at h1;omega
theorem zdk:∀(f:Nat) (l:List Sz) (base:Option Addr) (m cap:Nat) (w:World),ZB (ZT w.heap.size w f) 6 w.heap.size w l base m cap→dpSL l≤4611686018427387903 →
  Calls Tryz.prog 27 #[.slice base m cap] w fun e w'=>e=.returned (.int .i64 (dpSL l:Int))∧Below w.heap.size w w':=by
 intro f
 induction f with
 | zero =>
  intro l base m cap w h hd;refine zac l base m cap w h.1 (by have:=h.1;have:=h.2.1;have:=h.2.2.1;unfold maxLen at this;omega) (by omega) fun i y hy=>?_
  obtain ⟨b,o,c,e,hB,hlt,hc,hp,hcell⟩:=h.2.2.2 i y hy;exact hp.elim
 | succ f ih =>
  intro l base m cap w h hd;refine zac l base m cap w h.1 (by have:=h.1;have:=h.2.1;have:=h.2.2.1;unfold maxLen at this;omega) (by omega) fun i y hy=>?_
  have hyd:=zgk hy;obtain ⟨k,s,es,body,els,line⟩:=y;obtain ⟨b,o,be,me,ce,bb,mb,cb,bl,ml,cl,e1,hb,r1,r2,r3,c0,c1,c2,c3,c4,c5⟩:=h.sz2 hy;rw [dpS] at hyd;refine ⟨b,o,k,s,be,me,ce,bb,mb,cb,bl,ml,cl,line,e1,hb,c0,c1,c2,c3,c4,c5,fun wx hwx=>?_⟩
  rw [dpS]
  exact zdj k s be me ce bb mb cb bl ml cl line es (dpSL body) (dpSL els) wx r1.1 (by have:=r1.1;have:=r1.2.1;have:=r1.2.2.1;unfold maxLen at this;omega) (r1.kids.below hwx) (by omega) (by omega) (by omega)
   (fun wy hwy=>ih body bb mb cb wy (r2.near (zi hwx hwy) fun x c h=>ZT.wide (zi hwx hwy).size f x c (ZT.kept (zi hwx hwy) f x c h)) (by omega))
   (fun wy hwy=>ih els bl ml cl wy (r3.near (zi hwx hwy) fun x c h=>ZT.wide (zi hwx hwy).size f x c (ZT.kept (zi hwx hwy) f x c h)) (by omega))
theorem Qw (w:World):Calls Tryz.prog 11 #[.slice none 0 0,.slice none 0 0] w fun e w'=>e=.returned (.bool true)∧Below w.heap.size w w':=by
 have HB0:Hid (Below w.heap.size w w):=Below.refl _ _
 go_enter Tryz.func11,Tryz.ntmps11
 go_wp2
 go_loopw [5] (fun vi wr=>vi=.int .i64 0∧Below w.heap.size w wr) (fun _ _=>0)
 case atStart=>exact ⟨rfl,HB0.out⟩
 case round =>
  obtain ⟨rfl,hbr⟩:=hrel;have HB:Hid (Below w.heap.size w wr):=hbr;clear hbr;go_wp2
  go_ret
  exact ⟨rfl,HB.out⟩
theorem Qx (L:List Int) (v u:Value) (B B':Nat) (w:World) (hv0:L=[]→v=.slice none 0 0) (hu0:L=[]→u=.slice none 0 0) (hv:w.ownsRow B 3 1 v L.length (yh L)) (hu:w.ownsRow B' 3 1 u L.length (yh L)) (hln:L.length≤1099511627776) :
  Calls Tryz.prog 11 #[v,u] w fun e w'=>e=.returned (.bool true)∧Below w.heap.size w w':=by
 by_cases hL:L=[]
 ·obtain rfl:=hv0 hL
  obtain rfl:=hu0 hL;exact Qw w
 ·exact Qv L v u B B' w hv hu (by cases L with | nil=>exact absurd rfl hL | cons _ _=>simp) hln
end Go.Proofs.YtpejpbbdgblbeaaGreatDoor
