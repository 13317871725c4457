import Derived.Test.YtpejpbbdgblbeaaGreatDoorMC47
import Derived.Test.YtpejpbbdgblbeaaGreatDoorMC40
namespace Go.Proofs.YtpejpbbdgblbeaaGreatDoor
open Go.RowKit Go.Shelf
set_option maxHeartbeats 16000000
set_option maxRecDepth 100000
theorem Ul:∀(f:Nat) (l:List Sz) (z:Option Addr) (m A:Nat) (w:World),Zk (ZN w.heap.size w f) 6 w.heap.size w l z m A→(Zi l).length≤1099511627776 →
  Calls Tryz.prog 30 #[.slice z m A] w (LnP w (Zi l)):=by
 intro f
 induction f with
 | zero =>
  intro l z m A w h G;refine vj l z m A w h.1 (by have:=h.1;have:=h.2.1;have:=h.2.2.1;unfold maxLen at this;omega) G fun i y hy=>?_
  obtain ⟨b,o,c,e,hB,aa,hc,W,J⟩:=h.2.2.2 i y hy;exact W.elim
 | succ f ih =>
  intro l z m A w h G;refine vj l z m A w h.1 (by have:=h.1;have:=h.2.1;have:=h.2.2.1;unfold maxLen at this;omega) G fun i y hy=>?_
  obtain ⟨k,s,U,D,H,line⟩:=y;obtain ⟨b,o,be,me,ce,L,K,N,Q,O,R,e1,Y,I,T,r3,c0,c1,c2,c3,Z,V⟩:=h.sz2 hy;have h1:=vh l (i+1);rw [Uk l i _ hy,V8,List.length_append,List.length_cons,List.length_append,List.length_append] at h1;refine ⟨b,o,be,me,ce,L,K,N,Q,O,R,line,U,D,H,k,s,rfl,e1,Y,I.1,by have:=I.1;have:=I.2.1;have:=I.2.2.1;unfold maxLen at this;omega,I.kids,c2,c3,Z,V,fun wx hwx=>?_,fun wx hwx=>?_⟩
  ·exact ih D L K N wx (T.near hwx fun x c h=>ZN.wide hwx.size f x c (ZN.kept hwx f x c h)) (by omega)
  ·exact ih H Q O R wx (r3.near hwx fun x c h=>ZN.wide hwx.size f x c (ZN.kept hwx f x c h)) (by omega)
def YM:List Fz→List Int
 | []=>[]
 | x::xs=>(x.line::Zi x.body)++YM xs
def XP (l:List Rz):List Int:=l.map fun x=>x.line
def lnsP (x:Pz):List Int:=XP x.recs++YM x.funs
theorem qi (l:List Fz):∀i y,l[i]?=some y→YM (l.take (i+1))=YM (l.take i)++(y.line::Zi y.body):=by
 induction l with
 | nil=>intro i y h;simp at h
 | cons x xs ih =>
  intro i y h;cases i with
  | zero =>
   simp only [List.getElem?_cons_zero,Option.some.injEq] at h;subst h
   simp [YM]
  | succ i =>
   have:=ih i y (by simpa using h)
   rw [List.take_succ_cons,List.take_succ_cons,YM,YM,this,List.append_assoc]
theorem Vk (l:List Fz):∀i,(YM (l.take i)).length≤(YM l).length:=by
 induction l with
 | nil=>intro i;simp [YM]
 | cons x xs ih =>
  intro i;cases i with
  | zero=>simp [YM]
  | succ i =>
   rw [List.take_succ_cons,YM,YM,List.length_append,List.length_append]
   have:=ih i
   omega
theorem zcM (l:List Rz) (i:Nat) (y:Rz) (h:l[i]?=some y):XP (l.take (i+1))=XP (l.take i)++[y.line]:=by
 unfold XP
 rw [List.map_take,List.map_take,List.take_add_one,List.getElem?_map,h]
 rfl
theorem xF {ops:Array Oper} {rest:List Oper} {o:Oper} {a:Act} {Q:Exit→Act→World→Prop} {w:World} (hgd:o.guard=none) (s x:Operand)
  (ho:o.op=.call { callee:=.builtin .append,args:=#[s,x],argTypes:=#[33,33] })
  (base:Nat) (v:Value) (L:List Int) (n:Int) (N:Nat) (hs:a.eval s=v) (hown:w.ownsRow base 3 1 v L.length (ZP L)) (hx:a.eval x=.slice (some ⟨N,0,none⟩) 1 1) (hN:w.heap[N]?=some (.cells #[.int .i64 n] 3))
  (hln:L.length+1≤1099511627776) (hbase:base≤w.heap.size)
  (h:∀A w',w'.ownsRow base 3 1 A (L++[n]).length (ZP (L++[n]))→Below base w w'→wpList Tryz.prog ops Q rest (a.put o.dst A) w'):wpList Tryz.prog ops Q (o::rest) a w:=by
 obtain ⟨K,I,H,D,G⟩:=info_parts zbN;refine wpList_append_own_at w hgd s x 33 ho base 3 K _ 1 8 Tryz.underlying33 I H D G rfl (by decide) v _ _ hs hown ⟨N,0,none⟩ 1 1 [.int .i64 n] hx (by simp) (fun j v h=>?_) (by simp [Value.oneCell']) (by unfold maxLen;omega) (by omega) hbase ?_
 ·cases j with
  | zero=>simp only [List.getElem?_cons_zero,Option.some.injEq] at h;subst h;simp [World.cell?,Addr.add,hN]
  | succ j=>simp at h
 ·intro A w' z y _ J
  refine h A w' ?_ ((Below.refl base w).grown y hbase fun q hq=>(hown.lt q hq).1)
  have O:(L++[n]).length=L.length+1:=by simp
  have R:ZP (L++[n])=ZP L++[.int .i64 n]:=by simp
  rw [O,R];exact z
def zfx (base:Option Addr) (w:World) (i:Nat) (x:Rz):Prop:=∃(b o:Nat),base=some ⟨b,o,none⟩∧b<w.heap.size∧w.cell? ⟨b,o+i*3+2,none⟩=some (.int .i64 x.line)
def zfy (base:Option Addr) (w:World) (i:Nat) (x:Fz):Prop:=∃(b o:Nat) (bg:Option Addr) (mg cg:Nat),base=some ⟨b,o,none⟩∧b<w.heap.size∧w.cell? ⟨b,o+i*5+3,none⟩=some (.slice bg mg cg)∧w.cell? ⟨b,o+i*5+4,none⟩=some (.int .i64 x.line) ∧
 Hid (∀wx,Below w.heap.size w wx→Calls Tryz.prog 30 #[.slice bg mg cg] wx (LnP wx (Zi x.body)))
theorem zea (rs:List Rz) (fs:List Fz) (b b2:Option Addr) (m cap m2 cap2:Nat) (w:World) (hm:m=rs.length) (hm2:m2=fs.length) (hmx:m≤9223372036854775807) (hmx2:m2≤9223372036854775807) (hln:(lnsP ⟨rs,fs⟩).length≤1099511627776)
  (hr:∀i x,rs[i]?=some x→zfx b w i x) (hf:∀i x,fs[i]?=some x→zfy b2 w i x) :
  Calls Tryz.prog 12 #[.agg #[.slice b m cap,.slice b2 m2 cap2]] w (LnP w (lnsP ⟨rs,fs⟩)):=by
 have HR:Hid (∀i x,rs[i]?=some x→zfx b w i x):=hr;have HF:Hid (∀i x,fs[i]?=some x→zfy b2 w i x):=hf;have HM:Hid (m=rs.length):=hm;have ab:Hid (m2=fs.length):=hm2;have au:Hid ((XP rs).length+(YM fs).length≤1099511627776):=show _≤_ by unfold lnsP at hln;rw [List.length_append] at hln;exact hln
 obtain ⟨w1,T⟩:∃w1,w1=w.alloc (qZ b m cap b2 m2 cap2):=⟨_,rfl⟩;have aE:w1.heap.size=w.heap.size+1:=by rw [T];simp
 have aj:Below w.heap.size w w1:=by rw [T];exact (Below.refl _ w).alloc (Nat.le_refl _) _
 have p1:w1.heap[w.heap.size]?=some (qZ b m cap b2 m2 cap2):=by rw [T];exact World.alloc_heap_new w _
 have ad:Hid (Below w.heap.size w w1):=aj;have HP:Hid (w1.heap[w.heap.size]?=some (qZ b m cap b2 m2 cap2)):=p1;obtain ⟨c0,c1⟩:=yF p1;have an:Hid (w1.ownsRow w1.heap.size 3 1 (.slice none 0 0) 0 []∧Below w1.heap.size w1 w1):=⟨World.ownsRow_nil w1 _ _ _,Below.refl _ _⟩;have aG:=T.symm;clear hr hf hm hm2 hln T aj p1
 go_enter Tryz.func12,Tryz.ntmps12
 go_wp2_with fail
 go_loopw [3,4] (fun vo vi wr=>∃(i:Nat) (L:List Int),i≤m∧vi=.int .i64 (i:Int)∧L=XP (rs.take i)∧(L=[]→vo=.slice none 0 0)∧wr.ownsRow w1.heap.size 3 1 vo L.length (ZP L)∧Below w1.heap.size w1 wr) (fun _ vi _=>m-(intOf vi).toNat)
 case atStart=>exact ⟨0,[],Nat.zero_le _,rfl,by simp [XP],fun _=>rfl,an.out⟩
 case round =>
  obtain ⟨i,L,hi,rfl,hL,J,N,A⟩:=hrel;clear c0 c1 an;have HB:Hid (Below w1.heap.size w1 wr):=A;have G:Hid (L=XP (rs.take i)):=hL;have O:Hid (L=[]→_=Value.slice none 0 0):=J;have I:Hid (wr.ownsRow w1.heap.size 3 1 _ L.length (ZP L)):=N;have ak:w1.heap.size≤wr.heap.size:=A.size;obtain ⟨c0,c1⟩:=yF ((A.block w.heap.size (by omega)).trans HP.out)
  have z:Hid (Below w.heap.size w wr):=zl ad.out A;have aH:L.length=i:=by rw [hL];unfold XP;rw [List.length_map,List.length_take,←HM.out];omega
  have aI:(XP rs).length=m:=by unfold XP;rw [List.length_map,←HM.out]
  have aF:=au.out;clear A hL J N
  by_cases hlt:i<m
  ·have aA:(i:Int)<m:=by omega
   obtain ⟨x,hx⟩:∃x,rs[i]?=some x:=⟨rs[i]'(by rw [←HM.out];exact hlt),List.getElem?_eq_getElem (by rw [←HM.out];exact hlt)⟩
   obtain ⟨bb,o,rfl,hb,q2⟩:=HR.out i x hx;have R:Hid (L++[x.line]=XP (rs.take (i+1))):=show _=_ by rw [zcM rs i x hx,G.out]
   generalize x.line=n at *;have d2:=(z.out.cell (p:=⟨bb,o+i*3+2,none⟩) hb).trans q2;obtain ⟨w2,H⟩:∃w2,w2=wr.alloc (.cells #[.int .i64 n] 3):=⟨_,rfl⟩;have y:Below wr.heap.size wr w2:=by rw [H];exact (Below.refl _ wr).alloc (Nat.le_refl _) _
   have ag:w1.heap.size≤w2.heap.size:=by have:=y.size;omega
   have p2:w2.heap[wr.heap.size]?=some (.cells #[.int .i64 n] 3):=by rw [H];exact World.alloc_heap_new wr _
   have W:Hid (w2.heap[wr.heap.size]?=some (.cells #[.int .i64 n] 3)):=p2;have U:Hid (w2.ownsRow w1.heap.size 3 1 _ L.length (ZP L)):=yi I.out y (Nat.le_refl _);have Z:Hid (Below w1.heap.size w1 w2):=zl HB.out y;have aa:=H.symm;clear H y p2 q2 hx I HB O G z
   go_wp2_with (at_builtin;refine xF rfl _ _ rfl w1.heap.size _ L n wr.heap.size rfl U.out rfl W.out (by omega) ag ?_;intro v' wz s K)
   have Q:Hid (Below w1.heap.size w1 wz):=Z.out.trans K;have V:Hid (wz.ownsRow w1.heap.size 3 1 v' (L++[n]).length (ZP (L++[n]))):=s;clear s K U Z W aa c0 c1 d2;go_wp2
   exact ⟨⟨i+1,L++[n],by omega,by go_num,R.out,fun h=>absurd h (by simp),V.out,Q.out⟩,by simp [intOf];omega⟩
  ·obtain rfl:i=m:=by omega
   have aA:¬ (i:Int)<i:=by omega
   have ar:L=XP rs:=by rw [G.out,HM.out,List.take_length]
   have aq:Hid (L=XP rs):=ar;have av:Hid ((L=[]→_=Value.slice none 0 0)∧wr.ownsRow w1.heap.size 3 1 _ L.length (ZP L)∧Below w1.heap.size w1 wr):=⟨O.out,I.out,HB.out⟩;clear HR G O I HB ar;go_wp2_with fail
   go_loopw [3,5] (fun vo vk wr=>∃(j:Nat) (D:List Int),j≤m2∧vk=.int .i64 (j:Int)∧D=L++YM (fs.take j)∧(D=[]→vo=.slice none 0 0)∧wr.ownsRow w1.heap.size 3 1 vo D.length (ZP D)∧Below w1.heap.size w1 wr) (fun _ vk _=>m2-(intOf vk).toNat)
   case atStart=>exact ⟨0,L,Nat.zero_le _,rfl,by simp [YM],av.out⟩
   case round =>
    obtain ⟨j,D,hj,rfl,ap,J,N,A⟩:=hrel;clear c0 c1 av z ak;have HB:Hid (Below w1.heap.size w1 wr):=A;have G:Hid (D=L++YM (fs.take j)):=ap;have O:Hid (D=[]→_=Value.slice none 0 0):=J;have I:Hid (wr.ownsRow w1.heap.size 3 1 _ D.length (ZP D)):=N;have ak:w1.heap.size≤wr.heap.size:=A.size;obtain ⟨c0,c1⟩:=yF ((A.block w.heap.size (by omega)).trans HP.out)
    have z:Hid (Below w.heap.size w wr):=zl ad.out A;clear A ap J N
    by_cases hlt2:j<m2
    ·have aC:(j:Int)<m2:=by omega
     obtain ⟨x,hx⟩:∃x,fs[j]?=some x:=⟨fs[j]'(by rw [←ab.out];exact hlt2),List.getElem?_eq_getElem (by rw [←ab.out];exact hlt2)⟩
     obtain ⟨bb,o,bg,mg,cg,rfl,hb,q1,q2,HC⟩:=HF.out j x hx;have R:Hid (D++[x.line]++Zi x.body=L++YM (fs.take (j+1))):=show _=_ by rw [qi fs j x hx,G.out];simp
     have af:D.length+1+(Zi x.body).length≤1099511627776:=by
      have h1:=congrArg List.length R.out;have h2:=Vk fs (j+1);simp only [List.length_append,List.length_cons,List.length_nil] at h1;omega
     obtain ⟨Y,hY⟩:∃Y,Y=Zi x.body:=⟨_,rfl⟩;rw [←hY] at R af HC;generalize x.line=n at *;have d2:=(z.out.cell (p:=⟨bb,o+j*5+4,none⟩) hb).trans q2;have HQ:Hid (bb<w.heap.size∧w.cell? ⟨bb,o+j*5+3,none⟩=some (.slice bg mg cg)):=⟨hb,q1⟩;obtain ⟨w2,H⟩:∃w2,w2=wr.alloc (.cells #[.int .i64 n] 3):=⟨_,rfl⟩;have y:Below wr.heap.size wr w2:=by rw [H];exact (Below.refl _ wr).alloc (Nat.le_refl _) _
     have ag:w1.heap.size≤w2.heap.size:=by have:=y.size;omega
     have p2:w2.heap[wr.heap.size]?=some (.cells #[.int .i64 n] 3):=by rw [H];exact World.alloc_heap_new wr _
     have W:Hid (w2.heap[wr.heap.size]?=some (.cells #[.int .i64 n] 3)):=p2;have U:Hid (w2.ownsRow w1.heap.size 3 1 _ D.length (ZP D)):=yi I.out y (Nat.le_refl _);have Z:Hid (Below w1.heap.size w1 w2):=zl HB.out y;have aa:=H.symm;clear H y p2 q1 q2 hx hb I HB O G z hY
     go_upto_region 10 with (at_builtin;refine xF rfl _ _ rfl w1.heap.size _ D n wr.heap.size rfl U.out rfl W.out (by omega) ag ?_;intro v' wz s K)
     have Q:Hid (Below w1.heap.size w1 wz):=Z.out.trans K;have V:Hid (wz.ownsRow w1.heap.size 3 1 v' (D++[n]).length (ZP (D++[n]))):=s;clear s K U Z W aa c0 c1 d2;obtain ⟨c0,c1⟩:=yF ((Q.out.block w.heap.size (by omega)).trans HP.out)
     have z:Hid (Below w.heap.size w wz):=zl ad.out Q.out;have d1:=(z.out.cell (p:=⟨bb,o+j*5+3,none⟩) HQ.out.1).trans HQ.out.2;have ck:=HC.out wz z.out;have am:(D++[n]).length+Y.length≤1099511627776:=by rw [List.length_append];simpa using af
     have ax:D++[n]++Y≠[]:=by simp
     obtain ⟨L3,ay⟩:∃L3,L3=D++[n]:=⟨_,rfl⟩;rw [←ay] at V am ax R;clear HC HQ z ay af;go_wp2_with fail
     refine ck.mono ?_;clear ck d1 c0 c1;rintro e w4 ⟨u4,rfl,hn,aw,y⟩;have ae:Hid (w4.ownsRow w1.heap.size 3 1 _ L3.length (ZP L3)):=yi V.out y (Nat.le_refl _);have ah:Hid (Below w1.heap.size w1 w4):=zl Q.out y;have al:Hid (w4.ownsRow wz.heap.size 3 1 u4 Y.length (ZP Y)):=aw;have ao:Hid (Y=[]→u4=.slice none 0 0):=hn;have aB:w1.heap.size≤w4.heap.size:=ah.out.size;clear aw y V Q hn;go_wp2_with (at_builtin;refine yU rfl _ _ rfl w1.heap.size wz.heap.size _ u4 L3 Y rfl ae.out rfl ao.out al.out am aB ?_;intro v3 wx s K)
     have aD:Hid (Below w1.heap.size w1 wx):=ah.out.trans K;have az:Hid (wx.ownsRow w1.heap.size 3 1 v3 (L3++Y).length (ZP (L3++Y))):=s;clear s K ae ah al ao;go_wp2
     exact ⟨⟨j+1,L3++Y,by omega,by go_num,R.out,fun h=>absurd h ax,az.out,aD.out⟩,by simp [intOf];omega⟩
    ·obtain rfl:j=m2:=by omega
     have aC:¬ (j:Int)<j:=by omega
     have ai:D=lnsP ⟨rs,fs⟩:=by rw [G.out,ab.out,List.take_length,aq.out];rfl
     have HZ:=(show Hid (_∧_∧_) from ⟨O.out,Qa I.out ad.out.size,z.out⟩)
     rw [ai] at HZ;clear HF HM ab au aq G O I HB z ai;go_wp2
     exact bodyPost_ret (v:=_) (by simp [results,Tryz.results12,go_sem]) rfl ⟨_,rfl,HZ.out⟩
theorem qj (f:Nat) (x:Pz) (v:Value) (w:World) (hx:Xi w.heap.size w f x v) (hln:(lnsP x).length≤1099511627776) :
  Calls Tryz.prog 12 #[v] w (LnP w (lnsP x)):=by
 obtain ⟨b,m,H,V,T,z,rfl,y,A⟩:=hx;obtain ⟨R,K⟩:=x;refine zea R K b V m H T z w y.1 A.1 (by have:=y.1;have:=y.2.1;have:=y.2.2.1;unfold maxLen at this;simp only at *;omega) (by have:=A.1;have:=A.2.1;have:=A.2.2.1;unfold maxLen at this;simp only at *;omega) hln (fun i x hx=>?_) (fun i x hx=>?_)
 ·obtain ⟨I,o,c,J,s,-,-,G,D⟩:=y.2.2.2 i x hx
  obtain ⟨Q,U,W,rfl,-,-⟩:=G;exact ⟨I,o,J,s,D 2 _ rfl⟩
 ·obtain ⟨I,o,c,J,s,-,-,G,D⟩:=A.2.2.2 i x hx
  obtain ⟨Q,U,W,O,L,N,rfl,-,-,-,Z⟩:=G;refine ⟨I,o,O,L,N,J,s,D 3 _ rfl,D 4 _ rfl,fun wx hwx=>?_⟩
  refine Ul f _ O L N wx (Z.near hwx fun x c h=>ZN.wide hwx.size f x c (ZN.kept hwx f x c h)) ?_
  have Y:=Vk K (i+1);rw [qi K i x hx,List.length_append,List.length_cons] at Y
  unfold lnsP at hln
  rw [List.length_append] at hln;simp only at hln;omega
mutual
def dpS:Sz→Nat
 | .mk _ _ es body els _=>max (dpL es) (max (zcN body) (zcN els))+1
def zcN:List Sz→Nat
 | []=>0
 | x::xs=>max (dpS x) (zcN xs)
end
end Go.Proofs.YtpejpbbdgblbeaaGreatDoor
