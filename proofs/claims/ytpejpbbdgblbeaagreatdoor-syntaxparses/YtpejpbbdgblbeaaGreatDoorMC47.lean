import Derived.Test.YtpejpbbdgblbeaaGreatDoorMC45
import Derived.Test.YtpejpbbdgblbeaaGreatDoorMC38
import Derived.Test.YtpejpbbdgblbeaaGreatDoorMC48
namespace Go.Proofs.YtpejpbbdgblbeaaGreatDoor
open Go.RowKit Go.Shelf
set_option maxHeartbeats 16000000
set_option maxRecDepth 100000
mutual
def xT:Ez→List Int
 | .mk _ _ _ kids line=>line::YX kids
def YX:List Ez→List Int
 | []=>[]
 | x::xs=>xT x++YX xs
end
theorem zdQ (x:Ez):1≤(xT x).length:=by
 obtain ⟨k,s,n,kids,line⟩:=x;rw [xT];simp
theorem Ug (l:List Ez):∀i y,l[i]?=some y→YX (l.take (i+1))=YX (l.take i)++xT y:=by
 induction l with
 | nil=>intro i y h;simp at h
 | cons x xs ih =>
  intro i y h;cases i with
  | zero =>
   simp only [List.getElem?_cons_zero,Option.some.injEq] at h;subst h
   simp [YX]
  | succ i =>
   have:=ih i y (by simpa using h)
   rw [List.take_succ_cons,List.take_succ_cons,YX,YX,this,List.append_assoc]
theorem vK (l:List Ez):∀i,(YX (l.take i)).length≤(YX l).length:=by
 induction l with
 | nil=>intro i;simp [YX]
 | cons x xs ih =>
  intro i;cases i with
  | zero=>simp [YX]
  | succ i =>
   rw [List.take_succ_cons,YX,YX,List.length_append,List.length_append]
   have:=ih i
   omega
theorem zce {l:List Ez} {i:Nat} {y:Ez} (h:l[i]?=some y):(xT y).length≤(YX l).length:=by
 have h1:=vK l (i+1);rw [Ug l i y h,List.length_append] at h1;omega
abbrev yh (l:List Int):List Value:=l.map fun x=>Value.int .i64 x
theorem zdR:(Tryz.prog.info? 3).map (fun i=>(i.zero,i.size,i.bytes))=some (some (.int .i64 0),1,8):=by kernel_rfl
theorem zeY (w:World) (B:Nat) (x:Int) (hB:B≤w.heap.size):(w.alloc (.cells #[.int .i64 x] 3)).ownsRow B 3 1 (.slice (some ⟨w.heap.size,0,none⟩) 1 1) 1 [.int .i64 x] :=
 ⟨rfl,.inr ⟨w.heap.size,1,#[.int .i64 x],rfl,hB,World.alloc_heap_new _ _,Nat.le_refl _,by simp [maxLen],rfl,rfl⟩⟩
theorem qS:∀(N:Nat) (x:Ez) (v:Value) (w:World),dpE x≤N→(xT x).length≤1099511627776→ZJ w.heap.size w x v →
  Calls Tryz.prog 67 #[v] w fun e w'=>∃u,e=.returned u∧w'.ownsRow w.heap.size 3 1 u (xT x).length (yh (xT x))∧Below w.heap.size w w'
 | 0,.mk k s n kids line,v,w,hd,_,_=>by rw [dpE] at hd;omega
 | N+1,.mk k s n kids line,v,w,hd,hln,hx=>by
  obtain ⟨i0,hi0,hz0,hz1,hz2⟩:=info_parts zdR;obtain ⟨base,cap,rfl,hc,hmx,hs,hn0,hn1,hkid⟩:=hx.kid;obtain ⟨m,hm⟩:∃m,m=kids.length:=⟨_,rfl⟩;rw [←hm] at hc ⊢;have hlen:m≤9223372036854775807:=by unfold maxLen at hmx;omega
  have hkA:YG w kids base:=fun i x h=>by
   obtain ⟨b,o,a1,a2,a3,a4,a5,a6,a7,e,hb,hlt,hxy,h⟩:=hkid i x h;exact ⟨b,o,a1,a2,a3,a4,a5,a6,a7,e,hlt,hxy,h⟩
  have hL:(YX kids).length+1≤1099511627776:=by rw [xT] at hln;simpa using hln
  obtain ⟨w1,hw1⟩:∃w1,w1=w.alloc (Y3 k s n base m cap line):=⟨_,rfl⟩;have hb1:Below w.heap.size w w1:=by rw [hw1];exact (Below.refl _ w).alloc (Nat.le_refl _) _
  have p1:w1.heap[w.heap.size]?=some (Y3 k s n base m cap line):=by rw [hw1];exact World.alloc_heap_new w _
  have hsz1:w1.heap.size=w.heap.size+1:=by rw [hw1];simp
  have HR:Hid (∀u (W:World),W.ownsRow w.heap.size 3 1 u ((YX kids).length+1) (yh (line::YX kids))→W.ownsRow w.heap.size 3 1 u (xT (.mk k s n kids line)).length (yh (xT (.mk k s n kids line)))):=fun u W h=>by rw [xT];exact h
  have HK:Hid (∀i y,kids[i]?=some y→∀W,Below w1.heap.size w1 W→∃b o a1 a2 a3 a4 a5 a6 a7,base=some ⟨b,o,none⟩∧W.cell? ⟨b,o+i*5,none⟩=some (.int .i64 a1)∧W.cell? ⟨b,o+i*5+1,none⟩=some (.string (za a2))∧W.cell? ⟨b,o+i*5+2,none⟩=some (.int .i64 a3)∧W.cell? ⟨b,o+i*5+3,none⟩=some (.slice a4 a5 a6)∧W.cell? ⟨b,o+i*5+4,none⟩=some (.int .i64 a7) ∧
    Calls Tryz.prog 67 #[Ye a1 a2 a3 a4 a5 a6 a7] W fun e w'=>∃u,e=.returned u∧w'.ownsRow W.heap.size 3 1 u (xT y).length (yh (xT y))∧Below W.heap.size W w'):=fun i y hy W hW=>by
   obtain ⟨b,o,a1,a2,a3,a4,a5,a6,a7,e,hlt,hxy,m0,m1,m2,m3,m4⟩:=(hkA.below (zi hb1 hW)) i y hy;exact ⟨b,o,a1,a2,a3,a4,a5,a6,a7,e,m0,m1,m2,m3,m4,qS N y _ W (qk hd hy) (by have:=zce hy;omega) hxy⟩
  have HP1:Hid (w1.heap[w.heap.size]?=some (Y3 k s n base m cap line)):=p1;have HB1:Hid (Below w.heap.size w w1):=hb1;have HM:Hid (m=kids.length):=hm;have HO1:Hid ((w1.alloc (.cells #[.int .i64 line] 3)).ownsRow w1.heap.size 3 1 (.slice (some ⟨w.heap.size+1,0,none⟩) 1 1) 1 [.int .i64 line]∧Below w1.heap.size w1 (w1.alloc (.cells #[.int .i64 line] 3))):=⟨by rw [←hsz1];exact zeY w1 _ line (Nat.le_refl _),(Below.refl _ w1).alloc (Nat.le_refl _) _⟩
  obtain ⟨c0,c1,c2,c3,c4⟩:=zK p1;have hw1':=hw1.symm;have c3':=ze c3;clear hx hkid hkA hb1 p1 hw1 hm hd hc hmx hln
  go_enter Tryz.func67,Tryz.ntmps67
  go_wp2_with fail
  go_loopw [3,4] (fun vo vi wr=>∃(i:Nat) (L:List Int),i≤m∧vi=.int .i64 (i:Int)∧L=YX (kids.take i)∧wr.ownsRow w1.heap.size 3 1 vo (L.length+1) (yh (line::L))∧Below w1.heap.size w1 wr) (fun _ vi _=>m-(intOf vi).toNat)
  case atStart=>exact ⟨0,[],Nat.zero_le _,rfl,by simp [YX],HO1.out⟩
  case round =>
   obtain ⟨i,L,hi,rfl,hL',hown,hbr⟩:=hrel;clear c0 c1 c2 c3 c4 c3' HO1;obtain ⟨go,co,hvo,-⟩:=XK hown (by omega)
   subst hvo;obtain ⟨c0,c1,c2,c3,c4⟩:=zK ((hbr.block w.heap.size (by omega)).trans HP1.out)
   have HBR:Hid (Below w1.heap.size w1 wr):=hbr;have HLL:Hid (L=YX (kids.take i)):=hL';have HOW:Hid (wr.ownsRow w1.heap.size 3 1 _ (L.length+1) (yh (line::L))):=hown;have hsr:=hbr.size;clear hbr hL' hown
   by_cases hlt:i<m
   ·have hlt':(i:Int)<(m:Int):=by omega
    obtain ⟨y,hy⟩:∃y,kids[i]?=some y:=⟨kids[i]'(by rw [←HM.out];exact hlt),List.getElem?_eq_getElem (by rw [←HM.out];exact hlt)⟩
    obtain ⟨b,o,a1,a2,a3,a4,a5,a6,a7,rfl,m0,m1,m2,m3,m4,ck⟩:=HK.out i y hy wr HBR.out;have HNX:Hid (L++xT y=YX (kids.take (i+1))):=show _=_ by rw [Ug kids i y hy,HLL.out]
    have hLy:L.length+(xT y).length+1≤1099511627776:=by
     have h1:=vK kids (i+1);rw [←HNX.out,List.length_append] at h1;omega
    have hne:=zdQ y;obtain ⟨Y,hY⟩:∃Y,Y=xT y:=⟨_,rfl⟩;rw [←hY] at ck HNX hLy hne;clear hy HK HLL hY;go_wp2_with fail
    refine ck.mono ?_;clear ck m0 m1 m2 m3 m4 c0 c1 c2 c3 c4;rintro e w2 ⟨u,rfl,hou,hb2⟩;obtain ⟨g2,cp2,rfl,hg2,hg2l,hcc,hcm,hcells⟩:=XK hou hne;have HOW2:Hid (w2.ownsRow w1.heap.size 3 1 _ (L.length+1) (yh (line::L))):=yT HOW.out hb2 (Nat.le_refl _);have HB2:Hid (Below w1.heap.size w1 w2):=zi HBR.out hb2
    have HCE:Hid (∀j v,(yh Y)[j]?=some v→w2.cell? ((⟨g2,0,none⟩:Addr).add j)=some v):=fun j v h=>by
     have:=hcells j v h
     rw [show (⟨g2,0,none⟩:Addr).add j=⟨g2,j,none⟩ by simp [Addr.add];try omega]
     exact this
    have hs2:w1.heap.size≤w2.heap.size:=HB2.out.size;clear hou hb2 hcells HOW HBR
    go_wp2_with (at_builtin;refine wpList_append_own_at _ rfl _ _ 33 rfl w1.heap.size 3 i0 _ 1 8 Tryz.underlying33 hi0 hz0 hz1 hz2 rfl (by decide) _ _ _ rfl HOW2.out ⟨g2,0,none⟩ Y.length cp2 (yh Y) rfl (by simp) HCE.out (by simp [Value.oneCell']) (by unfold maxLen;omega) (by omega) hs2 ?_;intro v' w5 hown' hgrow _ hat)
    have HB5:Hid (Below w1.heap.size w1 w5):=HB2.out.grown hgrow hs2 fun q hq=>(HOW2.out.lt q hq).1
    have HO5:Hid (w5.ownsRow w1.heap.size 3 1 v' ((L++Y).length+1) (yh (line::(L++Y)))):=show w5.ownsRow _ _ _ _ _ _ by
     have e1:(L++Y).length+1=L.length+1+Y.length:=by rw [List.length_append];omega
     have e2:yh (line::(L++Y))=yh (line::L)++yh Y:=by simp
     rw [e1,e2];exact hown'
    clear hown' hgrow hat HOW2 HB2 HCE;go_wp2
    exact ⟨⟨i+1,L++Y,by omega,by go_num,HNX.out,HO5.out,HB5.out⟩,by simp [intOf];omega⟩
   ·obtain rfl:i=m:=by omega
    have hlt':¬ (i:Int)<(i:Int):=by omega
    have HO9:Hid (wr.ownsRow w.heap.size 3 1 (.slice (some ⟨go,0,none⟩) (L.length+1) co) (xT (.mk k s n kids line)).length (yh (xT (.mk k s n kids line)))):=by
     have heL:L=YX kids:=by rw [HLL.out,HM.out,List.take_length]
     have h1:=HOW.out;exact HR.out _ _ (zaS (by rw [←heL];exact h1) HB1.out.size)
    have HBW:Hid (Below w.heap.size w wr):=zi HB1.out HBR.out;clear HK HBR HB1 HM HP1 HLL HOW HR;go_wp2
    exact bodyPost_ret (v:=.slice (some ⟨go,0,none⟩) (L.length+1) co) (by simp [results,Tryz.results67,go_sem]) rfl ⟨_,rfl,HO9.out,HBW.out⟩
theorem Qv (L:List Int) (v u:Value) (B B':Nat) (w:World) (hv:w.ownsRow B 3 1 v L.length (yh L)) (hu:w.ownsRow B' 3 1 u L.length (yh L)) (hne:1≤L.length) (hln:L.length≤1099511627776) :
  Calls Tryz.prog 11 #[v,u] w fun e w'=>e=.returned (.bool true)∧Below w.heap.size w w':=by
 obtain ⟨g1,k1,rfl,-,hg1,hc1,-,h1⟩:=XK hv hne;obtain ⟨g2,k2,rfl,-,hg2,hc2,-,h2⟩:=XK hu hne;obtain ⟨m,hm⟩:∃m,m=L.length:=⟨_,rfl⟩;have H1:Hid (∀i x,L[i]?=some x→w.cell? ⟨g1,i,none⟩=some (.int .i64 x)∧w.cell? ⟨g2,i,none⟩=some (.int .i64 x)):=fun i x h=>⟨h1 i _ (by simp [h]),h2 i _ (by simp [h])⟩
 have HM:Hid (m=L.length):=hm;have HB0:Hid (Below w.heap.size w w):=Below.refl _ _;rw [←hm] at hln hc1 hc2 ⊢;clear h1 h2 hv hu hm hne
 go_enter Tryz.func11,Tryz.ntmps11
 go_wp2
 go_loopw [5] (fun vi wr=>∃i:Nat,i≤m∧vi=.int .i64 (i:Int)∧Below w.heap.size w wr) (fun vi _=>m-(intOf vi).toNat)
 case atStart=>exact ⟨0,Nat.zero_le _,rfl,HB0.out⟩
 case round =>
  obtain ⟨i,hi,rfl,hbr⟩:=hrel;have HB:Hid (Below w.heap.size w wr):=hbr;clear hbr
  by_cases hlt:i<m
  ·have hi2:(i:Int)<m:=by omega
   obtain ⟨x,hx⟩:∃x,L[i]?=some x:=⟨L[i]'(by rw [←HM.out];exact hlt),List.getElem?_eq_getElem (by rw [←HM.out];exact hlt)⟩
   obtain ⟨q1,q2⟩:=H1.out i x hx;have d1:=(HB.out.cell (p:=⟨g1,i,none⟩) hg1).trans q1;have d2:=(HB.out.cell (p:=⟨g2,i,none⟩) hg2).trans q2;clear q1 q2 hx
   go_upto_region 6 with fail
   go_quiet (fail)
   go_wp2
   exact ⟨⟨i+1,by omega,by go_num,⟨HB.out.os,HB.out.tape,HB.out.output,HB.out.size,HB.out.block⟩⟩,by simp [intOf];omega⟩
  ·obtain rfl:i=m:=by omega
   have hi2:¬ (i:Int)<i:=by omega
   go_wp2
   go_ret
   exact ⟨rfl,HB.out⟩
theorem UF {P:Program} (w:World) (base:Nat) (t ty e:TypeId) (i:TypeInfo) (ht:P.underlying t=some (.slice e)) (hi:P.info? e=some i)
  (v:Value) (n:Nat) (xs:List Value) (hown:w.ownsRow base e i.size v n xs):(Builtin.append_ #[t,t] ty #[v,.slice none 0 0]).run P w=.ok v w:=by
 rcases hown.2 with ⟨rfl,rfl⟩ | ⟨g,cap,cur,rfl,hbg,hg,hnc,hcm,hcs,htake⟩
 ·simp [Builtin.append_,run_underlying ht,sizeOf,typeInfo,hi,Builtin.lenOf,Builtin.firstCells]
 ·simp [Builtin.append_,run_underlying ht,sizeOf,typeInfo,hi,Builtin.lenOf,Builtin.firstCells,loadCells,hnc,Addr.add_lit,storeCells]
theorem ue {P:Program} {ops:Array Oper} {rest:List Oper} {o:Oper} {a:Act} {Q:Exit→Act→World→Prop} {w:World} (hgd:o.guard=none) (s x:Operand) (t:TypeId)
  (ho:o.op=.call { callee:=.builtin .append,args:=#[s,x],argTypes:=#[t,t] })
  (base:Nat) (e:TypeId) (i:TypeInfo) (size:Nat) (ht:P.underlying t=some (.slice e)) (hi:P.info? e=some i) (hsize:i.size=size)
  (v:Value) (n:Nat) (xs:List Value) (hs:a.eval s=v) (hown:w.ownsRow base e size v n xs) (hx:a.eval x=.slice none 0 0)
  (h:wpList P ops Q rest (a.put o.dst v) w):wpList P ops Q (o::rest) a w:=by
 subst hsize;refine wpList_plain hgd fun K hK=>?_
 have hr:=UF (P:=P) w base t o.type e i ht hi v n xs hown
 unfold Oper.wp execOp
 simp only [ho,resolve,invoke,builtin,Sem.run_bind,Sem.run_pure,Result.andThen_ok,List.map_toArray,List.map_cons,List.map_nil,hs,hx,hr];exact hK _ _ h
theorem ZB.near {α:Type} {P P':α→List Value→Prop} {sz:Nat} {w W:World} {l:List α} {base:Option Addr} {m cap:Nat} (h:ZB P sz w.heap.size w l base m cap) (hb:Below w.heap.size w W) (hP:∀x c,P x c→P' x c):ZB P' sz W.heap.size W l base m cap:=(h.kept hb hP).wide hb.size fun _ _ h=>h
theorem UG (f:Nat) (x y:Pz) (v v':Value) (w:World) (hx:Xo w.heap.size w f x v) (hy:Xo w.heap.size w f y v') (hs:SmP x y) :
  Calls Tryz.prog 10 #[v,v'] w fun e w'=>e=.returned (.bool true)∧Below w.heap.size w w':=by
 obtain ⟨b,m,cap,b2,m2,cap2,rfl,r1,f1⟩:=hx;obtain ⟨b',m',cap',b2',m2',cap2',rfl,r2,f2⟩:=hy;obtain rfl:m=m':=by have:=r1.1;have:=r2.1;have:=hs.rl;omega
 obtain rfl:m2=m2':=by have:=f1.1;have:=f2.1;have:=hs.fl;omega
 refine qR b b2 b' b2' m cap m2 cap2 cap' cap2' w (by have:=r1.2.1;have:=r1.2.2.1;have:=r1.1;unfold maxLen at *;omega) (by have:=f1.2.1;have:=f1.2.2.1;have:=f1.1;unfold maxLen at *;omega) (fun i hi W hW=>?_) (fun i hi W hW=>?_)
 ·have k1:=r1.near hW fun x c h=>X8.wide hW.size x c (X8.kept hW x c h)
  have k2:=r2.near hW fun x c h=>X8.wide hW.size x c (X8.kept hW x c h)
  have hx:x.recs[i]?=some (x.recs[i]'(by have:=r1.1;omega)):=List.getElem?_eq_getElem _
  have hy:y.recs[i]?=some (y.recs[i]'(by have:=r2.1;omega)):=List.getElem?_eq_getElem _
  obtain ⟨bb,o,c,e1,hlt,-,-,hp,hc⟩:=k1.2.2.2 i _ hx;obtain ⟨bb',o',c',e1',hlt',-,-,hp',hc'⟩:=k2.2.2.2 i _ hy;obtain ⟨bf,mf,cf,rfl,-,hf⟩:=hp;obtain ⟨bf',mf',cf',rfl,-,hf'⟩:=hp';obtain ⟨n1,n2⟩:=hs.r i _ _ hx hy;refine ⟨bb,o,_,bf,mf,cf,bb',o',bf',mf',cf',e1,e1',hlt,hlt',hc 0 _ rfl,hc 1 _ rfl,?_,hc' 1 _ rfl,fun wx hwx=>?_⟩
  ·rw [n1];exact hc' 0 _ rfl
  ·rw [←n2] at hf'
   exact (Vb _ bf bf' mf mf' cf cf' wx (hf.near hwx fun _ _ h=>h) (hf'.near hwx fun _ _ h=>h)).mono fun e w'' h=>⟨h.1,hwx.trans (h.2.mono hwx.size)⟩
 ·have k1:=f1.near hW fun x c h=>X9.wide hW.size f x c (X9.kept hW f x c h)
  have k2:=f2.near hW fun x c h=>X9.wide hW.size f x c (X9.kept hW f x c h)
  have hx:x.funs[i]?=some (x.funs[i]'(by have:=f1.1;omega)):=List.getElem?_eq_getElem _
  have hy:y.funs[i]?=some (y.funs[i]'(by have:=f2.1;omega)):=List.getElem?_eq_getElem _
  obtain ⟨bb,o,c,e1,hlt,-,-,hp,hc⟩:=k1.2.2.2 i _ hx;obtain ⟨bb',o',c',e1',hlt',-,-,hp',hc'⟩:=k2.2.2.2 i _ hy;obtain ⟨bf,mf,cf,bg,mg,cg,rfl,-,-,hf,hg⟩:=hp;obtain ⟨bf',mf',cf',bg',mg',cg',rfl,-,-,hf',hg'⟩:=hp';obtain ⟨n1,n2,n3,n4⟩:=hs.f i _ _ hx hy;refine ⟨bb,o,_,bf,mf,cf,_,bg,mg,cg,_,bb',o',bf',mf',cf',bg',mg',cg',_,e1,e1',hlt,hlt',hc 0 _ rfl,hc 1 _ rfl,hc 2 _ rfl,hc 3 _ rfl,hc 4 _ rfl,?_,hc' 1 _ rfl,?_,hc' 3 _ rfl,hc' 4 _ rfl,fun wx hwx=>?_,fun wx hwx=>?_⟩
  ·rw [n1];exact hc' 0 _ rfl
  ·rw [n2];exact hc' 2 _ rfl
  ·rw [←n3] at hf'
   exact Vb _ bf bf' mf mf' cf cf' wx (hf.near hwx fun _ _ h=>h) (hf'.near hwx fun _ _ h=>h)
  ·exact Qu f _ _ bg bg' mg mg' cg cg' wx (hg.near hwx fun x c h=>ZT.wide hwx.size f x c (ZT.kept hwx f x c h)) (hg'.near hwx fun x c h=>ZT.wide hwx.size f x c (ZT.kept hwx f x c h)) n4
mutual
def zeZ:Sz→List Int
 | .mk _ _ es body els line=>line::(YX es++(ZX body++ZX els))
def ZX:List Sz→List Int
 | []=>[]
 | x::xs=>zeZ x++ZX xs
end
theorem qT (l:List Sz):∀i y,l[i]?=some y→ZX (l.take (i+1))=ZX (l.take i)++zeZ y:=by
 induction l with
 | nil=>intro i y h;simp at h
 | cons x xs ih =>
  intro i y h;cases i with
  | zero =>
   simp only [List.getElem?_cons_zero,Option.some.injEq] at h;subst h
   simp [ZX]
  | succ i =>
   have:=ih i y (by simpa using h)
   rw [List.take_succ_cons,List.take_succ_cons,ZX,ZX,this,List.append_assoc]
theorem VI (l:List Sz):∀i,(ZX (l.take i)).length≤(ZX l).length:=by
 induction l with
 | nil=>intro i;simp [ZX]
 | cons x xs ih =>
  intro i;cases i with
  | zero=>simp [ZX]
  | succ i =>
   rw [List.take_succ_cons,ZX,ZX,List.length_append,List.length_append]
   have:=ih i
   omega
theorem YM {ops:Array Oper} {rest:List Oper} {o:Oper} {a:Act} {Q:Exit→Act→World→Prop} {w:World} (hgd:o.guard=none) (s x:Operand)
  (ho:o.op=.call { callee:=.builtin .append,args:=#[s,x],argTypes:=#[33,33] })
  (base B':Nat) (v u:Value) (L Y:List Int) (hs:a.eval s=v) (hown:w.ownsRow base 3 1 v L.length (yh L)) (hx:a.eval x=u) (hn:Y=[]→u=.slice none 0 0) (hu:w.ownsRow B' 3 1 u Y.length (yh Y))
  (hln:L.length+Y.length≤1099511627776) (hbase:base≤w.heap.size)
  (h:∀v' w',w'.ownsRow base 3 1 v' (L++Y).length (yh (L++Y))→Below base w w'→wpList Tryz.prog ops Q rest (a.put o.dst v') w'):wpList Tryz.prog ops Q (o::rest) a w:=by
 obtain ⟨i0,hi0,hz0,hz1,hz2⟩:=info_parts zdR
 by_cases hY:Y=[]
 ·obtain rfl:=hn hY
  subst hY;refine ue hgd s x 33 ho base 3 i0 1 Tryz.underlying33 hi0 hz1 v _ _ hs hown hx ?_;exact h v w (by rw [List.append_nil];exact hown) (Below.refl _ _)
 ·have hne:1≤Y.length:=by cases Y with | nil=>exact absurd rfl hY | cons _ _=>simp
  obtain ⟨g2,cp2,rfl,hg2,hg2l,hcc,hcm,hcells⟩:=XK hu hne;refine wpList_append_own_at w hgd s x 33 ho base 3 i0 _ 1 8 Tryz.underlying33 hi0 hz0 hz1 hz2 rfl (by decide) v _ _ hs hown ⟨g2,0,none⟩ Y.length cp2 (yh Y) hx (by simp) (fun j v h=>?_) (by simp [Value.oneCell']) (by unfold maxLen;omega) (by omega) hbase ?_
  ·have:=hcells j v h
   rw [show (⟨g2,0,none⟩:Addr).add j=⟨g2,j,none⟩ by simp [Addr.add];try omega]
   exact this
  ·intro v' w' hown' hgrow _ hat
   refine h v' w' ?_ ((Below.refl base w).grown hgrow hbase fun q hq=>(hown.lt q hq).1)
   have e1:(L++Y).length=L.length+Y.length:=List.length_append;have e2:yh (L++Y)=yh L++yh Y:=by simp
   rw [e1,e2];exact hown'
def LnP (w:World) (L:List Int) (e:Ending) (w':World):Prop:=∃u,e=.returned u∧(L=[]→u=.slice none 0 0)∧w'.ownsRow w.heap.size 3 1 u L.length (yh L)∧Below w.heap.size w w'
def ziR (base:Option Addr) (w:World) (i:Nat) (y:Sz):Prop:=∃(b o:Nat) (be:Option Addr) (me ce:Nat) (bb:Option Addr) (mb cb:Nat) (bl:Option Addr) (ml cl:Nat) (line:Int) (es:List Ez) (body els:List Sz) (k:Int) (s:List UInt8),y=.mk k s es body els line∧base=some ⟨b,o,none⟩∧b<w.heap.size∧me=es.length∧me≤9223372036854775807∧YG w es be ∧
 w.cell? ⟨b,o+i*6+2,none⟩=some (.slice be me ce)∧w.cell? ⟨b,o+i*6+3,none⟩=some (.slice bb mb cb)∧w.cell? ⟨b,o+i*6+4,none⟩=some (.slice bl ml cl)∧w.cell? ⟨b,o+i*6+5,none⟩=some (.int .i64 line) ∧
 Hid (∀wx,Below w.heap.size w wx→Calls Tryz.prog 30 #[.slice bb mb cb] wx (LnP wx (ZX body))) ∧
 Hid (∀wx,Below w.heap.size w wx→Calls Tryz.prog 30 #[.slice bl ml cl] wx (LnP wx (ZX els)))
theorem VJ (l:List Sz) (base:Option Addr) (m cap:Nat) (w:World) (hm:m=l.length) (hmx:m≤9223372036854775807) (hln:(ZX l).length≤1099511627776) (hat:∀i y,l[i]?=some y→ziR base w i y) :
  Calls Tryz.prog 30 #[.slice base m cap] w (LnP w (ZX l)):=by
 obtain ⟨i0,hi0,hz0,hz1,hz2⟩:=info_parts zdR;have HAT:Hid (∀i y,l[i]?=some y→ziR base w i y):=hat;have HM:Hid (m=l.length):=hm;have HLN:Hid ((ZX l).length≤1099511627776):=hln;have HO0:Hid (w.ownsRow w.heap.size 3 1 (.slice none 0 0) 0 []∧Below w.heap.size w w):=⟨World.ownsRow_nil w _ _ _,Below.refl _ _⟩;clear hat hm hln
 go_enter Tryz.func30,Tryz.ntmps30
 go_wp2_with fail
 go_loopw [3,4] (fun vo vi wr=>∃(i:Nat) (L:List Int),i≤m∧vi=.int .i64 (i:Int)∧L=ZX (l.take i)∧(L=[]→vo=.slice none 0 0)∧wr.ownsRow w.heap.size 3 1 vo L.length (yh L)∧Below w.heap.size w wr) (fun _ vi _=>m-(intOf vi).toNat)
 case atStart=>exact ⟨0,[],Nat.zero_le _,rfl,by simp [ZX],fun _=>rfl,HO0.out⟩
 case round =>
  obtain ⟨i,L,hi,rfl,hL,hnil,hown,hbr⟩:=hrel;have HB:Hid (Below w.heap.size w wr):=hbr;have HLL:Hid (L=ZX (l.take i)):=hL;have HNL:Hid (L=[]→_=Value.slice none 0 0):=hnil;have HOW:Hid (wr.ownsRow w.heap.size 3 1 _ L.length (yh L)):=hown;have hsr:w.heap.size≤wr.heap.size:=hbr.size;clear hbr hL hnil hown HO0
  by_cases hlt:i<m
  ·have hi2:(i:Int)<m:=by omega
   obtain ⟨y,hy⟩:∃y,l[i]?=some y:=⟨l[i]'(by rw [←HM.out];exact hlt),List.getElem?_eq_getElem (by rw [←HM.out];exact hlt)⟩
   obtain ⟨b,o,be,me,ce,bb,mb,cb,bl,ml,cl,line,es,body,els,k,s,rfl,rfl,hb,hme,hmx2,hk,c2,c3,c4,c5,HC1,HC2⟩:=HAT.out i y hy;have HC:Hid (b<w.heap.size∧w.cell? ⟨b,o+i*6+2,none⟩=some (.slice be me ce)∧w.cell? ⟨b,o+i*6+3,none⟩=some (.slice bb mb cb)∧w.cell? ⟨b,o+i*6+4,none⟩=some (.slice bl ml cl)∧w.cell? ⟨b,o+i*6+5,none⟩=some (.int .i64 line)):=⟨hb,c2,c3,c4,c5⟩;have HKI:Hid (YG w es be):=hk;have HME:Hid (me=es.length):=hme;have HNX:Hid (L++(line::(YX es++(ZX body++ZX els)))=ZX (l.take (i+1))):=show _=_ by rw [qT l i _ hy,HLL.out,zeZ]
   have hLy:L.length+(YX es).length+(ZX body).length+(ZX els).length+1≤1099511627776:=by
    have h1:=VI l (i+1);have h2:=HLN.out;rw [←HNX.out] at h1;simp only [List.length_append,List.length_cons] at h1;omega
   have d5:=ze ((HB.out.cell (p:=⟨b,o+i*6+5,none⟩) hb).trans c5) (.cells #[.int .i64 line] 3);have d5':=(HB.out.cell (p:=⟨b,o+i*6+5,none⟩) hb).trans c5;obtain ⟨w1,hw1⟩:∃w1,w1=wr.alloc (.cells #[.int .i64 line] 3):=⟨_,rfl⟩;have hb1:Below wr.heap.size wr w1:=by rw [hw1];exact (Below.refl _ wr).alloc (Nat.le_refl _) _
   have hs1:w.heap.size≤w1.heap.size:=by have:=hb1.size;omega
   have HOW1:Hid (w1.ownsRow w.heap.size 3 1 _ L.length (yh L)):=yT HOW.out hb1 (Nat.le_refl _);have HB1:Hid (Below w.heap.size w w1):=zi HB.out hb1
   have HNW:Hid (∀j v,[Value.int .i64 line][j]?=some v→w1.cell? ((⟨wr.heap.size,0,none⟩:Addr).add j)=some v):=fun j v h=>by
    have h3:w1.heap[wr.heap.size]?=some (.cells #[.int .i64 line] 3):=by rw [hw1];exact World.alloc_heap_new wr _
    cases j with
    | zero=>simp only [List.getElem?_cons_zero,Option.some.injEq] at h;subst h;simp [World.cell?,Addr.add,h3]
    | succ j=>simp at h
   have hw1':=hw1.symm;rw [hw1'] at d5;clear hw1 hb1 hk hme hy c2 c3 c4 c5 hb HOW HB HNL HLL
   go_wp2_with (at_builtin;refine wpList_append_own_at _ rfl _ _ 33 rfl w.heap.size 3 i0 _ 1 8 Tryz.underlying33 hi0 hz0 hz1 hz2 rfl (by decide) _ _ _ rfl HOW1.out ⟨wr.heap.size,0,none⟩ 1 1 [.int .i64 line] rfl (by simp) HNW.out (by simp [Value.oneCell']) (by unfold maxLen;omega) (by omega) hs1 ?_;intro v' wz hown' hgrow _ hat)
   have HBa:Hid (Below w.heap.size w wz):=HB1.out.grown hgrow hs1 fun q hq=>(HOW1.out.lt q hq).1
   have HOa:Hid (wz.ownsRow w.heap.size 3 1 v' (L++[line]).length (yh (L++[line]))):=show wz.ownsRow _ _ _ _ _ _ by
    have e1:(L++[line]).length=L.length+1:=by simp
    have e2:yh (L++[line])=yh L++[.int .i64 line]:=by simp
    rw [e1,e2];exact hown'
   clear hown' hgrow hat HOW1 HB1 HNW hw1' d5 d5' hs1;go_wp2_with fail
   go_loopw [3,5] (fun vo vk wr=>∃(j:Nat) (L':List Int),j≤me∧vk=.int .i64 (j:Int)∧L'=L++[line]++YX (es.take j)∧wr.ownsRow w.heap.size 3 1 vo L'.length (yh L')∧Below w.heap.size w wr) (fun _ vk _=>me-(intOf vk).toNat)
   case atStart=>exact ⟨0,L++[line],Nat.zero_le _,rfl,by simp [YX],HOa.out,HBa.out⟩
   case round =>
    obtain ⟨j,L',hj,rfl,hL',hown,hbr⟩:=hrel;clear HOa HBa;have HLL:Hid (L'=L++[line]++YX (es.take j)):=hL';have HOW:Hid (wr.ownsRow w.heap.size 3 1 _ L'.length (yh L')):=hown;have HB:Hid (Below w.heap.size w wr):=hbr;have hsq:w.heap.size≤wr.heap.size:=hbr.size;obtain ⟨hb,c2,c3,c4,c5⟩:=HC.out;have e2:=(HB.out.cell (p:=⟨b,o+i*6+2,none⟩) hb).trans c2;clear hL' hown hbr c2 c3 c4 c5
    by_cases hlt2:j<me
    ·have hi3:(j:Int)<me:=by omega
     obtain ⟨q,hq⟩:∃q,es[j]?=some q:=⟨es[j]'(by rw [←HME.out];exact hlt2),List.getElem?_eq_getElem (by rw [←HME.out];exact hlt2)⟩
     have hln:=HLL.out;obtain ⟨kb,ko,a1,a2,a3,a4,a5,a6,a7,rfl,hkb,hxy,m0,m1,m2,m3,m4⟩:=(HKI.out.below HB.out) j q hq;have hle:=zce hq;have hlt3:=vK es (j+1);have ck:=qS (dpE q) q _ wr (Nat.le_refl _) (by omega) hxy
     have HN2:Hid (L'++xT q=L++[line]++YX (es.take (j+1))):=show _=_ by rw [Ug es j q hq,HLL.out,List.append_assoc]
     have hL2:L'.length+(xT q).length≤1099511627776:=by
      have h1:=congrArg List.length HN2.out;simp only [List.length_append,List.length_cons,List.length_nil] at h1;omega
     have hqe:xT q≠[]:=by have:=zdQ q;intro h;rw [h] at this;simp at this
     obtain ⟨Y,hY⟩:∃Y,Y=xT q:=⟨_,rfl⟩;rw [←hY] at ck HN2 hL2 hqe;clear hq hln hxy hkb hle hlt3 hY HLL;go_wp2_with fail
     refine ck.mono ?_;clear ck m0 m1 m2 m3 m4 e2;rintro e w2 ⟨u,rfl,hou,hb2⟩;have HOW2:Hid (w2.ownsRow w.heap.size 3 1 _ L'.length (yh L')):=yT HOW.out hb2 (Nat.le_refl _);have HB2:Hid (Below w.heap.size w w2):=zi HB.out hb2;have HOU:Hid (w2.ownsRow wr.heap.size 3 1 u Y.length (yh Y)):=hou;have hs2:w.heap.size≤w2.heap.size:=HB2.out.size;clear hou hb2 HOW HB
     go_wp2_with (at_builtin;refine YM rfl _ _ rfl w.heap.size wr.heap.size _ u L' Y rfl HOW2.out rfl (fun h=>absurd h hqe) HOU.out hL2 hs2 ?_;intro v' wz hown' hbz)
     have HB5:Hid (Below w.heap.size w wz):=HB2.out.trans hbz;have HO5:Hid (wz.ownsRow w.heap.size 3 1 v' (L'++Y).length (yh (L'++Y))):=hown';clear hown' hbz HOW2 HB2 HOU;go_wp2
     exact ⟨⟨j+1,L'++Y,by omega,by go_num,HN2.out,HO5.out,HB5.out⟩,by simp [intOf];omega⟩
    ·obtain rfl:j=me:=by omega
     have hi3:¬ (j:Int)<j:=by omega
     obtain ⟨Y1,hY1⟩:∃Y1,Y1=ZX body:=⟨_,rfl⟩;obtain ⟨Y2,hY2⟩:∃Y2,Y2=ZX els:=⟨_,rfl⟩;rw [←hY1,←hY2] at HNX hLy;rw [←hY1] at HC1;rw [←hY2] at HC2;have HN2:Hid (L'++Y1++Y2=ZX (l.take (i+1))):=show _=_ by rw [←HNX.out,HLL.out,HME.out,List.take_length];simp
     have hL2:L'.length+Y1.length+Y2.length≤1099511627776:=by
      have h1:=congrArg List.length HLL.out;rw [HME.out,List.take_length] at h1;simp only [List.length_append,List.length_cons,List.length_nil] at h1;omega
     have hne:L'≠[]:=by
      intro h;have h1:=congrArg List.length HLL.out;rw [h] at h1
      simp at h1
     obtain ⟨hb',c2,c3,c4,c5⟩:=HC.out;have e3:=(HB.out.cell (p:=⟨b,o+i*6+3,none⟩) hb).trans c3;have ck:=HC1.out wr HB.out;clear c2 c3 c4 c5 hb' hY1 hY2 HLL HME HKI HNX HC1;go_wp2_with fail
     refine ck.mono ?_;clear ck e2 e3;rintro e w2 ⟨u,rfl,hn,hou,hb2⟩;have HOW2:Hid (w2.ownsRow w.heap.size 3 1 _ L'.length (yh L')):=yT HOW.out hb2 (Nat.le_refl _);have HB2:Hid (Below w.heap.size w w2):=zi HB.out hb2;have HOU:Hid (w2.ownsRow wr.heap.size 3 1 u Y1.length (yh Y1)):=hou;have HNU:Hid (Y1=[]→u=.slice none 0 0):=hn;have hs2:w.heap.size≤w2.heap.size:=HB2.out.size;clear hou hb2 HOW HB hn
     go_upto_region 11 with (at_builtin;refine YM rfl _ _ rfl w.heap.size wr.heap.size _ u L' Y1 rfl HOW2.out rfl HNU.out HOU.out (by omega) hs2 ?_;intro v2 wy hown' hbz)
     have HB3:Hid (Below w.heap.size w wy):=HB2.out.trans hbz;have HO3:Hid (wy.ownsRow w.heap.size 3 1 v2 (L'++Y1).length (yh (L'++Y1))):=hown';have hL3:(L'++Y1).length+Y2.length≤1099511627776:=by rw [List.length_append];omega
     have hne3:L'++Y1++Y2≠[]:=by simp [hne]
     obtain ⟨L3,hL3e⟩:∃L3,L3=L'++Y1:=⟨_,rfl⟩;rw [←hL3e] at HO3 hL3 hne3 HN2;obtain ⟨hb',c2,c3,c4,c5⟩:=HC.out;have e4:=(HB3.out.cell (p:=⟨b,o+i*6+4,none⟩) hb).trans c4;have ck:=HC2.out wy HB3.out;clear hown' hbz HOW2 HB2 HOU HNU c2 c3 c4 c5 hb' HC HC2 hL3e hL2;go_wp2_with fail
     refine ck.mono ?_;clear ck e4;rintro e w4 ⟨u4,rfl,hn,hou,hb2⟩;have HOW2:Hid (w4.ownsRow w.heap.size 3 1 _ L3.length (yh L3)):=yT HO3.out hb2 (Nat.le_refl _);have HB2:Hid (Below w.heap.size w w4):=zi HB3.out hb2;have HOU:Hid (w4.ownsRow wy.heap.size 3 1 u4 Y2.length (yh Y2)):=hou;have HNU:Hid (Y2=[]→u4=.slice none 0 0):=hn;have hs4:w.heap.size≤w4.heap.size:=HB2.out.size;clear hou hb2 HO3 HB3 hn;go_wp2_with (at_builtin;refine YM rfl _ _ rfl w.heap.size wy.heap.size _ u4 L3 Y2 rfl HOW2.out rfl HNU.out HOU.out hL3 hs4 ?_;intro v3 wx hown' hbz)
     have HB5:Hid (Below w.heap.size w wx):=HB2.out.trans hbz;have HO5:Hid (wx.ownsRow w.heap.size 3 1 v3 (L3++Y2).length (yh (L3++Y2))):=hown';clear hown' hbz HOW2 HB2 HOU HNU;go_wp2
     exact ⟨⟨i+1,L3++Y2,by omega,by go_num,HN2.out,fun h=>absurd h hne3,HO5.out,HB5.out⟩,by simp [intOf];omega⟩
  ·obtain rfl:i=m:=by omega
   have hi2:¬ (i:Int)<i:=by omega
   have heL:L=ZX l:=by rw [HLL.out,HM.out,List.take_length]
   have HP:=(show Hid (_∧_∧_) from ⟨HNL.out,HOW.out,HB.out⟩)
   rw [heL] at HP;clear HAT HM HLN HLL HNL HOW HB heL;go_wp2
   exact bodyPost_ret (v:=_) (by simp [results,Tryz.results30,go_sem]) rfl ⟨_,rfl,HP.out⟩
end Go.Proofs.YtpejpbbdgblbeaaGreatDoor
