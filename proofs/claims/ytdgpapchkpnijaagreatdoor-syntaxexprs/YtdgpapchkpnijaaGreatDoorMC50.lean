import Derived.Test.YtdgpapchkpnijaaGreatDoorMC39
import Derived.Test.YtdgpapchkpnijaaGreatDoorMC45
import Derived.Test.YtdgpapchkpnijaaGreatDoorMC31
import Derived.Test.YtdgpapchkpnijaaGreatDoorMC37
import Derived.Test.YtdgpapchkpnijaaGreatDoorMC26
namespace Go.Proofs.YtdgpapchkpnijaaGreatDoor
open Go.RowKit Go.Shelf
set_option maxHeartbeats 16000000
set_option maxRecDepth 100000
mutual
def lnsE:Ez→List Int
 | .mk _ _ _ kids line=>line::YR kids
def YR:List Ez→List Int
 | []=>[]
 | x::xs=>lnsE x++YR xs
end
theorem zbq (x:Ez):1≤(lnsE x).length:=by
 obtain ⟨k,s,n,kids,line⟩:=x;rw [lnsE];simp
theorem UY (l:List Ez):∀i y,l[i]?=some y→YR (l.take (i+1))=YR (l.take i)++lnsE y:=by
 induction l with
 | nil=>intro i y h;simp at h
 | cons x xs ih =>
  intro i y h;cases i with
  | zero =>
   simp only [List.getElem?_cons_zero,Option.some.injEq] at h;subst h
   simp [YR]
  | succ i =>
   have:=ih i y (by simpa using h)
   rw [List.take_succ_cons,List.take_succ_cons,YR,YR,this,List.append_assoc]
theorem Vh (l:List Ez):∀i,(YR (l.take i)).length≤(YR l).length:=by
 induction l with
 | nil=>intro i;simp [YR]
 | cons x xs ih =>
  intro i;cases i with
  | zero=>simp [YR]
  | succ i =>
   rw [List.take_succ_cons,YR,YR,List.length_append,List.length_append]
   have:=ih i
   omega
theorem zdx {l:List Ez} {i:Nat} {y:Ez} (h:l[i]?=some y):(lnsE y).length≤(YR l).length:=by
 have h1:=Vh l (i+1);rw [UY l i y h,List.length_append] at h1;omega
abbrev xO (l:List Int):List Value:=l.map fun x=>Value.int .i64 x
theorem zfR:(Tryz.prog.info? 3).map (fun i=>(i.zero,i.size,i.bytes))=some (some (.int .i64 0),1,8):=by kernel_rfl
theorem zcm (w:World) (B:Nat) (x:Int) (hB:B≤w.heap.size):(w.alloc (.cells #[.int .i64 x] 3)).ownsRow B 3 1 (.slice (some ⟨w.heap.size,0,none⟩) 1 1) 1 [.int .i64 x] :=
 ⟨rfl,.inr ⟨w.heap.size,1,#[.int .i64 x],rfl,hB,World.alloc_heap_new _ _,Nat.le_refl _,by simp [maxLen],rfl,rfl⟩⟩
theorem uU:∀(N:Nat) (x:Ez) (v:Value) (w:World),dpE x≤N→(lnsE x).length≤1099511627776→Zs w.heap.size w x v →
  Calls Tryz.prog 41 #[v] w fun e w'=>∃u,e=.returned u∧w'.ownsRow w.heap.size 3 1 u (lnsE x).length (xO (lnsE x))∧Below w.heap.size w w'
 | 0,.mk k s n kids line,v,w,hd,_,_=>by rw [dpE] at hd;omega
 | N+1,.mk k s n kids line,v,w,hd,hln,hx=>by
  obtain ⟨i0,hi0,hz0,hz1,hz2⟩:=info_parts zfR;obtain ⟨base,cap,rfl,hc,hmx,hs,hn0,hn1,hkid⟩:=hx.kid;obtain ⟨m,hm⟩:∃m,m=kids.length:=⟨_,rfl⟩;rw [←hm] at hc ⊢;have hlen:m≤9223372036854775807:=by unfold maxLen at hmx;omega
  have hkA:YQ w kids base:=fun i x h=>by
   obtain ⟨b,o,a1,a2,a3,a4,a5,a6,a7,e,hb,hlt,hxy,h⟩:=hkid i x h;exact ⟨b,o,a1,a2,a3,a4,a5,a6,a7,e,hlt,hxy,h⟩
  have hL:(YR kids).length+1≤1099511627776:=by rw [lnsE] at hln;simpa using hln
  obtain ⟨w1,hw1⟩:∃w1,w1=w.alloc (yV k s n base m cap line):=⟨_,rfl⟩;have hb1:Below w.heap.size w w1:=by rw [hw1];exact (Below.refl _ w).alloc (Nat.le_refl _) _
  have p1:w1.heap[w.heap.size]?=some (yV k s n base m cap line):=by rw [hw1];exact World.alloc_heap_new w _
  have hsz1:w1.heap.size=w.heap.size+1:=by rw [hw1];simp
  have HR:Hid (∀u (W:World),W.ownsRow w.heap.size 3 1 u ((YR kids).length+1) (xO (line::YR kids))→W.ownsRow w.heap.size 3 1 u (lnsE (.mk k s n kids line)).length (xO (lnsE (.mk k s n kids line)))):=fun u W h=>by rw [lnsE];exact h
  have HK:Hid (∀i y,kids[i]?=some y→∀W,Below w1.heap.size w1 W→∃b o a1 a2 a3 a4 a5 a6 a7,base=some ⟨b,o,none⟩∧W.cell? ⟨b,o+i*5,none⟩=some (.int .i64 a1)∧W.cell? ⟨b,o+i*5+1,none⟩=some (.string (za a2))∧W.cell? ⟨b,o+i*5+2,none⟩=some (.int .i64 a3)∧W.cell? ⟨b,o+i*5+3,none⟩=some (.slice a4 a5 a6)∧W.cell? ⟨b,o+i*5+4,none⟩=some (.int .i64 a7) ∧
    Calls Tryz.prog 41 #[yv a1 a2 a3 a4 a5 a6 a7] W fun e w'=>∃u,e=.returned u∧w'.ownsRow W.heap.size 3 1 u (lnsE y).length (xO (lnsE y))∧Below W.heap.size W w'):=fun i y hy W hW=>by
   obtain ⟨b,o,a1,a2,a3,a4,a5,a6,a7,e,hlt,hxy,m0,m1,m2,m3,m4⟩:=(hkA.below (zu hb1 hW)) i y hy;exact ⟨b,o,a1,a2,a3,a4,a5,a6,a7,e,m0,m1,m2,m3,m4,uU N y _ W (ux hd hy) (by have:=zdx hy;omega) hxy⟩
  have HP1:Hid (w1.heap[w.heap.size]?=some (yV k s n base m cap line)):=p1;have HB1:Hid (Below w.heap.size w w1):=hb1;have HM:Hid (m=kids.length):=hm;have HO1:Hid ((w1.alloc (.cells #[.int .i64 line] 3)).ownsRow w1.heap.size 3 1 (.slice (some ⟨w.heap.size+1,0,none⟩) 1 1) 1 [.int .i64 line]∧Below w1.heap.size w1 (w1.alloc (.cells #[.int .i64 line] 3))):=⟨by rw [←hsz1];exact zcm w1 _ line (Nat.le_refl _),(Below.refl _ w1).alloc (Nat.le_refl _) _⟩
  obtain ⟨c0,c1,c2,c3,c4⟩:=zE p1;have hw1':=hw1.symm;have c3':=zj c3;clear hx hkid hkA hb1 p1 hw1 hm hd hc hmx hln
  go_enter Tryz.func41,Tryz.ntmps41
  go_wp2_with fail
  go_loopw [3,4] (fun vo vi wr=>∃(i:Nat) (L:List Int),i≤m∧vi=.int .i64 (i:Int)∧L=YR (kids.take i)∧wr.ownsRow w1.heap.size 3 1 vo (L.length+1) (xO (line::L))∧Below w1.heap.size w1 wr) (fun _ vi _=>m-(intOf vi).toNat)
  case atStart=>exact ⟨0,[],Nat.zero_le _,rfl,by simp [YR],HO1.out⟩
  case round =>
   obtain ⟨i,L,hi,rfl,hL',hown,hbr⟩:=hrel;clear c0 c1 c2 c3 c4 c3' HO1;obtain ⟨go,co,hvo,-⟩:=Xr hown (by omega)
   subst hvo;obtain ⟨c0,c1,c2,c3,c4⟩:=zE ((hbr.block w.heap.size (by omega)).trans HP1.out)
   have HBR:Hid (Below w1.heap.size w1 wr):=hbr;have HLL:Hid (L=YR (kids.take i)):=hL';have HOW:Hid (wr.ownsRow w1.heap.size 3 1 _ (L.length+1) (xO (line::L))):=hown;have hsr:=hbr.size;clear hbr hL' hown
   by_cases hlt:i<m
   ·have hlt':(i:Int)<(m:Int):=by omega
    obtain ⟨y,hy⟩:∃y,kids[i]?=some y:=⟨kids[i]'(by rw [←HM.out];exact hlt),List.getElem?_eq_getElem (by rw [←HM.out];exact hlt)⟩
    obtain ⟨b,o,a1,a2,a3,a4,a5,a6,a7,rfl,m0,m1,m2,m3,m4,ck⟩:=HK.out i y hy wr HBR.out;have HNX:Hid (L++lnsE y=YR (kids.take (i+1))):=show _=_ by rw [UY kids i y hy,HLL.out]
    have hLy:L.length+(lnsE y).length+1≤1099511627776:=by
     have h1:=Vh kids (i+1);rw [←HNX.out,List.length_append] at h1;omega
    have hne:=zbq y;obtain ⟨Y,hY⟩:∃Y,Y=lnsE y:=⟨_,rfl⟩;rw [←hY] at ck HNX hLy hne;clear hy HK HLL hY;go_wp2_with fail
    refine ck.mono ?_;clear ck m0 m1 m2 m3 m4 c0 c1 c2 c3 c4;rintro e w2 ⟨u,rfl,hou,hb2⟩;obtain ⟨g2,cp2,rfl,hg2,hg2l,hcc,hcm,hcells⟩:=Xr hou hne;have HOW2:Hid (w2.ownsRow w1.heap.size 3 1 _ (L.length+1) (xO (line::L))):=xS HOW.out hb2 (Nat.le_refl _);have HB2:Hid (Below w1.heap.size w1 w2):=zu HBR.out hb2
    have HCE:Hid (∀j v,(xO Y)[j]?=some v→w2.cell? ((⟨g2,0,none⟩:Addr).add j)=some v):=fun j v h=>by
     have:=hcells j v h
     rw [show (⟨g2,0,none⟩:Addr).add j=⟨g2,j,none⟩ by simp [Addr.add];try omega]
     exact this
    have hs2:w1.heap.size≤w2.heap.size:=HB2.out.size;clear hou hb2 hcells HOW HBR
    go_wp2_with (at_builtin;refine wpList_append_own_at _ rfl _ _ 33 rfl w1.heap.size 3 i0 _ 1 8 Tryz.underlying33 hi0 hz0 hz1 hz2 rfl (by decide) _ _ _ rfl HOW2.out ⟨g2,0,none⟩ Y.length cp2 (xO Y) rfl (by simp) HCE.out (by simp [Value.oneCell']) (by unfold maxLen;omega) (by omega) hs2 ?_;intro v' w5 hown' hgrow _ hat)
    have HB5:Hid (Below w1.heap.size w1 w5):=HB2.out.grown hgrow hs2 fun q hq=>(HOW2.out.lt q hq).1
    have HO5:Hid (w5.ownsRow w1.heap.size 3 1 v' ((L++Y).length+1) (xO (line::(L++Y)))):=show w5.ownsRow _ _ _ _ _ _ by
     have e1:(L++Y).length+1=L.length+1+Y.length:=by rw [List.length_append];omega
     have e2:xO (line::(L++Y))=xO (line::L)++xO Y:=by simp
     rw [e1,e2];exact hown'
    clear hown' hgrow hat HOW2 HB2 HCE;go_wp2
    exact ⟨⟨i+1,L++Y,by omega,by go_num,HNX.out,HO5.out,HB5.out⟩,by simp [intOf];omega⟩
   ·obtain rfl:i=m:=by omega
    have hlt':¬ (i:Int)<(i:Int):=by omega
    have HO9:Hid (wr.ownsRow w.heap.size 3 1 (.slice (some ⟨go,0,none⟩) (L.length+1) co) (lnsE (.mk k s n kids line)).length (xO (lnsE (.mk k s n kids line)))):=by
     have heL:L=YR kids:=by rw [HLL.out,HM.out,List.take_length]
     have h1:=HOW.out;exact HR.out _ _ (qI (by rw [←heL];exact h1) HB1.out.size)
    have HBW:Hid (Below w.heap.size w wr):=zu HB1.out HBR.out;clear HK HBR HB1 HM HP1 HLL HOW HR;go_wp2
    exact bodyPost_ret (v:=.slice (some ⟨go,0,none⟩) (L.length+1) co) (by simp [results,Tryz.results41,go_sem]) rfl ⟨_,rfl,HO9.out,HBW.out⟩
theorem vd (N:Nat) (x:Ez) (v:Value) (w:World) (hd:dpE x≤N) (hln:(lnsE x).length≤1099511627776) (hx:Zs w.heap.size w x v) :
  Calls Tryz.prog 18 #[v] w fun e w'=>∃u,e=.returned u∧w'.ownsRow w.heap.size 3 1 u (lnsE x).length (xO (lnsE x))∧Below w.heap.size w w':=by
 obtain ⟨k,s,n,kids,line⟩:=x;obtain ⟨base,cap,rfl,hc,hmx,hs,hn0,hn1,hkid⟩:=hx.kid;obtain ⟨m,hm⟩:∃m,m=kids.length:=⟨_,rfl⟩;rw [←hm] at hx ⊢;have hb1:Below w.heap.size w (w.alloc (yV k s n base m cap line)):=(Below.refl _ w).alloc (Nat.le_refl _) _;have cl:=uU N _ _ (w.alloc (yV k s n base m cap line)) hd hln ((hx.kept hb1).wide hb1.size);have HB1:Hid (Below w.heap.size w (w.alloc (yV k s n base m cap line))):=hb1;generalize lnsE (.mk k s n kids line)=L at *;clear hx hb1 hc hmx hs hn0 hn1 hkid hm hd
 go_enter Tryz.func18,Tryz.ntmps18
 go_wp2_with fail
 refine cl.mono ?_;clear cl;rintro e w2 ⟨u,rfl,hou,hb2⟩;have HO:Hid (w2.ownsRow w.heap.size 3 1 u L.length (xO L)):=qI hou HB1.out.size;have HB2:Hid (Below w.heap.size w w2):=zu HB1.out hb2;clear hou hb2;go_wp2
 exact bodyPost_ret (v:=u) (by simp [results,Tryz.results18,go_sem]) rfl ⟨u,rfl,HO.out,HB2.out⟩
theorem Uu (L:List Int) (v u:Value) (B B':Nat) (w:World) (hv:w.ownsRow B 3 1 v L.length (xO L)) (hu:w.ownsRow B' 3 1 u L.length (xO L)) (hne:1≤L.length) (hln:L.length≤1099511627776) :
  Calls Tryz.prog 12 #[v,u] w fun e w'=>e=.returned (.bool true)∧Below w.heap.size w w':=by
 obtain ⟨g1,k1,rfl,-,hg1,hc1,-,h1⟩:=Xr hv hne;obtain ⟨g2,k2,rfl,-,hg2,hc2,-,h2⟩:=Xr hu hne;obtain ⟨m,hm⟩:∃m,m=L.length:=⟨_,rfl⟩;have H1:Hid (∀i x,L[i]?=some x→w.cell? ⟨g1,i,none⟩=some (.int .i64 x)∧w.cell? ⟨g2,i,none⟩=some (.int .i64 x)):=fun i x h=>⟨h1 i _ (by simp [h]),h2 i _ (by simp [h])⟩
 have HM:Hid (m=L.length):=hm;have HB0:Hid (Below w.heap.size w w):=Below.refl _ _;rw [←hm] at hln hc1 hc2 ⊢;clear h1 h2 hv hu hm hne
 go_enter Tryz.func12,Tryz.ntmps12
 go_wp2
 go_loopw [5] (fun vi wr=>∃i:Nat,i≤m∧vi=.int .i64 (i:Int)∧Below w.heap.size w wr) (fun vi _=>m-(intOf vi).toNat)
 case atStart=>exact ⟨0,Nat.zero_le _,rfl,HB0.out⟩
 case round =>
  obtain ⟨i,hi,rfl,hbr⟩:=hrel;have HB:Hid (Below w.heap.size w wr):=hbr;clear hbr
  by_cases hlt:i<m
  ·have hi2:(i:Int)<m:=by omega
   obtain ⟨x,hx⟩:∃x,L[i]?=some x:=⟨L[i]'(by rw [←HM.out];exact hlt),List.getElem?_eq_getElem (by rw [←HM.out];exact hlt)⟩
   obtain ⟨q1,q2⟩:=H1.out i x hx;have d1:=(HB.out.cell (p:=⟨g1,i,none⟩) hg1).trans q1;have d2:=(HB.out.cell (p:=⟨g2,i,none⟩) hg2).trans q2;clear q1 q2 hx
   go_upto_region 6 with fail
   go_quiet (fail)
   go_wp2
   exact ⟨⟨i+1,by omega,by go_num,⟨HB.out.os,HB.out.tape,HB.out.output,HB.out.size,HB.out.block⟩⟩,by simp [intOf];omega⟩
  ·obtain rfl:i=m:=by omega
   have hi2:¬ (i:Int)<i:=by omega
   go_wp2
   go_ret
   exact ⟨rfl,HB.out⟩
mutual
def Yz:Ex→Nat
 | .mk _ _ _ kids _=>1+YA kids
def YA:List Ex→Nat
 | []=>0
 | x::xs=>Yz x+YA xs
end
theorem VP (a b:List Ex):YA (a++b)=YA a+YA b:=by
 induction a with
 | nil=>simp [YA]
 | cons x xs ih=>simp [YA,ih,Nat.add_assoc]
theorem zcn (f:Nat) :
  (∀least ts x us,zh f least ts=some (.ok (x,us))→Yz x+us.length≤ts.length)∧(∀least e ts x us T,ZI f least e ts=some (.ok (x,us))→Yz e+ts.length≤T→Yz x+us.length≤T) ∧
  (∀ts x us,Zw f ts=some (.ok (x,us))→Yz x+us.length≤ts.length)∧(∀e ts x us T,zH f e ts=some (.ok (x,us))→Yz e+ts.length≤T→Yz x+us.length≤T)∧(∀ts x us,zP f ts=some (.ok (x,us))→Yz x+us.length≤ts.length) ∧
  (∀pre ts l us T,yy f pre ts=some (.ok (l,us))→YA pre+ts.length≤T→YA l+us.length≤T)∧(∀ts l us,zK f ts=some (.ok (l,us))→YA l+us.length+1≤ts.length):=by
 induction f with
 | zero=>refine ⟨?_,?_,?_,?_,?_,?_,?_⟩ <;> intros <;> simp_all [zh,ZI,Zw,zH,zP,yy,zK]
 | succ f ih =>
  obtain ⟨i1,i2,i3,i4,i5,i6,i7⟩:=ih;refine ⟨fun least ts x us h=>?_,fun least e ts x us T h hT=>?_,fun ts x us h=>?_,fun e ts x us T h hT=>?_,fun ts x us h=>?_,fun pre ts l us T h hT=>?_,fun ts l us h=>?_⟩
  ·rw [zh] at h
   split at h
   ·exact i3 _ _ _ h
   ·obtain ⟨y,vs,h1,h2⟩:=zd h
    exact i2 _ _ _ _ _ _ h2 (i1 _ _ _ _ h1)
  ·rw [ZI] at h
   split at h
   ·rename_i hc
    obtain ⟨y,vs,h1,h2⟩:=zd h;have a:=i1 _ _ _ _ h1;have b:=yS (ts:=ts) (by omega)
    have d:1≤Yz y:=by cases y;simp [Yz]
    refine i2 _ _ _ _ _ _ h2 ?_;simp only [Yz,YA];omega
   ·obtain ⟨rfl,rfl⟩:=zA h;exact hT
  ·rw [Zw] at h
   split at h
   ·rename_i hc
    obtain ⟨y,vs,h1,h2⟩:=zd h;have a:=i3 _ _ _ h1;have b:=yS (ts:=ts) (by omega)
    obtain ⟨rfl,rfl⟩:=zA h2;simp only [Yz,YA];omega
   ·obtain ⟨y,vs,h1,h2⟩:=zd h
    exact i4 _ _ _ _ _ h2 (i5 _ _ _ h1)
  ·rw [zH] at h
   split at h
   ·rename_i hc
    obtain ⟨y,vs,h1,h2⟩:=zd h;obtain ⟨z,vs',h3,h4⟩:=zd h2;have a:=i1 _ _ _ _ h1;have b:=Zh hc;have c:=Zo h3;have d:1≤Yz y:=by cases y;simp [Yz]
    refine i4 _ _ _ _ _ h4 ?_;simp only [Yz,YA];omega
   ·split at h
    ·rename_i hc
     obtain ⟨y,vs,h1,h2⟩:=zd h;have b:=Zh hc;have c:=Y3 h1;refine i4 _ _ _ _ _ h2 ?_;simp only [Yz,YA];omega
    ·obtain ⟨rfl,rfl⟩:=zA h;exact hT
  ·rw [zP] at h
   split at h
   ·rename_i hc
    have b:=yS (ts:=ts) (by omega)
    obtain ⟨rfl,rfl⟩:=zA h;simp only [Yz,YA];omega
   ·split at h
    ·rename_i hc
     have b:=yS (ts:=ts) (by omega)
     obtain ⟨rfl,rfl⟩:=zA h;simp only [Yz,YA];omega
    ·split at h
     ·rename_i hc
      have b:=yS (ts:=ts) (by omega)
      split at h
      ·obtain ⟨y,vs,h1,h2⟩:=zd h
       have a:=i7 _ _ _ h1;obtain ⟨rfl,rfl⟩:=zA h2;simp only [Yz];omega
      ·obtain ⟨rfl,rfl⟩:=zA h
       simp only [Yz,YA];omega
     ·split at h
      ·rename_i hc
       have b:=Zh hc;obtain ⟨rfl,rfl⟩:=zA h;simp only [Yz,YA];omega
      ·split at h
       ·rename_i hc
        have b:=Zh hc;obtain ⟨rfl,rfl⟩:=zA h;simp only [Yz,YA];omega
       ·split at h
        ·rename_i hc
         have b:=Zh hc;obtain ⟨s,vs,h1,h2⟩:=zd h;obtain ⟨y,vs',h3,h4⟩:=zd h2;have a:=i7 _ _ _ h3;have c:=Y3 h1;obtain ⟨rfl,rfl⟩:=zA h4;simp only [Yz];omega
        ·split at h
         ·rename_i hc
          have b:=Zh hc;obtain ⟨y,vs,h1,h2⟩:=zd h;obtain ⟨z,vs',h3,h4⟩:=zd h2;have a:=i6 _ _ _ _ _ h1 (Nat.le_refl _);have c:=Zo h3;obtain ⟨rfl,rfl⟩:=zA h4;simp only [Yz,YA] at a ⊢;omega
         ·obtain ⟨z,vs,h1,h2⟩:=zd h
          obtain ⟨y,vs',h3,h4⟩:=zd h2;obtain ⟨z',vs'',h5,h6⟩:=zd h4;have a:=i1 _ _ _ _ h3;have b:=Zo h1;have c:=Zo h5;obtain ⟨rfl,rfl⟩:=zA h6;omega
  ·rw [yy] at h
   obtain ⟨y,vs,h1,h2⟩:=zd h;have a:=i1 _ _ _ _ h1
   split at h2
   ·rename_i hc
    have b:=Zh hc;refine i6 _ _ _ _ _ h2 ?_;rw [VP];simp only [YA];omega
   ·obtain ⟨rfl,rfl⟩:=zA h2
    rw [VP];simp only [YA];omega
  ·rw [zK] at h
   obtain ⟨z,vs,h1,h2⟩:=zd h;have b:=Zo h1
   split at h2
   ·rename_i hc
    have c:=Zh hc;obtain ⟨rfl,rfl⟩:=zA h2;simp only [YA];omega
   ·obtain ⟨y,vs',h3,h4⟩:=zd h2
    obtain ⟨z',vs'',h5,h6⟩:=zd h4;have a:=i6 _ _ _ _ _ h3 (Nat.le_refl _);have c:=Zo h5;obtain ⟨rfl,rfl⟩:=zA h6;simp only [YA] at a;omega
theorem Q7 {l:List UInt8} {x x':Ex} {a a' e e':Nat} (h:Zx l x a e) (h':Zx l x' a' e'):x=x'∧a=a'∧e=e':=by
 unfold Zx at h h'
 by_cases hc:(zv l).2.2≠0
 ·rw [if_pos hc] at h h'
  exact ⟨h.1.trans h'.1.symm,h.2.1.trans h'.2.1.symm,h.2.2.trans h'.2.2.symm⟩
 ·rw [if_neg hc] at h h'
  obtain ⟨f,r,h1,h2⟩:=h;obtain ⟨f',r',h1',h2'⟩:=h';obtain rfl:=xI h1 h1';cases hw:Z2 r with
  | error b =>
   rw [hw] at h2 h2';exact ⟨h2.1.trans h2'.1.symm,h2.2.1.trans h2'.2.1.symm,h2.2.2.trans h2'.2.2.symm⟩
  | ok y =>
   rw [hw] at h2 h2';simp only at h2 h2'
   by_cases hd:24<depthE y
   ·rw [if_pos hd] at h2 h2'
    exact ⟨h2.1.trans h2'.1.symm,h2.2.1.trans h2'.2.1.symm,h2.2.2.trans h2'.2.2.symm⟩
   ·rw [if_neg hd] at h2 h2'
    exact ⟨h2.1.trans h2'.1.symm,h2.2.1.trans h2'.2.1.symm,h2.2.2.trans h2'.2.2.symm⟩
theorem za5 {l:List UInt8} {x:Ex} {a e:Nat} (h:Zx l x a e):depthE x≤24∧Yz x≤4098:=by
 unfold Zx at h
 by_cases hc:(zv l).2.2≠0
 ·rw [if_pos hc] at h
  obtain ⟨rfl,-,-⟩:=h;exact ⟨by decide,by decide⟩
 ·rw [if_neg hc] at h
  obtain ⟨f,r,h1,h2⟩:=h;have hl:=XP l;cases r with
  | error b =>
   have:Z2 (.error b)=.error b:=rfl
   rw [this] at h2;obtain ⟨rfl,-,-⟩:=h2;exact ⟨by decide,by decide⟩
  | ok p =>
   obtain ⟨y,us⟩:=p;have hcn:=(zcn f).1 _ _ _ _ h1
   by_cases hk:(zz us).k=0
   ·have:Z2 (.ok (y,us))=.ok y:=by unfold Z2;simp only [if_pos hk]
    rw [this] at h2;simp only at h2
    by_cases hd:24<depthE y
    ·rw [if_pos hd] at h2
     obtain ⟨rfl,-,-⟩:=h2;exact ⟨by decide,by decide⟩
    ·rw [if_neg hd] at h2
     obtain ⟨rfl,-,-⟩:=h2;exact ⟨by omega,by omega⟩
   ·have:Z2 (.ok (y,us))=.error (zz us).at0:=by unfold Z2;simp only [if_neg hk]
    rw [this] at h2;obtain ⟨rfl,-,-⟩:=h2;exact ⟨by decide,by decide⟩
mutual
theorem Q8:∀x:Ex,(lnsE (UU x)).length=Yz x
 | .mk k s n kids line=>by rw [UU,lnsE,Yz,List.length_cons,Q9 kids,Nat.add_comm]
theorem Q9:∀l:List Ex,(YR (v8 l)).length=YA l
 | []=>by rw [v8,YR,YA];rfl
 | x::xs=>by rw [v8,YR,YA,List.length_append,Q8 x,Q9 xs]
end
theorem zco (l:List UInt8) (w:World) (hS:vM w) :
  Calls Tryz.prog 4 #[.string (za l)] w fun e w'=>e=.returned (.bool true)∧Below w.heap.size w w':=by
 have c1:=zdd l w hS.1.1 hS.2.1 hS.2.2;have HS:Hid (∀W,Below w.heap.size w W→vM W):=fun W hW=>hS.below hW
 clear hS
 go_enter Tryz.func4,Tryz.ntmps4
 go_wp2_with fail
 refine c1.mono ?_;clear c1;rintro e w1 ⟨x,at0,err,v,rfl,hI,hx,hb1⟩;obtain ⟨a,b,c,d0,d1,d2,k,rfl⟩:=hx.agg;obtain ⟨A,hA⟩:∃A,A=w1.heap.size:=⟨_,rfl⟩;obtain ⟨w2,hw2⟩:∃w2,w2=w1.alloc (.cells #[.int .i64 a,.string b,.int .i64 c,.slice d0 d1 d2,.int .i64 k] 40):=⟨_,rfl⟩;have hb2:Below w.heap.size w w2:=by rw [hw2];exact hb1.alloc hb1.size _
 have pA:w2.heap[A]?=some (.cells #[.int .i64 a,.string b,.int .i64 c,.slice d0 d1 d2,.int .i64 k] 40 (0,0)):=by rw [hw2,hA];exact World.alloc_heap_new _ _
 have hx2:Zc w.heap.size w2 x (.agg #[.int .i64 a,.string b,.int .i64 c,.slice d0 d1 d2,.int .i64 k]):=by rw [hw2];exact Zc.kept hx (by simp) fun i _ hi=>Below.heap_alloc _ _ _ hi
 have H2:Hid (Below w.heap.size w w2∧w2.heap[A]?=some (.cells #[.int .i64 a,.string b,.int .i64 c,.slice d0 d1 d2,.int .i64 k] 40 (0,0))∧Zc w.heap.size w2 x (.agg #[.int .i64 a,.string b,.int .i64 c,.slice d0 d1 d2,.int .i64 k])):=⟨hb2,pA,hx2⟩;have c2:=Q6 l w2;have HI:Hid (Zx l x at0 err):=hI;have hw2':=hw2.symm;have hA':=hA.symm;clear hb2 pA hx2 hw2 hA hx hb1 hI;go_wp2_with fail
 refine c2.mono ?_;clear c2 hw2' hA';rintro e w3 ⟨x',at0',err',v',rfl,hI',hok,hx',hb3⟩;obtain ⟨rfl,rfl,rfl⟩:=Q7 HI.out hI';obtain ⟨hdp,hcn⟩:=za5 hI';obtain ⟨a',b',c',d0',d1',d2',k',rfl⟩:=hx'.agg;obtain ⟨hb2,pA,hx2⟩:=H2.out;obtain ⟨B,hB⟩:∃B,B=w3.heap.size:=⟨_,rfl⟩;obtain ⟨w4,hw4⟩:∃w4,w4=w3.alloc (.cells #[.int .i64 a',.string b',.int .i64 c',.slice d0' d1' d2',.int .i64 k'] 40):=⟨_,rfl⟩;have hb4:Below w2.heap.size w2 w4:=by rw [hw4];exact hb3.alloc hb3.size _
 have hlA:A<w2.heap.size:=(Array.getElem?_eq_some_iff.1 pA).1;have pA4:=(hb4.block _ hlA).trans pA;have pB4:w4.heap[B]?=some (.cells #[.int .i64 a',.string b',.int .i64 c',.slice d0' d1' d2',.int .i64 k'] 40 (0,0)):=by rw [hw4,hB];exact World.alloc_heap_new _ _
 have hx4:Zc w.heap.size w4 x (.agg #[.int .i64 a,.string b,.int .i64 c,.slice d0 d1 d2,.int .i64 k]):=Zc.kept hx2 hb4.size fun i _ hi=>hb4.block i hi
 have hx4':Zc w2.heap.size w4 x (.agg #[.int .i64 a',.string b',.int .i64 c',.slice d0' d1' d2',.int .i64 k']):=by rw [hw4];exact Zc.kept hx' (by simp) fun i _ hi=>Below.heap_alloc _ _ _ hi
 have hez:Zs w4.heap.size w4 (UU x) (.agg #[.int .i64 a,.string b,.int .i64 c,.slice d0 d1 d2,.int .i64 k]):=zQ.ez hx4 (fun i _ hi=>hi) hok
 have hez':Zs w4.heap.size w4 (UU x) (.agg #[.int .i64 a',.string b',.int .i64 c',.slice d0' d1' d2',.int .i64 k']):=zQ.ez hx4' (fun i _ hi=>hi) hok
 have hbw4:Below w.heap.size w w4:=zu hb2 hb4;obtain ⟨y,hy⟩:∃y,y=UU x:=⟨_,rfl⟩;have hdy:dpE y≤24:=by rw [hy,V8];exact hdp
 have hly:(lnsE y).length≤1099511627776:=by rw [hy,Q8];omega
 rw [←hy] at hez hez'
 have CS:Hid (∀W,Below w4.heap.size w4 W→Calls Tryz.prog 17 #[.agg #[.int .i64 a,.string b,.int .i64 c,.slice d0 d1 d2,.int .i64 k],.agg #[.int .i64 a',.string b',.int .i64 c',.slice d0' d1' d2',.int .i64 k']] W fun e w'=>e=.returned (.bool true)∧Below W.heap.size W w'):=fun W hW =>
  UP 24 y y _ _ W hdy (QA y) ((hez.kept hW).wide hW.size) ((hez'.kept hW).wide hW.size)
 have CL1:Hid (∀W,Below w4.heap.size w4 W→Calls Tryz.prog 18 #[.agg #[.int .i64 a,.string b,.int .i64 c,.slice d0 d1 d2,.int .i64 k]] W fun e w'=>∃u,e=.returned u∧w'.ownsRow W.heap.size 3 1 u (lnsE y).length (xO (lnsE y))∧Below W.heap.size W w'):=fun W hW=>vd 24 y _ W hdy hly ((hez.kept hW).wide hW.size)
 have CL2:Hid (∀W,Below w4.heap.size w4 W→Calls Tryz.prog 18 #[.agg #[.int .i64 a',.string b',.int .i64 c',.slice d0' d1' d2',.int .i64 k']] W fun e w'=>∃u,e=.returned u∧w'.ownsRow W.heap.size 3 1 u (lnsE y).length (xO (lnsE y))∧Below W.heap.size W w'):=fun W hW=>vd 24 y _ W hdy hly ((hez'.kept hW).wide hW.size)
 have hln1:=zbq y;have CLV:Hid (∀W,Below w4.heap.size w4 W→Calls Tryz.prog 14 #[] W fun e w'=>e=.returned (.bool true)∧Below W.heap.size W w'):=fun W hW=>QT W (HS.out W (zu hbw4 hW))
 generalize lnsE y=L at *;have HB4:Hid (Below w.heap.size w w4):=hbw4;have HLL:Hid (1≤L.length∧L.length≤1099511627776):=⟨hln1,hly⟩;have hlA4:A<w4.heap.size:=(Array.getElem?_eq_some_iff.1 pA4).1;have hlB4:B<w4.heap.size:=(Array.getElem?_eq_some_iff.1 pB4).1;obtain ⟨m0,m1,m2,m3,m4,-⟩:=zl pA4;obtain ⟨n0,n1,n2,n3,n4,-⟩:=zl pB4;have x0:=ZH (n:=w4.heap.size) m0 hlA4;have x1:=ZH (n:=w4.heap.size) m1 hlA4;have x2:=ZH (n:=w4.heap.size) m2 hlA4;have x3:=ZH (n:=w4.heap.size) m3 hlA4;have x4:=ZH (n:=w4.heap.size) m4 hlA4;have y0:=ZH (n:=w4.heap.size) n0 hlB4;have y1:=ZH (n:=w4.heap.size) n1 hlB4;have y2:=ZH (n:=w4.heap.size) n2 hlB4;have y3:=ZH (n:=w4.heap.size) n3 hlB4;have y4:=ZH (n:=w4.heap.size) n4 hlB4;have HD:Hid (Below w4.heap.size w4 w4.drew):=(Below.refl _ _).drew;have hw4':=hw4.symm;have hB':=hB.symm;clear hb2 pA hx2 hw4 hB hx' hb3 hI' hok hdp hcn hb4 hlA pA4 pB4 hx4 hx4' hez hez' hbw4 hy hdy hly hln1 hlA4 hlB4 H2 HI HS m0 m1 m2 m3 m4 n0 n1 n2 n3 n4;go_wp2_with fail
 refine xZ (n:=24) (S:=fun w'=>∃c:Cls w4.heap.size w4,w'=c.1) (by kernel_rfl) rfl rfl ?_
 refine Z7 (fuel:=22) (fuel':=24) (idx:=[0,1]) (by decide +kernel) rfl rfl rfl (fun _ _ _ _ _ h=>h) ⟨⟨w4.drew,HD.out⟩,rfl⟩ ?_
 show wpQuiet _ _ _ _ [_,_] _
 iterate 2 (go_big_quiet_step (fail))
 refine wpQuiet_nil ?_;refine zY (fuel:=21) (fuel':=22) (i:=2) rfl (by decide +kernel) rfl rfl (by rfl) ?_
 intro K hK;go_simp;refine (CS.out _ HD.out).mono ?_;rintro e w5 ⟨rfl,hb5⟩;have HB5:Hid (Below w4.heap.size w4 w5):=HD.out.trans (hb5.mono HD.out.size);clear hb5
 (try go_simp)
 refine hK.out _ _ ⟨⟨w5,HB5.out⟩,rfl⟩ ?_;clear hK K;refine Z7 (fuel:=18) (fuel':=21) (idx:=[3,4,6]) (by decide +kernel) rfl rfl rfl (fun _ _ _ _ _ h=>h) ⟨⟨w5,HB5.out⟩,rfl⟩ ?_
 show wpQuiet _ _ _ _ [_,_,_] _
 iterate 3 (go_big_quiet_step (fail))
 refine wpQuiet_nil ?_;refine zY (fuel:=17) (fuel':=18) (i:=5) rfl (by decide +kernel) rfl rfl (by rfl) ?_
 intro K hK;go_simp;refine (CL1.out _ HB5.out).mono ?_;rintro e w6 ⟨u1,rfl,ho1,hb6⟩;have HB6:Hid (Below w4.heap.size w4 w6):=HB5.out.trans (hb6.mono HB5.out.size);have HO1:Hid (w6.ownsRow w5.heap.size 3 1 u1 L.length (xO L)):=ho1;clear hb6 ho1
 (try go_simp)
 refine hK.out _ _ ⟨⟨w6,HB6.out⟩,rfl⟩ ?_;clear hK K;refine zY (fuel:=16) (fuel':=17) (i:=7) rfl (by decide +kernel) rfl rfl (by rfl) ?_
 intro K hK;go_simp;refine (CL2.out _ HB6.out).mono ?_;rintro e w7 ⟨u2,rfl,ho2,hb7⟩;have HB7:Hid (Below w4.heap.size w4 w7):=HB6.out.trans (hb7.mono HB6.out.size);have HSL:Hid (Calls Tryz.prog 12 #[u1,u2] w7 fun e w'=>e=.returned (.bool true)∧Below w7.heap.size w7 w'):=Uu L u1 u2 _ _ w7 (xS HO1.out hb7 (Nat.le_refl _)) ho2 HLL.out.1 HLL.out.2
 clear hb7 ho2
 (try go_simp)
 refine hK.out _ _ ⟨⟨w7,HB7.out⟩,rfl⟩ ?_;clear hK K;refine zY (fuel:=15) (fuel':=16) (i:=8) rfl (by decide +kernel) rfl rfl (by rfl) ?_
 intro K hK;go_simp;refine HSL.out.mono ?_;rintro e w8 ⟨rfl,hb8⟩;have HB8:Hid (Below w4.heap.size w4 w8):=HB7.out.trans (hb8.mono HB7.out.size);clear hb8
 (try go_simp)
 refine hK.out _ _ ⟨⟨w8,HB8.out⟩,rfl⟩ ?_;clear hK K;refine Z7 (fuel:=3) (fuel':=15) (idx:=[9,10,11,12,13,14,15,16,17,18,19,20]) (by decide +kernel) rfl rfl rfl (fun _ _ _ _ _ h=>h) ⟨⟨w8,HB8.out⟩,rfl⟩ ?_
 show wpQuiet _ _ _ _ [_,_,_,_,_,_,_,_,_,_,_,_] _
 iterate 12 (go_big_quiet_step (fail))
 refine wpQuiet_nil ?_;refine zY (fuel:=2) (fuel':=3) (i:=21) rfl (by decide +kernel) rfl rfl (by rfl) ?_
 intro K hK;go_simp;refine (CLV.out _ HB8.out).mono ?_;rintro e w9 ⟨rfl,hb9⟩;have HB9:Hid (Below w4.heap.size w4 w9):=HB8.out.trans (hb9.mono HB8.out.size);clear hb9
 (try go_simp)
 refine hK.out _ _ ⟨⟨w9,HB9.out⟩,rfl⟩ ?_;clear hK K;refine Z7 (fuel:=0) (fuel':=2) (idx:=[22,23]) (by decide +kernel) rfl rfl rfl (fun _ _ _ _ _ h=>h) ⟨⟨w9,HB9.out⟩,rfl⟩ ?_
 show wpQuiet _ _ _ _ [_,_] _
 iterate 2 (go_big_quiet_step (fail))
 refine wpQuiet_nil ?_;refine yN (by decide +kernel) ?_
 have HBZ:Hid (Below w.heap.size w w9):=HB4.out.trans (HB9.out.mono HB4.out.size);clear x0 x1 x2 x3 x4 y0 y1 y2 y3 y4;go_wp2
 exact bodyPost_ret (v:=.bool true) (by simp [results,Tryz.results4,go_sem]) rfl ⟨rfl,HBZ.out⟩
end Go.Proofs.YtdgpapchkpnijaaGreatDoor
