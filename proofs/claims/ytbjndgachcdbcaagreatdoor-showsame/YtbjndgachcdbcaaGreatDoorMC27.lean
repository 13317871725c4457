import Derived.Test.YtbjndgachcdbcaaGreatDoorMC18
import Derived.Test.YtbjndgachcdbcaaGreatDoorShelf
import Derived.Test.YtbjndgachcdbcaaGreatDoorMC21
namespace Go.Proofs.YtbjndgachcdbcaaGreatDoor
open Go.RowKit Go.Shelf
set_option maxHeartbeats 16000000
set_option maxRecDepth 100000
def Z1 (s:List UInt8):Prop:=∀c∈s,c≠10
theorem ZK:∀(t cur:List UInt8),Z1 cur→∃rest,Z1 rest∧cur++t=zm (endsAt cur t)++rest∧∀s∈endsAt cur t,Z1 s
 | [],cur,h=>⟨cur,h,by simp [endsAt,zm],by simp [endsAt]⟩
 | c::t,cur,h=>by
  unfold endsAt
  by_cases hc:c=10
  ·rw [if_pos hc]
   obtain ⟨rest,q,e,o⟩:=ZK t [] (fun _ b=>by cases b)
   refine ⟨rest,q,?_,?_⟩
   ·rw [List.nil_append] at e
    rw [show zm (cur::endsAt [] t)=cur++[10]++zm (endsAt [] t) by simp [zm],hc]
    conv=>lhs;rw [e]
    simp
   ·intro s m
    rcases List.mem_cons.1 m with rfl | m
    ·exact h
    ·exact o s m
  ·rw [if_neg hc]
   obtain ⟨rest,q,e,o⟩:=ZK t (cur++[c]) (fun x b=>by
    rcases List.mem_append.1 b with b | b
    ·exact h x b
    ·rw [List.mem_singleton] at b;rw [b];exact hc)
   refine ⟨rest,q,?_,o⟩;rw [←e];simp
theorem ZD (a b:List (List UInt8)):zm (a++b)=zm a++zm b:=by simp [zm]
theorem yH (s:List UInt8):zm [s]=s++[10]:=by simp [zm]
theorem yp (l:List UInt8) (j:Nat) (h:j<l.length):(za l).data[j]! =l[j]:=by
 have e:(za l).data=l.toArray:=rfl;rw [e,getElem!_pos l.toArray j (by simpa using h)]
 simp
theorem VR (r:List UInt8) (h:Z1 r):Lib.lastIndexByte (za r) 10=-1:=by
 rcases Lib.lastIndexByte_spec (za r) 10 with ⟨e,_⟩ | ⟨i,o,_,m,_⟩
 ·exact e
 ·have b:i<r.length:=o
  rw [yp r i b] at m;have c:(r[i]).toNat=10:=by omega
  exact absurd (UInt8.toNat_inj.1 (c.trans rfl)) (h r[i] (List.getElem_mem b))
theorem VS (a r:List UInt8) (h:Z1 r):Lib.lastIndexByte (za (a++[10]++r)) 10=(a.length:Int):=by
 have y:(a++[10]++r).length=a.length+1+r.length:=by simp;omega
 have b:(a++[10]++r)[a.length]'(by omega)=10:=by simp
 rcases Lib.lastIndexByte_spec (za (a++[10]++r)) 10 with ⟨_,u⟩ | ⟨i,B,e,z,u⟩
 ·have:=u a.length (by show _<(a++[10]++r).length;omega)
  rw [yp _ a.length (by omega),b] at this
  exact absurd rfl this
 ·have o:i<(a++[10]++r).length:=B
  rw [e];rcases Nat.lt_trichotomy i a.length with m | c | A
  ·have:=u a.length m (by show _<(a++[10]++r).length;omega)
   rw [yp _ a.length (by omega),b] at this
   exact absurd rfl this
  ·rw [c]
  ·rw [yp _ i o,List.getElem_append_right (by simp;omega)] at z
   have q:(r[i-(a++[10]).length]'(by simp;omega)).toNat=10:=by omega
   exact absurd (UInt8.toNat_inj.1 (q.trans rfl)) (h _ (List.getElem_mem _))
def endB (ls:List (List UInt8)) (k:Nat):Nat:=(zm (ls.take k)).length
theorem XP (ls:List (List UInt8)) (r:List UInt8) (h:Z1 r):Lib.lastIndexByte (za (zm ls++r)) 10+1=((zm ls).length:Int):=by
 rcases List.eq_nil_or_concat ls with rfl | ⟨l,x,rfl⟩
 ·rw [show zm []++r=r from rfl,VR r h];rfl
 ·rw [List.concat_eq_append,ZD,yH,←List.append_assoc,VS _ r h]
  simp
  omega
theorem Yc {ls:List (List UInt8)} {k:Nat} (h:k<ls.length):zm (ls.take (k+1))=zm (ls.take k)++ls[k]++[10]:=by
 have e:ls.take k++[ls[k]]=ls.take (k+1):=List.take_append_getElem h;rw [←e,ZD,yH,List.append_assoc]
theorem Um {ls:List (List UInt8)} {k:Nat} (h:k<ls.length):endB ls k<endB ls (k+1):=by
 unfold endB;rw [Yc h];simp
theorem xF {ls:List (List UInt8)} {j k:Nat} (h:j<k) (hk:k≤ls.length):endB ls j<endB ls k:=by
 induction k with
 | zero=>omega
 | succ k ih =>
  have b:=Um (ls:=ls) (k:=k) (by omega)
  by_cases hj:j=k
  ·rw [hj];exact b
  ·have:=ih (by omega) (by omega);omega
theorem VT {ls:List (List UInt8)} {r out:List UInt8} (ho:out=zm ls++r) {k:Nat} (hk:k<ls.length):out.take (endB ls (k+1)-1)=zm (ls.take k)++ls[k]:=by
 have e:out=zm (ls.take k)++ls[k]++([10]++(zm (ls.drop (k+1))++r)):=by
  rw [ho]
  conv=>lhs;rw [←List.take_append_drop (k+1) ls]
  rw [ZD,Yc hk];simp
 have b:endB ls (k+1)-1=(zm (ls.take k)++ls[k]).length:=by unfold endB;rw [Yc hk];simp
 rw [b,e,List.take_left]
def zw:List (List UInt8)→List UInt8
 | []=>[]
 | [x]=>x
 | x::y::t=>x++[10]++zw (y::t)
theorem yI:∀(l:List (List UInt8)),l≠[]→zm l=zw l++[10]
 | [],h=>absurd rfl h
 | [x],_=>yH x
 | x::y::t,_=>by
  have b:=yI (y::t) (by simp)
  rw [show zm (x::y::t)=(x++[10])++zm (y::t) from rfl,b];simp [zw]
theorem xG (x r:List UInt8) (h:Z1 x):Lib.index (x++[10]++r) [10]=(x.length:Int):=by
 refine Lib.index_first (i:=x.length) (by simp) ?_ ?_
 ·unfold Lib.occAt;simp
 ·intro j b
  unfold Lib.occAt
  have c:(x++[10]++r).drop j=x[j]::(x++[10]++r).drop (j+1):=by
   rw [List.drop_eq_getElem_cons (by simp;omega)]
   congr 1
   rw [List.getElem_append_left (by simp;omega),List.getElem_append_left b]
  rw [c];simp only [List.isPrefixOf]
  have:=h x[j] (List.getElem_mem b)
  simp [Ne.symm this]
theorem XQ (x:List UInt8) (h:Z1 x):Lib.index x [10]=-1:=by
 refine Lib.index_none fun j hj=>?_
 unfold Lib.occAt
 by_cases hl:j<x.length
 ·rw [List.drop_eq_getElem_cons hl]
  have:=h x[j] (List.getElem_mem hl)
  simp only [List.isPrefixOf]
  simp [Ne.symm this]
 ·rw [List.drop_eq_nil_of_le (by omega)];rfl
theorem Y5:∀(l:List (List UInt8)) (k:Nat),l.length=k+1→(∀s∈l,Z1 s)→Lib.splitK [10] 0 k (zw l)=l
 | [],_,h,_=>by simp at h
 | [x],0,_,_=>rfl
 | [x],k+1,h,_=>by simp at h
 | x::y::t,0,h,_=>by simp at h
 | x::y::t,k+1,h,hn=>by
  have m:=Y5 (y::t) k (by simpa using h) fun s hs=>hn s (by simp [hs])
  have b:=xG x (zw (y::t)) (hn x (by simp))
  rw [show zw (x::y::t)=x++[10]++zw (y::t) from rfl]
  unfold Lib.splitK
  rw [if_neg (by rw [b,beq_iff_eq];omega),b]
  have e:(x++[10]++zw (y::t)).take ((x.length:Int).toNat+0)=x:=by
   rw [List.append_assoc];simp
  have c:(x++[10]++zw (y::t)).drop ((x.length:Int).toNat+[(10:UInt8)].length)=zw (y::t):=by
   have:(x.length:Int).toNat+[(10:UInt8)].length=(x++[10]).length:=by simp
   rw [this,List.drop_left]
  rw [e,c,m]
theorem Y6:∀(l:List (List UInt8)),l≠[]→(∀s∈l,Z1 s)→Lib.count (zw l) [10]+1=l.length
 | [],h,_=>absurd rfl h
 | [x],_,hn=>by
  rw [show zw [x]=x from rfl,Lib.count_miss (XQ x (hn x (by simp)))];rfl
 | x::y::t,_,hn=>by
  have c:=Y6 (y::t) (by simp) fun s hs=>hn s (by simp [hs])
  have e:=xG x (zw (y::t)) (hn x (by simp))
  rw [show zw (x::y::t)=x++[10]++zw (y::t) from rfl,Lib.count_hit (by simp) e]
  have b:(x++[10]++zw (y::t)).drop (x.length+[(10:UInt8)].length)=zw (y::t):=by
   have:x.length+[(10:UInt8)].length=(x++[10]).length:=by simp
   rw [this,List.drop_left]
  rw [b];simp only [List.length_cons] at c ⊢;omega
theorem XR (l:List (List UInt8)) (h:l≠[]) (hn:∀s∈l,Z1 s):Lib.splitB (za [10]) 0 (Lib.countB (za (zw l)) (za [10])) (za (zw l))=l.map za∧Lib.countB (za (zw l)) (za [10])+1=l.length:=by
 have b:Lib.countB (za (zw l)) (za [10])+1=l.length:=Y6 l h hn;obtain ⟨k,o⟩:∃k,k=Lib.countB (za (zw l)) (za [10]):=⟨_,rfl⟩;rw [←o] at b ⊢;refine ⟨?_,b⟩;have c:=Lib.splitB_data (za [10]) 0 k (za (zw l));have e:(za (zw l)).data.toList=zw l:=rfl;have q:(za [10]).data.toList=[10]:=rfl;rw [e,q,Y5 l k b.symm hn] at c
 have u:∀(m:List ByteArray),(m.map (·.data.toList)).map za=m:=by
  intro m
  induction m with
  | nil=>rfl
  | cons a t ih =>
   simp only [List.map_cons,List.cons.injEq];exact ⟨trivial,ih⟩
 rw [←u (Lib.splitB (za [10]) 0 k (za (zw l))),c]
theorem xl (out:List UInt8) (w:World) (hl:out.length≤1048576) (ht:Yz w) :
  Calls Tryz.prog 27 #[.string (za out)] w fun e z=>∃v,e=.returned v∧zo w.heap.size w z v (Y1 out):=by
 obtain ⟨rest,hr,B,T⟩:=ZK out [] (fun _ h=>by cases h)
 rw [List.nil_append] at B;obtain ⟨ls,D⟩:∃ls,ls=endsAt [] out:=⟨_,rfl⟩;rw [←D] at B T;have hR:Y1 out=ls.drop (ls.length-4):=by unfold Y1;rw [←D];rfl
 rw [hR];obtain ⟨ml,V⟩:=ht.long;have ag:(za out).size=out.length:=rfl;have y:ls.take ls.length=ls:=List.take_length;have hE:endB ls ls.length=(zm ls).length:=by unfold endB;rw [y]
 have U:endB ls ls.length≤out.length:=by rw [hE,B];simp
 have o:∀k,k≤ls.length→endB ls k≤endB ls ls.length:=fun k hk=>by
  by_cases h:k=ls.length
  ·rw [h];exact Nat.le_refl _
  ·exact Nat.le_of_lt (xF (by omega) (Nat.le_refl _))
 have Z:Calls Tryz.prog 40 #[.string (za out),.int .u8 10] w fun e z=>e=.returned (.int .i64 ((endB ls ls.length:Int)-1))∧z=w:=by
  have h:=Tryz.strings_LastIndexByte (za out) 10 (by rw [ag];omega) w
  have e:=XP ls rest hr;rw [←B,←hE] at e;rw [show ((endB ls ls.length:Int)-1)=Lib.lastIndexByte (za out) 10 by omega]
  exact h
 have C2:Hid (∀k,k<ls.length→Calls Tryz.prog 40 #[.string (za (out.take (endB ls (k+1)-1))),.int .u8 10] w fun e z=>e=.returned (.int .i64 ((endB ls k:Int)-1))∧z=w):=fun k hk=>by
  have h:=Tryz.strings_LastIndexByte (za (out.take (endB ls (k+1)-1))) 10 (by show (out.take _).length<_;rw [List.length_take];omega) w
  have e:=XP (ls.take k) ls[k] (T _ (List.getElem_mem hk));rw [←VT B hk] at e;rw [show ((endB ls k:Int)-1)=Lib.lastIndexByte (za (out.take (endB ls (k+1)-1))) 10 by unfold endB at e ⊢;omega]
  exact h
 have m:Hid (∀j k,j<k→k≤ls.length→endB ls j<endB ls k):=fun j k h hk=>xF h hk
 have b:Hid (∀k,k≤ls.length→endB ls k≤endB ls ls.length):=o;have HO:Hid (out=zm ls++rest):=B;have HN:Hid (∀s∈ls,Z1 s):=T;have K:endB ls 0=0:=rfl
 have C3:Hid (ls≠[]→Calls Tryz.prog 41 #[.string (za ((out.take (endB ls ls.length-1)).drop (endB ls (ls.length-4)))),.string ⟨#[10]⟩] w fun e z=>∃v,e=.returned v∧zo w.heap.size w z v (ls.drop (ls.length-4))):=fun u=>by
  have O:0<ls.length:=List.length_pos_iff.2 u;obtain ⟨M,R⟩:∃M,M=ls.drop (ls.length-4):=⟨_,rfl⟩;have c:M≠[]:=by rw [R];intro e;have:=congrArg List.length e;rw [List.length_drop] at this;simp at this;omega
  have ad:∀s∈M,Z1 s:=fun s hs=>T s (by rw [R] at hs;exact List.mem_of_mem_drop hs)
  obtain ⟨I,h2⟩:=XR M c ad
  have hcut:(out.take (endB ls ls.length-1)).drop (endB ls (ls.length-4))=zw M:=by
   have e1:out=zm (ls.take (ls.length-4))++zw M++([10]++rest):=by
    rw [B]
    conv=>lhs;rw [←List.take_append_drop (ls.length-4) ls]
    rw [ZD,←R,yI M c];simp
   have e2:endB ls ls.length-1=(zm (ls.take (ls.length-4))++zw M).length:=by
    rw [hE]
    conv=>lhs;rw [←List.take_append_drop (ls.length-4) ls]
    rw [ZD,←R,yI M c];simp
   rw [e2]
   conv=>lhs;rw [e1]
   rw [List.take_left,show endB ls (ls.length-4)=(zm (ls.take (ls.length-4))).length from rfl,List.drop_left]
  rw [hcut,←R]
  have al:(za (zw M)).size≤1048576:=by
   show (zw M).length≤_
   rw [←hcut,List.length_drop,List.length_take];omega
  have X:M.length≤maxLen:=by
   have:M.length≤(za (zw M)).size+1:=by have:=Lib.countB_le (za [10]) (by decide) _ (za (zw M)) (Nat.le_refl _);omega
   unfold maxLen;omega
  refine (Tryz.strings_Split (za (zw M)) (za [10]) ml w (by omega) V (by decide)).mono ?_
  rintro e z ⟨he,hw⟩;rw [h2] at he;rw [I] at hw;refine ⟨_,he,?_⟩;have e3:(M.map za).map Value.string=strC M:=by unfold strC;rw [List.map_map];rfl
  rw [hw,e3];exact zo.lit w.heap.size w w M (Below.refl _ _) (Nat.le_refl _) X
 obtain ⟨n,H⟩:∃n,n=ls.length:=⟨_,rfl⟩;have u:n≠0→ls≠[]:=fun h e=>h (by rw [H,e];rfl)
 have A:n=0→ls=[]:=fun h=>List.length_eq_zero_iff.1 (by omega)
 rw [←H] at Z U b C2 C3 m ⊢;obtain ⟨E,G⟩:∃E,E=endB ls n:=⟨_,rfl⟩;rw [←G] at Z U;have q:Hid (E=endB ls n):=G;have HT:Hid (zo w.heap.size w w (.slice none 0 0) []):=zo.nil _ _ _ (Below.refl _ _) (Nat.le_refl _);have J:Hid ((n≠0→ls≠[])∧(n=0→ls=[])):=⟨u,A⟩;clear ht V y hE o B T hr hR D H u A G
 go_enter Tryz.func27,Tryz.ntmps27
 go_wp2_with fail
 refine Z.mono ?_;clear Z;rintro e w1 ⟨rfl,rfl⟩;go_wp2
 go_loopw [4,9] (fun vf vi wr=>∃i:Nat,i≤4∧vi=.int .i64 (i:Int)∧vf=.int .i64 ((endB ls (n-i):Nat):Int)∧wr=w1) (fun _ vi _=>4-(intOf vi).toNat)
 case atStart=>exact ⟨0,by omega,rfl,by rw [q.out];simp,rfl⟩
 case round =>
  obtain ⟨i,hi,rfl,rfl,rfl⟩:=hrel
  by_cases hlt:i<4
  ·have ae:(i:Int)<4:=by omega
   by_cases hk:i<n
   ·obtain ⟨k,aa⟩:∃k,n-i=k+1:=⟨n-i-1,by omega⟩
    have I:=m.out 0 (k+1) (by omega) (by omega)
    have h2:=b.out (k+1) (by omega)
    rw [←q.out] at h2;have h3:=b.out k (by omega)
    rw [←q.out] at h3;have c2:=C2.out k (by omega)
    have ai:n-(i+1)=k:=by omega
    rw [aa];obtain ⟨F,Y⟩:∃F,F=endB ls (k+1):=⟨_,rfl⟩;rw [←Y] at I h2 c2 ⊢;have O:(0:Int)<(F:Int):=by omega
    have ab:∀W:World,(Instr.slice 9 (.string (za out)) none (some (.int .i64 ((F:Int)-1))) none).run Tryz.prog W=.ok (.string (za (out.take (F-1)))) W:=fun W=>by
     have:=vg W out (F-1) (by omega)
     rw [show ((F-1:Nat):Int)=(F:Int)-1 by omega] at this
     exact this
    clear Y;go_wp2_with fail
    refine c2.mono ?_;clear c2;rintro e w2 ⟨rfl,rfl⟩;go_wp2
    exact ⟨⟨i+1,by omega,by go_num,by rw [ai],trivial⟩,by simp [intOf];omega⟩
   ·have e0:n-i=0:=by omega
    have e1:n-(i+1)=0:=by omega
    rw [e0,K];go_wp2
    exact ⟨⟨i+1,by omega,by go_num,by rw [e1,K],trivial⟩,by simp [intOf];omega⟩
  ·have ae:¬ (i:Int)<4:=by omega
   obtain rfl:i=4:=by omega
   by_cases h0:n=0
   ·have af:Hid (ls=[]):=J.out.2 h0
    subst h0;have hb:((endB ls (0-4):Nat):Int)=(E:Int):=by rw [q.out]
    rw [hb];go_wp2
    go_ret
    refine ⟨_,rfl,?_⟩;rw [af.out];exact HT.out
   ·have I:=m.out (n-4) n (by omega) (Nat.le_refl _)
    have c3:=C3.out (J.out.1 h0);rw [←q.out] at I c3;obtain ⟨F,Y⟩:∃F,F=endB ls (n-4):=⟨_,rfl⟩;rw [←Y] at I c3 ⊢;have ak:((F:Int)==(E:Int))=false:=by rw [beq_eq_false_iff_ne];omega
    have aj:¬ (F:Int)=(E:Int):=by omega
    have ab:∀W:World,(Instr.slice 9 (.string (za out)) (some (.int .i64 (F:Int))) (some (.int .i64 ((E:Int)-1))) none).run Tryz.prog W=.ok (.string (za ((out.take (E-1)).drop F))) W:=fun W=>by
     have:=uT W out F (E-1-F) (by omega)
     rw [show (F:Int)+((E-1-F:Nat):Int)=(E:Int)-1 by omega] at this
     rw [List.drop_take];exact this
    clear Y;go_wp2_with fail
    refine c3.mono ?_;clear c3;rintro e w2 ⟨v,rfl,hj⟩;have ah:Hid _:=hj;clear hj;go_wp2
    go_ret
    exact ⟨_,rfl,ah.out⟩
end Go.Proofs.YtbjndgachcdbcaaGreatDoor
