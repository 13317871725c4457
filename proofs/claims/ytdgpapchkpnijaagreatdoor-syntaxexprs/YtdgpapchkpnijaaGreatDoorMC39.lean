import Derived.Test.YtdgpapchkpnijaaGreatDoorMC38
import Derived.Test.YtdgpapchkpnijaaGreatDoorMC14
import Derived.Test.YtdgpapchkpnijaaGreatDoorMC6
import Derived.BigQuiet
namespace Go.Proofs.YtdgpapchkpnijaaGreatDoor
open Go.RowKit Go.Shelf
set_option maxHeartbeats 16000000
set_option maxRecDepth 100000
theorem zbi (u:Nat):∀c∈Lib.decDigits u,z6 c.toNat=true:=by
 induction u using Nat.strongRecOn with
 | _ u ih =>
  have key:∀d:Nat,d<10→z6 (UInt8.ofNat (48+d)).toNat=true:=by decide
  intro c hc;rw [Lib.decDigits] at hc
  by_cases h:u<10
  ·rw [dif_pos h,List.mem_singleton] at hc
   rw [hc];exact key u h
  ·rw [dif_neg h,List.mem_append,List.mem_singleton] at hc
   rcases hc with hc | hc
   ·exact ih (u / 10) (by omega) c hc
   ·rw [hc];exact key (u % 10) (by omega)
theorem zeS (u:Nat):Lib.decDigits u≠[]:=by
 intro h
 have:=congrArg List.length h
 rw [Lib.decDigits_length,List.length_nil] at this
 have:=Lib.nDigits_pos u
 omega
theorem zd4 (u:Nat):valA 0 (Lib.decDigits u)=u:=by
 induction u using Nat.strongRecOn with
 | _ u ih =>
  have key:∀d:Nat,d<10→(UInt8.ofNat (48+d)).toNat-48=d:=by decide
  rw [Lib.decDigits]
  by_cases h:u<10
  ·rw [dif_pos h]
   show 0*10+((UInt8.ofNat (48+u)).toNat-48)=u
   rw [key u h];omega
  ·rw [dif_neg h,Vn,ih (u / 10) (by omega),key (u % 10) (by omega)]
   omega
theorem zcZ (u:Nat) (t:List UInt8) (ht:∀x∈t.head?,z6 x.toNat=false):digL (Lib.decDigits u++t)=Lib.decDigits u:=by
 unfold digL
 rw [XW t _ (by rw [YN _ (zbi u)])]
 cases t with
 | nil=>simp
 | cons x t=>rw [List.takeWhile_cons_of_neg (by rw [ht x rfl];simp),List.append_nil]
theorem zc0 (u:Nat) (hu:u<9223372036854775808) (t:List UInt8) (ht:∀x∈t.head?,z6 x.toNat=false):zR (Lib.decDigits u++t)=⟨2,[],u,(Lib.decDigits u).length,0⟩:=by
 obtain ⟨x,r,hxr⟩:∃x r,Lib.decDigits u=x::r:=by
  cases h:Lib.decDigits u with
  | nil=>exact absurd h (zeS u)
  | cons x r=>exact ⟨x,r,rfl⟩
 have hx:z6 x.toNat=true:=zbi u x (by rw [hxr];exact List.mem_cons_self ..)
 have hl:Zg x.toNat=false:=by
  unfold z6 at hx
  rw [Bool.and_eq_true,decide_eq_true_eq,decide_eq_true_eq] at hx
  unfold Zg
  rw [Bool.or_eq_false_iff,Bool.or_eq_false_iff];refine ⟨⟨by rw [beq_eq_false_iff_ne];omega,?_⟩,?_⟩ <;> (rw [Bool.and_eq_false_iff,decide_eq_false_iff_not,decide_eq_false_iff_not];omega)
 have hd:=zcZ u t ht
 have h1:zR (Lib.decDigits u++t)=Yr (Lib.decDigits u++t):=by
  rw [hxr,List.cons_append]
  unfold zR
  simp only;rw [if_neg (by rw [hl];simp),if_pos hx]
 rw [h1]
 unfold Yr
 rw [hd,zd4,if_pos hu]
theorem Qx:∀(f:Nat) (meant:List UInt8) (at0:Nat) (r:List UInt8),(zT f meant at0 r).e=0→(zT f meant at0 r).k=3
 | 0,_,_,_,h=>by simp [zT] at h
 | _+1,_,_,[],h=>by simp [zT] at h
 | f+1,meant,at0,x::r,h=>by
  unfold zT at h ⊢
  by_cases h1:x.toNat=34
  ·rw [if_pos h1]
  ·rw [if_neg h1] at h ⊢
   by_cases h2:(xP (x::r)).2=0
   ·rw [if_pos h2] at h;simp at h
   ·rw [if_neg h2] at h ⊢
    by_cases h3:meant.length=255
    ·rw [if_pos h3] at h;simp at h
    ·rw [if_neg h3] at h ⊢
     exact Qx f _ _ _ h
def X5 (s:List UInt8):Bool:=match s with | []=>false | x::r=>Zg x.toNat&&r.all (fun c=>yz c.toNat)&&!ym s&&decide (s.length≤20)
theorem UO {s:List UInt8} (h:s.all (fun c=>yz c.toNat)=true):ZY s=s:=YN s (fun x hx=>List.all_eq_true.1 h x hx)
theorem qp {s:List UInt8} (h:ZY s=s):s.all (fun c=>yz c.toNat)=true:=by
 rw [List.all_eq_true];intro x hx;exact XM (p:=fun c=>yz c.toNat) s x (by rw [←h] at hx;exact hx)
theorem Qy:∀x∈wordsL,∃c r,x=c::r∧Zg c.toNat=true∧x.all (fun c=>yz c.toNat)=true:=by
 intro x hx;have h1:∀x∈wordsL,x≠[]:=by decide
 have h2:∀x∈wordsL,x.all (fun c=>yz c.toNat)=true:=by decide
 have h3:∀x∈wordsL,Zg (x.headD 0).toNat=true:=by decide
 cases x with
 | nil=>exact absurd rfl (h1 _ hx)
 | cons c r=>exact ⟨c,r,rfl,h3 _ hx,h2 _ hx⟩
theorem zbZ:∀x∈signsL,∃c r,x=c::r∧Zg c.toNat=false∧z6 c.toNat=false∧c.toNat≠34∧zX c.toNat=false:=by
 intro x hx;have h1:∀x∈signsL,x≠[]:=by decide
 have h3:∀x∈signsL,Zg (x.headD 0).toNat=false∧z6 (x.headD 0).toNat=false∧(x.headD 0).toNat≠34∧zX (x.headD 0).toNat=false:=by decide
 cases x with
 | nil=>exact absurd rfl (h1 _ hx)
 | cons c r=>exact ⟨c,r,rfl,h3 _ hx⟩
theorem YJ {x:UInt8} {r:List UInt8} (h:Zg x.toNat=true):zR (x::r)=Z4 (x::r):=by
 unfold zR;simp only;rw [if_pos h]
theorem vC {x:UInt8} {r:List UInt8} (h:Zg x.toNat=false) (h2:z6 x.toNat=true):zR (x::r)=Yr (x::r):=by
 unfold zR;simp only;rw [if_neg (by rw [h];simp),if_pos h2]
theorem Vv {x:UInt8} {r:List UInt8} (h:Zg x.toNat=false) (h2:z6 x.toNat=false) (h3:x.toNat=34):zR (x::r)=Zm (x::r):=by
 unfold zR;simp only;rw [if_neg (by rw [h];simp),if_neg (by rw [h2];simp),if_pos h3]
theorem xX {x:UInt8} {r:List UInt8} (h:Zg x.toNat=false) (h2:z6 x.toNat=false) (h3:x.toNat≠34):zR (x::r)=yH (x::r):=by
 unfold zR;simp only;rw [if_neg (by rw [h];simp),if_neg (by rw [h2];simp),if_neg h3]
theorem zb0:∀x∈signsL,bestS x 25=x:=by decide +kernel
theorem zaE (t:List UInt8):(zR (45::t)).e=0→(zR (45::t)).k=4:=by
 have h1:zR (45::t)=yH (45::t):=xX (by decide) (by decide) (by decide)
 rw [h1]
 unfold yH
 split
 ·intro h;simp at h
 ·intro _;rfl
theorem zc1 {x:List UInt8} (hx:x∈signsL):zR x=⟨4,x,0,x.length,0⟩:=by
 obtain ⟨c,r,rfl,h1,h2,h3,-⟩:=zbZ x hx;rw [xX h1 h2 h3]
 unfold yH
 rw [zb0 _ hx,if_neg (by simp)]
theorem zfz {x:List UInt8} (hx:ym x=true):zR x=⟨5,x,0,x.length,0⟩:=by
 obtain ⟨c,r,rfl,h1,h2⟩:=Qy x (by unfold ym at hx;exact List.contains_iff_mem.1 hx)
 rw [YJ h1]
 unfold Z4
 rw [UO h2,if_pos hx]
theorem zd5 {x:List UInt8} (hx:X5 x=true):zR x=⟨1,x,0,x.length,0⟩:=by
 cases x with
 | nil=>simp [X5] at hx
 | cons c r =>
  unfold X5 at hx
  simp only at hx;rw [Bool.and_eq_true,Bool.and_eq_true,Bool.and_eq_true,decide_eq_true_eq] at hx;obtain ⟨⟨⟨h1,h2⟩,h3⟩,h4⟩:=hx;have h5:(c::r).all (fun c=>yz c.toNat)=true:=by rw [List.all_cons,h2,Bool.and_true];simp [yz,h1]
  rw [YJ h1]
  unfold Z4
  rw [UO h5,if_neg (by intro e;rw [e] at h3;cases h3),if_neg (by omega)]
theorem xi {k n:Int} {s:List UInt8} (h2:k≠2) (h3:k≠3):YS k n s↔(k=0∧s=[]∧n=0)∨(k=1∧X5 s=true∧n=0)∨(k=4∧s∈signsL∧n=0)∨(k=5∧ym s=true∧n=0):=by
 have hw:vq k n s=s:=by unfold vq;rw [if_neg h2,if_neg h3]
 unfold YS
 rw [hw]
 constructor
 ·rintro ⟨he,hk,hs,hn⟩
  cases s with
  | nil=>exact .inl ⟨hk.symm,rfl,hn.symm⟩
  | cons x r =>
   right
   cases h1:Zg x.toNat with
   | true =>
    rw [YJ h1] at he hk hs hn
    unfold Z4 at he hk hs hn
    by_cases hq:ym (ZY (x::r))=true
    ·rw [if_pos hq] at he hk hs hn
     simp only at he hk hs hn;rw [hs] at hq;exact .inr (.inr ⟨hk.symm,hq,hn.symm⟩)
    ·rw [if_neg hq] at he hk hs hn
     by_cases h20:20<(ZY (x::r)).length
     ·rw [if_pos h20] at he;simp at he
     ·rw [if_neg h20] at he hk hs hn
      simp only at he hk hs hn;have hall:=qp hs;rw [hs] at hq h20;refine .inl ⟨hk.symm,?_,hn.symm⟩
      unfold X5
      simp only;rw [List.all_cons,Bool.and_eq_true] at hall;rw [h1,hall.2,decide_eq_true (by omega)]
      simp [hq]
   | false =>
    cases h4:z6 x.toNat with
    | true =>
     rw [vC h1 h4] at he hk hs hn
     unfold Yr at he hk hs hn
     split at hs
     ·simp at hs
     ·simp at hs
    | false =>
     by_cases h34:x.toNat=34
     ·rw [Vv h1 h4 h34] at he hk
      have:=(Qx _ _ _ _ he)
      unfold Zm at hk
      rw [this] at hk;exact absurd hk.symm h3
     ·rw [xX h1 h4 h34] at he hk hs hn
      unfold yH at he hk hs hn
      by_cases hb:bestS (x::r) 25=[]
      ·rw [if_pos hb] at he;simp at he
      ·rw [if_neg hb] at hk hs hn
       simp only at hk hs hn;rcases (vU (x::r)).2 with h9 | ⟨h9,-⟩
       ·exact absurd h9 hb
       ·rw [hs] at h9
        exact .inr (.inl ⟨hk.symm,h9,hn.symm⟩)
 ·rintro (⟨rfl,rfl,rfl⟩ | ⟨rfl,h,rfl⟩ | ⟨rfl,h,rfl⟩ | ⟨rfl,h,rfl⟩)
  ·exact ⟨rfl,rfl,rfl,rfl⟩
  ·rw [zd5 h];exact ⟨rfl,rfl,rfl,rfl⟩
  ·rw [zc1 h];exact ⟨rfl,rfl,rfl,rfl⟩
  ·rw [zfz h];exact ⟨rfl,rfl,rfl,rfl⟩
theorem zc2 {n:Int} {s:List UInt8} (hn1:n≤9223372036854775807):YS 2 n s↔s=[]∧0≤n:=by
 unfold YS
 have hw:vq 2 n s=Lib.itoa n:=rfl;rw [hw]
 unfold Lib.itoa
 by_cases h:n<0
 ·rw [if_pos h]
  constructor
  ·rintro ⟨he,hk,-,-⟩
   have:=zaE _ he
   rw [this] at hk;cases hk
  ·rintro ⟨-,h9⟩;omega
 ·rw [if_neg h]
  have ht:=zc0 n.toNat (by omega) [] (fun x hx=>by simp at hx)
  rw [List.append_nil] at ht;rw [ht]
  constructor
  ·rintro ⟨-,-,hs,-⟩;exact ⟨hs.symm,by omega⟩
  ·rintro ⟨rfl,h9⟩
   refine ⟨rfl,rfl,rfl,?_⟩;show ((n.toNat:Nat):Int)=n
   omega
theorem zb1 {n:Int} {s:List UInt8}:YS 3 n s↔Xh s=true∧n=0:=by
 unfold YS
 have hw:vq 3 n s=yq s:=rfl;rw [hw];cases hp:Xh s with
 | false =>
  constructor
  ·rintro ⟨he,-⟩;exact absurd he (uk s hp)
  ·rintro ⟨h,-⟩;cases h
 | true =>
  have ht:=uj s [] hp;rw [List.append_nil] at ht;rw [ht]
  constructor
  ·rintro ⟨-,-,-,hn⟩;exact ⟨rfl,hn.symm⟩
  ·rintro ⟨-,rfl⟩;exact ⟨rfl,rfl,rfl,rfl⟩
def rgK (k:Int) (s:List UInt8) (n:Int) (m:Nat):Bool :=
 if k=1 then decide (0≤n)&&s==[]&&m==0
 else if k=2 then (n==0||n==1)&&s==[]&&m==0
 else if k=3 then Xh s&&n==0&&m==0
 else if k=4 then X5 s&&n==0&&m==0
 else if k=5 then X5 s&&n==0
 else if k=11 then X5 s&&n==0
 else if k=6 then (s==[45]||s==[33])&&n==0&&m==1
 else if k=7 then decide (0<levelOf s)&&n==0&&m==2
 else if k=8 then s==[]&&n==0&&m==2
 else if k=9 then X5 s&&n==0&&m==1
 else if k=10 then s==[]&&n==0&&decide (0<m)
 else false
mutual
def rgE:Ez→Bool
 | .mk k s n kids _=>rgL kids&&rgK k s n kids.length
def rgL:List Ez→Bool
 | []=>true
 | x::xs=>rgE x&&rgL xs
end
mutual
def dpE:Ez→Nat
 | .mk _ _ _ kids _=>uW kids+1
def uW:List Ez→Nat
 | []=>0
 | x::xs=>max (dpE x) (uW xs)
end
def zbj:List (List UInt8)→List UInt8
 | []=>[]
 | [t]=>t
 | t::u::r=>t++[44,32]++zbj (u::r)
def vX (x:Ez) (least:Nat) (t:List UInt8):List UInt8:=if lvE x<least then [40]++t++[41] else t
def txK (k:Int) (s:List UInt8) (n:Int) (kids:List Ez) (ts:List (List UInt8)):List UInt8 :=
 if k=1 then Lib.decDigits n.toNat
 else if k=2 then (if n=1 then [116,114,117,101] else [102,97,108,115,101])
 else if k=3 then yq s
 else if k=4 then s
 else if k=5 then s++[40]++zbj ts++[41]
 else if k=6 then (match kids,ts with
  | a::_,t::_=>s++vX a 7 t
  | _,_=>[])
 else if k=7 then (match kids,ts with
  | a::b::_,t::u::_=>vX a (levelOf s) t++[32]++s++[32]++vX b (levelOf s+1) u
  | _,_=>[])
 else if k=8 then (match kids,ts with
  | a::_,t::u::_=>vX a 8 t++[91]++u++[93]
  | _,_=>[])
 else if k=9 then (match kids,ts with
  | a::_,t::_=>vX a 8 t++[46]++s
  | _,_=>[])
 else if k=10 then [91]++zbj ts++[93]
 else [110,101,119,32]++s++[40]++zbj ts++[41]
mutual
def txE:Ez→List UInt8
 | .mk k s n kids _=>txK k s n kids (txL kids)
def txL:List Ez→List (List UInt8)
 | []=>[]
 | x::xs=>txE x::txL xs
end
theorem V3 {l:List Ez} {d:Nat}:uW l≤d↔∀y∈l,dpE y≤d:=by
 induction l with
 | nil=>simp [uW]
 | cons x xs ih=>rw [uW,List.forall_mem_cons,←ih];omega
mutual
def nbE:Ez→Bool
 | .mk _ _ n kids _=>decide (n≤9223372036854775807)&&nbL kids
def nbL:List Ez→Bool
 | []=>true
 | x::xs=>nbE x&&nbL xs
end
theorem zc3 (l:List Ez):∀i y,l[i]?=some y→uW (l.take (i+1))=max (uW (l.take i)) (dpE y):=by
 induction l with
 | nil=>intro i y h;simp at h
 | cons x xs ih =>
  intro i y h;cases i with
  | zero =>
   simp only [List.getElem?_cons_zero,Option.some.injEq] at h;subst h
   simp [uW]
  | succ i =>
   have:=ih i y (by simpa using h)
   rw [List.take_succ_cons,List.take_succ_cons,uW,uW,this,Nat.max_assoc]
theorem ux {k:Int} {s:List UInt8} {n:Int} {kids:List Ez} {line:Int} {N i:Nat} {y:Ez} (h:dpE (.mk k s n kids line)≤N+1) (hy:kids[i]?=some y):dpE y≤N:=by
 rw [dpE] at h;exact (V3 (d:=N)).1 (by omega) y (List.mem_of_getElem? hy)
theorem Qz (l:List Ez) (i:Nat):uW (l.take i)≤uW l:=by
 refine V3.2 fun y hy=>V3.1 (Nat.le_refl _) y (List.mem_of_mem_take hy)
theorem uy:∀(N:Nat) (x:Ez) (v:Value) (w:World),N≤4611686018427387904→dpE x≤N→Zs w.heap.size w x v →
  Calls Tryz.prog 39 #[v] w fun e w'=>e=.returned (.int .i64 (dpE x:Int))∧Below w.heap.size w w'
 | 0,.mk k s n kids line,v,w,_,hd,_=>by rw [dpE] at hd;omega
 | N+1,.mk k s n kids line,v,w,hN,hd,hx=>by
  obtain ⟨base,cap,rfl,hc,hmx,hs,hn0,hn1,hkid⟩:=hx.kid;obtain ⟨m,hm⟩:∃m,m=kids.length:=⟨_,rfl⟩;rw [←hm] at hc ⊢;have hlen:m≤9223372036854775807:=by unfold maxLen at hmx;omega
  obtain ⟨R,hR⟩:∃R,R=dpE (.mk k s n kids line):=⟨_,rfl⟩;rw [←hR];have HR:Hid (R=uW kids+1):=hR;have hRN:uW kids≤N:=by rw [dpE] at hd;omega
  obtain ⟨w1,hw1⟩:∃w1,w1=w.alloc (yV k s n base m cap line):=⟨_,rfl⟩;have hb1:Below w.heap.size w w1:=by rw [hw1];exact (Below.refl _ w).alloc (Nat.le_refl _) _
  have p1:w1.heap[w.heap.size]?=some (yV k s n base m cap line):=by rw [hw1];exact World.alloc_heap_new w _
  have hsz1:w1.heap.size=w.heap.size+1:=by rw [hw1];simp
  have HK:Hid (∀i y,kids[i]?=some y→∀W,Below w1.heap.size w1 W→∃b o a1 a2 a3 a4 a5 a6 a7,base=some ⟨b,o,none⟩∧W.cell? ⟨b,o+i*5,none⟩=some (.int .i64 a1)∧W.cell? ⟨b,o+i*5+1,none⟩=some (.string (za a2))∧W.cell? ⟨b,o+i*5+2,none⟩=some (.int .i64 a3)∧W.cell? ⟨b,o+i*5+3,none⟩=some (.slice a4 a5 a6)∧W.cell? ⟨b,o+i*5+4,none⟩=some (.int .i64 a7) ∧
    Calls Tryz.prog 39 #[yv a1 a2 a3 a4 a5 a6 a7] W fun e w'=>e=.returned (.int .i64 (dpE y:Int))∧Below W.heap.size W w'):=fun i y hy W hW=>by
   obtain ⟨b,o,a1,a2,a3,a4,a5,a6,a7,e,hb,hlt,hxy,m0,m1,m2,m3,m4⟩:=hkid i y hy;have hbW:Below w.heap.size w W:=zu hb1 hW;have hz:w.heap.size≤W.heap.size:=hbW.size
   exact ⟨b,o,a1,a2,a3,a4,a5,a6,a7,e,(hbW.cell (p:=⟨b,o+i*5,none⟩) hlt).trans m0,(hbW.cell (p:=⟨b,o+i*5+1,none⟩) hlt).trans m1,(hbW.cell (p:=⟨b,o+i*5+2,none⟩) hlt).trans m2,(hbW.cell (p:=⟨b,o+i*5+3,none⟩) hlt).trans m3,(hbW.cell (p:=⟨b,o+i*5+4,none⟩) hlt).trans m4,
    uy N y _ W (by omega) (ux hd hy) ((hxy.kept hbW).wide hz)⟩
  have HP1:Hid (w1.heap[w.heap.size]?=some (yV k s n base m cap line)):=p1;have HB1:Hid (Below w.heap.size w w1):=hb1;have HM:Hid (m=kids.length):=hm;have HN:Hid (uW kids≤N):=hRN;obtain ⟨c0,c1,c2,c3,c4⟩:=zE p1;have hw1':=hw1.symm;clear hx hkid hR hb1 p1 hw1 hm hd hc hmx hRN
  go_enter Tryz.func39,Tryz.ntmps39
  go_wp2_with fail
  go_loopw [3,4] (fun vn vi wr=>∃(i D:Nat),i≤m∧vi=.int .i64 (i:Int)∧vn=.int .i64 (D:Int)∧D=uW (kids.take i)∧Below w1.heap.size w1 wr) (fun _ vi _=>m-(intOf vi).toNat)
  case atStart=>exact ⟨0,0,Nat.zero_le _,rfl,rfl,by simp [uW],Below.refl _ _⟩
  case round =>
   obtain ⟨i,D,hi,rfl,rfl,hD,hbr⟩:=hrel;clear c0 c1 c2 c3 c4;obtain ⟨c0,c1,c2,c3,c4⟩:=zE ((hbr.block w.heap.size (by omega)).trans HP1.out)
   have HBR:Hid (Below w1.heap.size w1 wr):=hbr;have hDN:D≤N:=by rw [hD];exact Nat.le_trans (Qz kids i) HN.out
   have HD:Hid (D=uW (kids.take i)):=hD;clear hbr hD
   by_cases hlt:i<m
   ·have hlt':(i:Int)<(m:Int):=by omega
    obtain ⟨y,hy⟩:∃y,kids[i]?=some y:=⟨kids[i]'(by rw [←HM.out];exact hlt),List.getElem?_eq_getElem (by rw [←HM.out];exact hlt)⟩
    obtain ⟨b,o,a1,a2,a3,a4,a5,a6,a7,rfl,m0,m1,m2,m3,m4,ck⟩:=HK.out i y hy wr HBR.out;have HNX:Hid (max D (dpE y)=uW (kids.take (i+1))):=show _=_ by rw [zc3 kids i y hy,HD.out]
    have hyN:dpE y≤N:=by
     have:=V3.1 HN.out y (List.mem_of_getElem? hy)
     exact this
    clear hy HK HD;generalize dpE y=Y at *;go_wp2_with fail
    refine ck.mono ?_;clear ck m0 m1 m2 m3 m4 c0 c1 c2 c3 c4;rintro e w2 ⟨rfl,hb2⟩;have HB2:Hid (Below w1.heap.size w1 w2):=zu HBR.out hb2;clear hb2 HBR;go_wp2
    exact ⟨⟨i+1,max D Y,by omega,by go_num,by go_num,HNX.out,HB2.out⟩,by simp [intOf];omega⟩
   ·obtain rfl:i=m:=by omega
    have hlt':¬ (i:Int)<(i:Int):=by omega
    have HV:Hid ((R:Int)=(D:Int)+1):=show _=_ by
     rw [HR.out,HD.out,HM.out,List.take_length];omega
    have HBW:Hid (Below w.heap.size w wr):=zu HB1.out HBR.out;clear HR HK HBR HB1 HM HP1 HD HN;go_wp2
    exact bodyPost_ret (v:=.int .i64 ((D:Int)+1)) (by simp [results,Tryz.results39,go_sem]) rfl ⟨by rw [HV.out],HBW.out⟩
mutual
def smE:Ez→Ez→Prop
 | .mk k s n kids _,.mk k' s' n' kids' _=>k=k'∧s=s'∧n=n'∧smL kids kids'
def smL:List Ez→List Ez→Prop
 | [],[]=>True
 | x::xs,y::ys=>smE x y∧smL xs ys
 | [],_::_=>False
 | _::_,[]=>False
end
theorem zbk:∀{l l':List Ez},smL l l'→l.length=l'.length∧∀(i:Nat) (x y:Ez),l[i]?=some x→l'[i]?=some y→smE x y
 | [],[],_=>⟨rfl,fun i x y hx=>by simp at hx⟩
 | x::xs,y::ys,h=>by
  rw [smL] at h;obtain ⟨h1,h2⟩:=zbk h.2;refine ⟨by simp [h1],fun i a b ha hb=>?_⟩
  cases i with
  | zero =>
   simp only [List.getElem?_cons_zero,Option.some.injEq] at ha hb;subst ha hb;exact h.1
  | succ i=>exact h2 i a b (by simpa using ha) (by simpa using hb)
 | [],_::_,h=>by rw [smL] at h;exact h.elim
 | _::_,[],h=>by rw [smL] at h;exact h.elim
mutual
theorem QA:∀x:Ez,smE x x
 | .mk k s n kids line=>by rw [smE];exact ⟨rfl,rfl,rfl,QB kids⟩
theorem QB:∀l:List Ez,smL l l
 | []=>by rw [smL];trivial
 | x::xs=>by rw [smL];exact ⟨QA x,QB xs⟩
end
def YQ (w:World) (l:List Ez) (base:Option Addr):Prop:=∀(i:Nat) (x:Ez),l[i]?=some x→∃b o a1 a2 a3 a4 a5 a6 a7,base=some ⟨b,o,none⟩∧b<w.heap.size∧Zs w.heap.size w x (yv a1 a2 a3 a4 a5 a6 a7) ∧
 w.cell? ⟨b,o+i*5,none⟩=some (.int .i64 a1)∧w.cell? ⟨b,o+i*5+1,none⟩=some (.string (za a2))∧w.cell? ⟨b,o+i*5+2,none⟩=some (.int .i64 a3)∧w.cell? ⟨b,o+i*5+3,none⟩=some (.slice a4 a5 a6)∧w.cell? ⟨b,o+i*5+4,none⟩=some (.int .i64 a7)
theorem YQ.below {w W:World} {l:List Ez} {base:Option Addr} (h:YQ w l base) (hb:Below w.heap.size w W):YQ W l base:=by
 intro i x hx;obtain ⟨b,o,a1,a2,a3,a4,a5,a6,a7,e,hlt,hxy,m0,m1,m2,m3,m4⟩:=h i x hx;exact ⟨b,o,a1,a2,a3,a4,a5,a6,a7,e,Nat.lt_of_lt_of_le hlt hb.size,(hxy.kept hb).wide hb.size,(hb.cell (p:=⟨b,o+i*5,none⟩) hlt).trans m0,(hb.cell (p:=⟨b,o+i*5+1,none⟩) hlt).trans m1,(hb.cell (p:=⟨b,o+i*5+2,none⟩) hlt).trans m2,(hb.cell (p:=⟨b,o+i*5+3,none⟩) hlt).trans m3,(hb.cell (p:=⟨b,o+i*5+4,none⟩) hlt).trans m4⟩
theorem qq (l l':List Ez) (base base':Option Addr) (m cap cap':Nat) (w:World) (hm:m=l.length) (hm':m=l'.length) (hmx:m≤9223372036854775807) (hk:YQ w l base) (hk':YQ w l' base')
  (hs:∀(i:Nat) (x y:Ez),l[i]?=some x→l'[i]?=some y→∀W v u,Zs W.heap.size W x v→Zs W.heap.size W y u→Calls Tryz.prog 17 #[v,u] W fun e w'=>e=.returned (.bool true)∧Below W.heap.size W w') :
  Calls Tryz.prog 40 #[.slice base m cap,.slice base' m cap'] w fun e w'=>e=.returned (.bool true)∧Below w.heap.size w w':=by
 have HK:Hid (YQ w l base∧YQ w l' base'):=⟨hk,hk'⟩;have HS:Hid (∀(i:Nat) (x y:Ez),l[i]?=some x→l'[i]?=some y→∀W v u,Zs W.heap.size W x v→Zs W.heap.size W y u→Calls Tryz.prog 17 #[v,u] W fun e w'=>e=.returned (.bool true)∧Below W.heap.size W w'):=hs
 have HM:Hid (m=l.length∧m=l'.length):=⟨hm,hm'⟩;have HB0:Hid (Below w.heap.size w w):=Below.refl _ _;clear hk hk' hs hm hm'
 go_enter Tryz.func40,Tryz.ntmps40
 go_wp2
 go_loopw [5] (fun vi wr=>∃i:Nat,i≤m∧vi=.int .i64 (i:Int)∧Below w.heap.size w wr) (fun vi _=>m-(intOf vi).toNat)
 case atStart=>exact ⟨0,Nat.zero_le _,rfl,HB0.out⟩
 case round =>
  obtain ⟨i,hi,rfl,hbr⟩:=hrel;have HB:Hid (Below w.heap.size w wr):=hbr;clear hbr
  by_cases hlt:i<m
  ·have hi2:(i:Int)<m:=by omega
   obtain ⟨x,hx⟩:∃x,l[i]?=some x:=⟨l[i]'(by rw [←HM.out.1];exact hlt),List.getElem?_eq_getElem (by rw [←HM.out.1];exact hlt)⟩
   obtain ⟨y,hy⟩:∃y,l'[i]?=some y:=⟨l'[i]'(by rw [←HM.out.2];exact hlt),List.getElem?_eq_getElem (by rw [←HM.out.2];exact hlt)⟩
   have HKr:Hid (YQ wr l base∧YQ wr l' base'):=⟨HK.out.1.below HB.out,HK.out.2.below HB.out⟩;obtain ⟨b,o,a1,a2,a3,a4,a5,a6,a7,rfl,hb,hxe,m0,m1,m2,m3,m4⟩:=HKr.out.1 i x hx;obtain ⟨b',o',c1,c2,c3,c4,c5,c6,c7,rfl,hb',hye,n0,n1,n2,n3,n4⟩:=HKr.out.2 i y hy
   have HC:Hid (∀wx,Below wr.heap.size wr wx→Calls Tryz.prog 17 #[yv a1 a2 a3 a4 a5 a6 a7,yv c1 c2 c3 c4 c5 c6 c7] wx fun e w''=>e=.returned (.bool true)∧Below wr.heap.size wr w''):=fun wx hwx =>
    (HS.out i x y hx hy wx _ _ ((hxe.kept hwx).wide hwx.size) ((hye.kept hwx).wide hwx.size)).mono fun e w'' h=>⟨h.1,hwx.trans (h.2.mono hwx.size)⟩
   have u0:=ZH (n:=wr.heap.size) m0 hb;have u1:=ZH (n:=wr.heap.size) m1 hb;have u2:=ZH (n:=wr.heap.size) m2 hb;have u3:=ZH (n:=wr.heap.size) m3 hb;have u4:=ZH (n:=wr.heap.size) m4 hb;have v0:=ZH (n:=wr.heap.size) n0 hb';have v1:=ZH (n:=wr.heap.size) n1 hb';have v2:=ZH (n:=wr.heap.size) n2 hb';have v3:=ZH (n:=wr.heap.size) n3 hb';have v4:=ZH (n:=wr.heap.size) n4 hb';clear m0 m1 m2 m3 m4 n0 n1 n2 n3 n4 hxe hye hx hy HKr hb hb';have hsw:w.heap.size≤wr.heap.size:=HB.out.size;go_wp2_with fail
   refine uZ (n:=wr.heap.size) (w0:=wr) (Below.refl _ _) (by kernel_rfl) (by kernel_rfl) ?_
   iterate 8 (go_big_quiet_step (fail))
   go_big_quiet_step (exact zbv HC.out _)
   iterate 1 (go_big_quiet_step (fail))
   refine wpQuiet_nil ?_;rintro _ ⟨c,rfl⟩;have HBc:Hid (Below w.heap.size w c.1):=HB.out.trans (c.2.mono hsw);clear u0 u1 u2 u3 u4 v0 v1 v2 v3 v4;go_wp2
   exact ⟨⟨i+1,by omega,by go_num,HBc.out⟩,by simp [intOf];omega⟩
  ·obtain rfl:i=m:=by omega
   have hi2:¬ (i:Int)<i:=by omega
   go_wp2
   go_ret
   exact ⟨rfl,HB.out⟩
theorem UP:∀(N:Nat) (x y:Ez) (v u:Value) (w:World),dpE x≤N→smE x y→Zs w.heap.size w x v→Zs w.heap.size w y u →
  Calls Tryz.prog 17 #[v,u] w fun e w'=>e=.returned (.bool true)∧Below w.heap.size w w'
 | 0,.mk k s n kids line,y,v,u,w,hd,_,_,_=>by rw [dpE] at hd;omega
 | N+1,.mk k s n kids line,.mk k' s' n' kids' line',v,u,w,hd,hsm,hx,hy=>by
  rw [smE] at hsm;obtain ⟨rfl,rfl,rfl,hsl⟩:=hsm;obtain ⟨hlen,hel⟩:=zbk hsl;obtain ⟨base,cap,rfl,hc,hmx,hsl1,hn0,hn1,hkid⟩:=hx.kid;obtain ⟨base',cap',rfl,hc',hmx',-,-,-,hkid'⟩:=hy.kid;obtain ⟨m,hm⟩:∃m,m=kids.length:=⟨_,rfl⟩;rw [←hlen,←hm];rw [←hm] at hc;have hmb:m≤9223372036854775807:=by unfold maxLen at hmx;omega
  have hkA:YQ w kids base:=fun i x h=>by
   obtain ⟨b,o,a1,a2,a3,a4,a5,a6,a7,e,hb,hlt,hxy,h⟩:=hkid i x h;exact ⟨b,o,a1,a2,a3,a4,a5,a6,a7,e,hlt,hxy,h⟩
  have hkB:YQ w kids' base':=fun i x h=>by
   obtain ⟨b,o,a1,a2,a3,a4,a5,a6,a7,e,hb,hlt,hxy,h⟩:=hkid' i x h;exact ⟨b,o,a1,a2,a3,a4,a5,a6,a7,e,hlt,hxy,h⟩
  have HC:Hid (∀W,Below w.heap.size w W→Calls Tryz.prog 40 #[.slice base m cap,.slice base' m cap'] W fun e w'=>e=.returned (.bool true)∧Below W.heap.size W w'):=fun W hW =>
   qq kids kids' base base' m cap cap' W hm (hm.trans hlen) hmb (hkA.below hW) (hkB.below hW) fun i x y hx hy W' v u h1 h2=>UP N x y v u W' (ux hd hx) (hel i x y hx hy) h1 h2
  have HB:Hid (Below w.heap.size w ((w.alloc (yV k s n base m cap line)).alloc (yV k s n base' m cap' line'))):=((Below.refl _ w).alloc (Nat.le_refl _) _).alloc (by simp) _
  have cc:=HC.out _ HB.out;clear hx hy hkid hkid' hkA hkB hc hc' hmx hmx' hsl1 hn0 hn1 hel hlen hsl hm hd HC
  go_enter Tryz.func17,Tryz.ntmps17
  go_wp2_with fail
  refine cc.mono ?_;clear cc;rintro e w2 ⟨rfl,hb2⟩;have HB2:Hid (Below w.heap.size w w2):=HB.out.trans (hb2.mono HB.out.size);clear hb2;go_wp2
  exact bodyPost_ret (v:=.bool true) (by simp [results,Tryz.results17,go_sem]) rfl ⟨rfl,HB2.out⟩
end Go.Proofs.YtdgpapchkpnijaaGreatDoor
