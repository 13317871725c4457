import Derived.Test.YtcphojjpapgblaaGreatDoorMC12
import Derived.Test.YtcphojjpapgblaaGreatDoorMC3
import Derived.Test.YtcphojjpapgblaaGreatDoorMC39
import Derived.Test.YtcphojjpapgblaaGreatDoorMC10
import Derived.Test.YtcphojjpapgblaaGreatDoorMC31
namespace Go.Proofs.YtcphojjpapgblaaGreatDoor
open Go.RowKit Go.Shelf
set_option maxRecDepth 100000
def yF (f:Nat) (l:List UInt8):Ex × Nat × Nat :=
 if (xN l).2.2≠0 then (Xm,(xN l).2.1,(xN l).2.2) else
 match zg f 1 (xN l).1 with
 | none=>(Xm,0,99)
 | some res=>match yB res with
  | .error a=>(Xm,a,6)
  | .ok y=>if 24<zN y then (Xm,0,7) else (y,0,0)
theorem zbC {l:List UInt8} {x:Ex} {a e:Nat} (f:Nat) (hl:l.length≤4096) (h:yK l x a e) (hd:(yF f l).2.2≠99):yF f l=(x,a,e):=by
 unfold yK at h
 rw [zde hl] at h
 unfold yF at hd ⊢
 by_cases hc:(xN l).2.2≠0
 ·rw [if_pos hc] at h ⊢
  obtain ⟨rfl,rfl,rfl⟩:=h
  rfl
 ·rw [if_neg hc] at h hd ⊢
  obtain ⟨A,res,z,o⟩:=h;cases hp:zg f 1 (xN l).1 with
  | none=>rw [hp] at hd;exact absurd rfl hd
  | some r2 =>
   obtain rfl:=YQ hp z;cases hw:yB r2 with
   | error a=>rw [hw] at o;obtain ⟨rfl,rfl,rfl⟩:=o;simp only [hw]
   | ok y =>
    rw [hw] at o;simp only [hw] at o ⊢
    by_cases hdp:24<zN y
    ·rw [if_pos hdp] at o ⊢;obtain ⟨rfl,rfl,rfl⟩:=o;rfl
    ·rw [if_neg hdp] at o ⊢;obtain ⟨rfl,rfl,rfl⟩:=o;rfl
theorem Vt:∀(f:Nat) (rs:List Rc) (fs:List Fc) (ts:List Tk) (r:PR Pg),Zp f rs fs ts=some r→Zp (f+1) rs fs ts=some r
 | 0,_,_,_,_,h=>by cases h
 | f+1,rs,fs,ts,r,h=>by
  rw [Zp] at h ⊢
  split at h
  ·rename_i z;rw [if_pos z];exact h
  ·rename_i z
   rw [if_neg z]
   split at h
   ·rename_i y
    rw [if_pos y];exact zE h (fun _=>VI) fun x us r hr=>Vt f _ _ _ _ hr
   ·rename_i y
    rw [if_neg y]
    split at h
    ·rename_i o
     rw [if_pos o];exact zE h (fun _=>UM) fun x us r hr=>Vt f _ _ _ _ hr
    ·rename_i o
     rw [if_neg o];exact h
theorem VR {f k:Nat} {rs:List Rc} {fs:List Fc} {ts:List Tk} {r:PR Pg} (h:Zp f rs fs ts=some r):Zp (f+k) rs fs ts=some r:=by
 induction k with
 | zero=>exact h
 | succ k ih=>exact Vt _ _ _ _ _ ih
theorem Vu {f f':Nat} {rs:List Rc} {fs:List Fc} {ts:List Tk} {r r':PR Pg} (h:Zp f rs fs ts=some r) (h':Zp f' rs fs ts=some r'):r=r':=by
 have a:=VR (k:=f') h;have b:=VR (k:=f) h';rw [Nat.add_comm] at b;exact Option.some.inj (a.symm.trans b)
def VS (f:Nat) (l:List UInt8):Pg × Nat × Nat :=
 if (xN l).2.2≠0 then (xf,(xN l).2.1,(xN l).2.2) else
 match Zp f [] [] (xN l).1 with
 | none=>(xf,0,99)
 | some res=>match yx res with
  | .error a=>(xf,a,6)
  | .ok y=>if 24<depthFs y.funs then (xf,0,7) else (y,0,0)
theorem zbD {l:List UInt8} {x:Pg} {a e:Nat} (f:Nat) (hl:l.length≤4096) (h:yM l x a e) (hd:(VS f l).2.2≠99):VS f l=(x,a,e):=by
 unfold yM at h
 rw [zde hl] at h
 unfold VS at hd ⊢
 by_cases hc:(xN l).2.2≠0
 ·rw [if_pos hc] at h ⊢
  obtain ⟨rfl,rfl,rfl⟩:=h
  rfl
 ·rw [if_neg hc] at h hd ⊢
  obtain ⟨A,res,z,o⟩:=h;cases hp:Zp f [] [] (xN l).1 with
  | none=>rw [hp] at hd;exact absurd rfl hd
  | some r2 =>
   obtain rfl:=Vu hp z;cases hw:yx r2 with
   | error a=>rw [hw] at o;obtain ⟨rfl,rfl,rfl⟩:=o;simp only [hw]
   | ok y =>
    rw [hw] at o;simp only [hw] at o ⊢
    by_cases hdp:24<depthFs y.funs
    ·rw [if_pos hdp] at o ⊢;obtain ⟨rfl,rfl,rfl⟩:=o;rfl
    ·rw [if_neg hdp] at o ⊢;obtain ⟨rfl,rfl,rfl⟩:=o;rfl
def zfT:Nat→Nat→List UInt8
 | 0,_=>[]
 | f+1,u=>if u<10 then [UInt8.ofNat (48+u)] else zfT f (u / 10)++[UInt8.ofNat (48+u % 10)]
theorem zan:∀(f u:Nat),u<f→Lib.decDigits u=zfT f u
 | 0,u,h=>by omega
 | f+1,u,h=>by
  rw [Lib.decDigits,zfT]
  by_cases h9:u<10
  ·rw [dif_pos h9,if_pos h9]
  ·rw [dif_neg h9,if_neg h9,zan f _ (by omega)]
def wrC (k n:Int) (s:List UInt8):List UInt8:=if k=2 then (if n<0 then 45::zfT (n.natAbs+1) n.natAbs else zfT (n.toNat+1) n.toNat) else if k=3 then Z7 s else s
theorem zcI (k n:Int) (s:List UInt8):xL k n s=wrC k n s:=by
 unfold xL wrC Lib.itoa
 rw [zan (n.natAbs+1) _ (by omega),zan (n.toNat+1) _ (by omega)]
def zhl (k n:Int) (s:List UInt8):Option (List UInt8) :=
 if (Zb (wrC k n s)).e=0∧((Zb (wrC k n s)).k:Int)=k∧(Zb (wrC k n s)).s=s∧((Zb (wrC k n s)).n:Int)=n then some (wrC k n s) else none
theorem zhm (k n:Int) (s:List UInt8):tokO k n s=zhl k n s:=by
 unfold tokO tkB zhl
 by_cases h:yr k n s
 ·have o:=h
  unfold yr at o
  rw [zcI] at o;rw [if_pos h,if_pos rfl,if_pos o];show some (xL k n s)=_
  rw [zcI]
 ·have o:=h
  unfold yr at o
  rw [zcI] at o;rw [if_neg h,if_neg o]
  rfl
theorem ziw:tokO=zhl:=funext fun k=>funext fun n=>funext fun s=>zhm k n s
def prG (tok:Int→Int→List UInt8→Option (List UInt8)):Nat→Ez→Option (List UInt8)
 | 0,_=>none
 | d+1,.mk k s n kids _ =>
  if YC k s n kids.length=true then
   if k=1 then tok 2 n []
   else if k=2 then some (if n=0 then [102,97,108,115,101] else [116,114,117,101])
   else if k=3 then tok 3 0 s
   else if k=4 then tok 1 0 s
   else if k=5 then zd (tok 1 0 s) (zd (some [40]) (zd (rowO (kids.map (prG tok d)) kids.length) (some [41])))
   else if k=11 then zd (some [110,101,119,32]) (zd (tok 1 0 s) (zd (some [40]) (zd (rowO (kids.map (prG tok d)) kids.length) (some [41]))))
   else if k=10 then zd (some [91]) (zd (rowO (kids.map (prG tok d)) kids.length) (some [93]))
   else if k=6 then match kids with
    | a::_=>zd (some s) (kidO a 7 (prG tok d a))
    | _=>none
   else if k=7 then match kids with
    | a::b::_=>zd (kidO a (levelOf s) (prG tok d a)) (zd (some [32]) (zd (some s) (zd (some [32]) (kidO b (levelOf s+1) (prG tok d b)))))
    | _=>none
   else if k=8 then match kids with
    | a::b::_=>zd (kidO a 8 (prG tok d a)) (zd (some [91]) (zd (prG tok d b) (some [93])))
    | _=>none
   else if k=9 then match kids with
    | a::_=>zd (kidO a 8 (prG tok d a)) (zd (some [46]) (tok 1 0 s))
    | _=>none
   else none
  else none
theorem zfU:∀d,prE d=prG tokO d
 | 0=>rfl
 | d+1=>by
  funext x
  obtain ⟨k,s,n,kids,line⟩:=x
  unfold prE prG
  rw [zfU d]
  rfl
theorem zbE (d:Nat):prE d=prG zhl d:=by rw [zfU,ziw]
def tx1:List UInt8:=[49,45,40,50,45,51,41]
def tx2:List UInt8:=[40,49,45,50,41,45,51]
def tx3:List UInt8:=[45,97,46,98,91,48,93]
def tx4:List UInt8:=[40,45,97,41,46,98]
def tx5:List UInt8:=[33,40,120,38,38,121,41]
def ty1:List UInt8:=[49,32,45,32,40,50,32,45,32,51,41]
def ty2:List UInt8:=[49,32,45,32,50,32,45,32,51]
def ty5:List UInt8:=[33,40,120,32,38,38,32,121,41]
def zjg:List UInt8:=[49,43]
def txF:List UInt8:=[102,110,32,102,40,41,123,49,61,50,59,125]
def txP:List UInt8:=[114,101,99,111,114,100,32,80,123,120,58,105,110,116,125,10,102,110,32,102,40,97,58,91,105,110,116,93,41,58,105,110,116,123,114,101,116,117,114,110,32,97,91,48,93,59,125]
def tyP:List UInt8:=[114,101,99,111,114,100,32,80,32,123,32,120,58,32,105,110,116,32,125,10,102,110,32,102,40,97,58,32,91,105,110,116,93,41,58,32,105,110,116,32,123,10,114,101,116,117,114,110,32,97,91,48,93,59,10,125,10]
theorem cx1:yF 60 tx1=((yF 60 tx1).1,0,0)∧VB (yF 60 tx1).1=true:=by constructor <;> kernel_rfl
theorem cx2:yF 60 tx2=((yF 60 tx2).1,0,0)∧VB (yF 60 tx2).1=true:=by constructor <;> kernel_rfl
theorem cx3:yF 60 tx3=((yF 60 tx3).1,0,0)∧VB (yF 60 tx3).1=true:=by constructor <;> kernel_rfl
theorem cx4:yF 60 tx4=((yF 60 tx4).1,0,0)∧VB (yF 60 tx4).1=true:=by constructor <;> kernel_rfl
theorem cx5:yF 60 tx5=((yF 60 tx5).1,0,0)∧VB (yF 60 tx5).1=true:=by constructor <;> kernel_rfl
theorem cp1:prR (prE 24 (XO (yF 60 tx1).1))=(ty1,0):=by rw [zbE];kernel_rfl
theorem cp2:prR (prE 24 (XO (yF 60 tx2).1))=(ty2,0):=by rw [zbE];kernel_rfl
theorem cp3:prR (prE 24 (XO (yF 60 tx3).1))=(tx3,0):=by rw [zbE];kernel_rfl
theorem cp4:prR (prE 24 (XO (yF 60 tx4).1))=(tx4,0):=by rw [zbE];kernel_rfl
theorem cp5:prR (prE 24 (XO (yF 60 tx5).1))=(ty5,0):=by rw [zbE];kernel_rfl
theorem cxE:yF 60 zjg=(Xm,2,6):=by kernel_rfl
theorem cxF:VS 60 txF=(xf,8,6):=by kernel_rfl
theorem cxP:VS 60 txP=((VS 60 txP).1,0,0)∧zcy (VS 60 txP).1=true:=by constructor <;> kernel_rfl
theorem cpP:prR (XN (pgz (VS 60 txP).1))=(tyP,0):=by kernel_rfl
def Vv (ts:List Tk) (r:PR St):Prop:=∃f,Zg f ts=some r
def BKm (ts:List Tk) (r:PR (List St)):Prop:=∃f,zI f ts=some r
def SSm (pre:List St) (ts:List Tk) (r:PR (List St)):Prop:=∃f,Zh f pre ts=some r
theorem zhn {f:Nat} (k:Nat) {ts:List Tk} {r:PR St} (h:Zg f ts=some r):Zg (f+k) ts=some r:=by
 induction k with
 | zero=>exact h
 | succ k ih=>exact (Xg (f+k)).1 _ _ ih
theorem vq {f:Nat} (k:Nat) {ts:List Tk} {r:PR (List St)} (h:zI f ts=some r):zI (f+k) ts=some r:=by
 induction k with
 | zero=>exact h
 | succ k ih=>exact (Xg (f+k)).2.1 _ _ ih
theorem zfV {f:Nat} (k:Nat) {pre:List St} {ts:List Tk} {r:PR (List St)} (h:Zh f pre ts=some r):Zh (f+k) pre ts=some r:=by
 induction k with
 | zero=>exact h
 | succ k ih=>exact (Xg (f+k)).2.2 _ _ _ ih
theorem Vv.let {s:List UInt8} {ts us:List Tk} {e:Ex} (h:BT 1 ts (.ok (e,gT [59]::us))):Vv (XE [108,101,116]::nmT s::gT [61]::ts) (.ok (.mk 1 s [e] [] [] 0,us)):=by
 obtain ⟨f,h⟩:=h;refine ⟨f+1,?_⟩;rw [Zg];refine (if_pos rfl).trans ?_;show zh (zg f 1 ts) (fun e us=>zh (zR [59] us) fun _ us=>some (.ok (St.mk 1 s [e] [] [] 0,us)))=_
 rw [h];simp only [zh,ZY]
theorem Vv.ret0 {us:List Tk}:Vv (XE [114,101,116,117,114,110]::gT [59]::us) (.ok (.mk 6 [] [] [] [] 0,us)):=⟨1,by
 rw [Zg]
 exact (if_neg Bool.false_ne_true).trans ((if_neg Bool.false_ne_true).trans ((if_neg Bool.false_ne_true).trans ((if_pos rfl).trans (if_pos rfl))))⟩
theorem Vv.ret {ts us:List Tk} {e:Ex} (hn:zm (zu ts) [59]=false) (h:BT 1 ts (.ok (e,gT [59]::us))):Vv (XE [114,101,116,117,114,110]::ts) (.ok (.mk 6 [] [e] [] [] 0,us)):=by
 obtain ⟨f,h⟩:=h;refine ⟨f+1,?_⟩;rw [Zg];refine (if_neg Bool.false_ne_true).trans ((if_neg Bool.false_ne_true).trans ((if_neg Bool.false_ne_true).trans ((if_pos rfl).trans ((if_neg ?_).trans ?_))))
 ·show ¬ zm (zu ts) [59]=true
  rw [hn];decide
 ·show zh (zg f 1 ts) (fun e us=>zh (zR [59] us) fun _ us=>some (.ok (St.mk 6 [] [e] [] [] 0,us)))=_
  rw [h];simp only [zh,ZY]
theorem Vv.while {ts us vs:List Tk} {e:Ex} {b:List St} (h:BT 1 ts (.ok (e,us))) (y:BKm us (.ok (b,vs))):Vv (XE [119,104,105,108,101]::ts) (.ok (.mk 5 [] [e] b [] 0,vs)):=by
 obtain ⟨f,h⟩:=h;obtain ⟨o,y⟩:=y;refine ⟨f+o+1,?_⟩;rw [Zg];refine (if_neg Bool.false_ne_true).trans ((if_neg Bool.false_ne_true).trans ((if_pos rfl).trans ?_));show zh (zg (f+o) 1 ts) (fun e us=>zh (zI (f+o) us) fun b us=>some (.ok (St.mk 5 [] [e] b [] 0,us)))=_
 rw [yD o h];simp only [zh];rw [Nat.add_comm f o,vq f y]
theorem Vv.if {ts us vs:List Tk} {e:Ex} {b:List St} (h:BT 1 ts (.ok (e,us))) (y:BKm us (.ok (b,vs))) (hn:zm (zu vs) [101,108,115,101]=false):Vv (XE [105,102]::ts) (.ok (.mk 3 [] [e] b [] 0,vs)):=by
 obtain ⟨f,h⟩:=h;obtain ⟨o,y⟩:=y;refine ⟨f+o+1,?_⟩;rw [Zg];refine (if_neg Bool.false_ne_true).trans ((if_pos rfl).trans ?_);show zh (zg (f+o) 1 ts) (fun e us=>zh (zI (f+o) us) fun b us=>if zm (zu us) [101,108,115,101]=true then zh (zI (f+o) us.tail) fun c us=>some (.ok (St.mk 4 [] [e] b c 0,us)) else some (.ok (St.mk 3 [] [e] b [] 0,us)))=_
 rw [yD o h];simp only [zh];rw [Nat.add_comm f o,vq f y];simp only;rw [if_neg (by rw [hn];decide)]
theorem Vv.ife {ts us vs ws:List Tk} {e:Ex} {b c:List St} (h:BT 1 ts (.ok (e,us))) (z:BKm us (.ok (b,XE [101,108,115,101]::vs))) (A:BKm vs (.ok (c,ws))):Vv (XE [105,102]::ts) (.ok (.mk 4 [] [e] b c 0,ws)):=by
 obtain ⟨f,h⟩:=h;obtain ⟨y,z⟩:=z;obtain ⟨o,A⟩:=A;refine ⟨f+y+o+1,?_⟩;rw [Zg];refine (if_neg Bool.false_ne_true).trans ((if_pos rfl).trans ?_);show zh (zg (f+y+o) 1 ts) (fun e us=>zh (zI (f+y+o) us) fun b us=>if zm (zu us) [101,108,115,101]=true then zh (zI (f+y+o) us.tail) fun c us=>some (.ok (St.mk 4 [] [e] b c 0,us)) else some (.ok (St.mk 3 [] [e] b [] 0,us)))=_
 rw [Nat.add_assoc,yD (y+o) h];simp only [zh];rw [show f+(y+o)=y+(f+o) by omega,vq (f+o) z]
 simp only;refine (if_pos rfl).trans ?_;show zh (zI (y+(f+o)) vs) (fun c us=>some (.ok (St.mk 4 [] [e] b c 0,us)))=_
 rw [show y+(f+o)=o+(f+y) by omega,vq (f+y) A]
 rfl
def hdS (t:Tk):Prop:=zm t [108,101,116]=false∧zm t [105,102]=false∧zm t [119,104,105,108,101]=false∧zm t [114,101,116,117,114,110]=false∧t.line=0
theorem zfW {t:Tk} (h:Hk t=true):hdS t:=⟨vU h rfl,vU h rfl,vU h rfl,vU h rfl,zhe h⟩
theorem Vv.set {ts us vs:List Tk} {e e2:Ex} (hh:hdS (zu ts)) (h:BT 1 ts (.ok (e,gT [61]::us))) (hp:Ym e=true) (y:BT 1 us (.ok (e2,gT [59]::vs))):Vv ts (.ok (.mk 2 [] [e,e2] [] [] 0,vs)):=by
 obtain ⟨f,h⟩:=h;obtain ⟨o,y⟩:=y;obtain ⟨G,A,D,H,z⟩:=hh;refine ⟨f+o+1,?_⟩;rw [Zg,if_neg (by rw [G];decide),if_neg (by rw [A];decide),if_neg (by rw [D];decide),if_neg (by rw [H];decide),yD o h]
 simp only [zh];refine (if_pos rfl).trans ((if_pos hp).trans ?_);show zh (zg (f+o) 1 us) (fun e2 us=>zh (zR [59] us) fun _ us=>some (.ok (St.mk 2 [] [e,e2] [] [] (zu ts).line,us)))=_
 rw [Nat.add_comm f o,yD f y];simp only [zh,ZY,z]
theorem Vv.do {ts us:List Tk} {e:Ex} (hh:hdS (zu ts)) (h:BT 1 ts (.ok (e,gT [59]::us))):Vv ts (.ok (.mk 7 [] [e] [] [] 0,us)):=by
 obtain ⟨f,h⟩:=h;obtain ⟨A,y,z,D,o⟩:=hh;refine ⟨f+1,?_⟩;rw [Zg,if_neg (by rw [A];decide),if_neg (by rw [y];decide),if_neg (by rw [z];decide),if_neg (by rw [D];decide),h]
 simp only [zh];refine (if_neg Bool.false_ne_true).trans ?_;simp only [ZY,o]
theorem SSm.stop {pre:List St} {us:List Tk}:SSm pre (gT [125]::us) (.ok (pre,us)):=⟨1,by rw [Zh];exact if_pos rfl⟩
theorem SSm.more {pre:List St} {ts us:List Tk} {x:St} {r:PR (List St)} (hn:zm (zu ts) [125]=false) (h:Vv ts (.ok (x,us))) (o:SSm (pre++[x]) us r):SSm pre ts r:=by
 obtain ⟨f,h⟩:=h;obtain ⟨y,o⟩:=o;refine ⟨f+y+1,?_⟩;rw [Zh,if_neg (by rw [hn];decide),zhn y h]
 simp only [zh];rw [Nat.add_comm f y];exact zfV f o
theorem BKm.of {ts:List Tk} {r:PR (List St)} (h:SSm [] ts r):BKm (gT [123]::ts) r:=by
 obtain ⟨f,h⟩:=h;refine ⟨f+1,?_⟩;rw [zI,ZY];exact h
structure RdS (x:Sz):Prop where
 rd:∀rest,zm (zu rest) [101,108,115,101]=false→Vv (ktS x++rest) (.ok (zzS x,rest))
 hd:∃t us,ktS x=t::us∧zm t [125]=false∧zm t [101,108,115,101]=false
theorem U9:∀(l:List Sz) (pre:List St) (rest:List Tk),(∀x∈l,RdS x)→SSm pre (YE l++(gT [125]::rest)) (.ok (pre++Ul l,rest))
 | [],pre,rest,_=>by
  show SSm pre (gT [125]::rest) (.ok (pre++[],rest))
  rw [List.append_nil];exact SSm.stop
 | x::xs,pre,rest,h=>by
  have A:=h x (List.mem_cons_self ..);have J:=U9 xs (pre++[zzS x]) rest fun y hy=>h y (List.mem_cons_of_mem _ hy)
  have H:YE (x::xs)++(gT [125]::rest)=ktS x++(YE xs++(gT [125]::rest)):=by rw [YE,List.append_assoc]
  have I:pre++Ul (x::xs)=pre++[zzS x]++Ul xs:=by rw [Ul];simp
  rw [H,I];obtain ⟨t,G,o,z,D⟩:=A.hd;refine SSm.more (by rw [o];exact z) (A.rd _ ?_) J
  cases xs with
  | nil=>rfl
  | cons y ys =>
   obtain ⟨t,G,o,z,D⟩:=(h y (List.mem_cons_of_mem _ (List.mem_cons_self ..))).hd;rw [YE,o];exact D
theorem xH {l:List Sz} (h:∀x∈l,RdS x) (rest:List Tk):BKm (gT [123]::(YE l++(gT [125]::rest))) (.ok (Ul l,rest)):=BKm.of (U9 l [] rest h)
theorem vt {l:List (Option (List UInt8))}:∀{i:Nat} {v:List UInt8},yL l i=some v→∀j,j<i→∃t,(l[j]?).getD none=some t
 | 0,_,_,_,h=>by omega
 | i+1,v,h,j,hj=>by
  unfold yL at h
  obtain ⟨a,b,y,o,-⟩:=zj h
  by_cases hji:j=i
  ·subst hji;exact ⟨b,o⟩
  ·exact vt y j (by omega)
theorem vH {l:List Sz} {d:Nat} {v:List UInt8} (h:blkO (prS d) l=some v) (x:Sz) (hx:x∈l):∃t,prS d x=some t:=by
 obtain ⟨w,z,-⟩:=zbz h;obtain ⟨j,y,rfl⟩:=List.getElem_of_mem hx;obtain ⟨t,o⟩:=vt z j y;rw [List.getElem?_map,List.getElem?_eq_getElem y] at o;exact ⟨t,o⟩
theorem zfX {d:Nat} {a:Ez} {u:List UInt8} (hu:prE d a=some u) (h:ui a=true):Ym (vF a)=true:=by
 obtain ⟨k,s,n,kids,line⟩:=a
 have o:k=4∨k=8∨k=9:=by
  unfold ui US at h
  simp at h
  omega
 rcases o with rfl | rfl | rfl <;> (rw [vF];rfl)
theorem zfY:∀(d:Nat) (x:Sz) (t:List UInt8),prS d x=some t→RdS x
 | 0,x,t,h=>by rw [prS] at h;cases h
 | d+1,.mk k s es body els line,t,h=>by
  have D:∀{b:List UInt8} {l:List Sz},blkO (prS d) l=some b→∀x∈l,RdS x:=fun J x hx=>by
   obtain ⟨t,U⟩:=vH J x hx;exact zfY d x t U
  have O:ktS (.mk k s es body els line)=uU k s (es.map Yd) (YE body) (YE els):=by rw [ktS]
  have V:zzS (.mk k s es body els line)=.mk k.toNat s (es.map vF) (Ul body) (Ul els) 0:=by rw [zzS]
  have o:∀us,ur (gT [59]::us)∧uq (gT [59]::us)=0:=fun us=>⟨XF (by decide) (by decide) (by decide),by rw [xh];decide⟩
  have H:∀us,ur (gT [61]::us)∧uq (gT [61]::us)=0:=fun us=>⟨XF (by decide) (by decide) (by decide),by rw [xh];decide⟩
  have z:∀us,ur (gT [123]::us)∧uq (gT [123]::us)=0:=fun us=>⟨XF (by decide) (by decide) (by decide),by rw [xh];decide⟩
  have go:∀(K:List Tk),uU k s (es.map Yd) (YE body) (YE els)=K→(∀rest,zm (zu rest) [101,108,115,101]=false→Vv (K++rest) (.ok (.mk k.toNat s (es.map vF) (Ul body) (Ul els) 0,rest)))→(∃t us,K=t::us∧zm t [125]=false∧zm t [101,108,115,101]=false)→RdS (.mk k s es body els line):=fun K e h1 h2=>⟨by rw [O,V,e];exact h1,by rw [O,e];exact h2⟩
  rcases zal h with ⟨rfl,rfl,rfl,a,u,v,rfl,y,N,-⟩ | ⟨rfl,rfl,rfl,rfl,a,b,u,v,rfl,Q,y,N,-⟩ | ⟨rfl,rfl,rfl,rfl,rfl,-⟩ | ⟨rfl,rfl,rfl,rfl,a,u,rfl,y,-⟩ | ⟨rfl,rfl,rfl,rfl,a,u,rfl,y,-⟩ | ⟨rfl,rfl,a,u,b,c,rfl,y,J,T,-⟩ | ⟨R,rfl,rfl,a,u,b,rfl,y,J,-⟩
  ·refine go _ rfl (fun rest _=>?_) ⟨_,_,rfl,rfl,rfl⟩
   show Vv (XE [108,101,116]::nmT s::gT [61]::(Yd a++[gT [59]]++rest)) _
   rw [YB];exact Vv.let ((YP d a v N).full (o _).1 (o _).2)
  ·obtain ⟨L,G,I,A⟩:=(YP d a u y).hd
   refine go _ rfl (fun rest _=>?_) ⟨L,G++(gT [61]::(Yd b++[gT [59]])),?_,vU A rfl,vU A rfl⟩
   ·show Vv ((Yd a++(gT [61]::(Yd b++[gT [59]])))++rest) _
    rw [List.append_assoc,List.cons_append,YB];exact Vv.set (by rw [I];exact zfW A) ((YP d a u y).full (H _).1 (H _).2) (zfX y Q) ((YP d b v N).full (o _).1 (o _).2)
   ·show Yd a++(gT [61]::(Yd b++[gT [59]]))=_
    rw [I,List.cons_append]
  ·exact go _ rfl (fun rest _=>Vv.ret0) ⟨_,_,rfl,rfl,rfl⟩
  ·obtain ⟨L,G,I,A⟩:=(YP d a u y).hd
   refine go _ rfl (fun rest _=>?_) ⟨_,_,rfl,rfl,rfl⟩
   show Vv (XE [114,101,116,117,114,110]::(Yd a++[gT [59]]++rest)) _
   rw [YB];exact Vv.ret (by rw [I];exact vU A rfl) ((YP d a u y).full (o _).1 (o _).2)
  ·obtain ⟨L,G,I,A⟩:=(YP d a u y).hd
   refine go _ rfl (fun rest _=>?_) ⟨L,G++[gT [59]],?_,vU A rfl,vU A rfl⟩
   ·show Vv (Yd a++[gT [59]]++rest) _
    rw [YB];exact Vv.do (by rw [I];exact zfW A) ((YP d a u y).full (o _).1 (o _).2)
   ·show Yd a++[gT [59]]=_
    rw [I,List.cons_append]
  ·refine go _ rfl (fun rest _=>?_) ⟨_,_,rfl,rfl,rfl⟩
   have e:uU 4 [] ([a].map Yd) (YE body) (YE els)++rest=XE [105,102]::(Yd a++(gT [123]::(YE body++(gT [125]::XE [101,108,115,101]::gT [123]::(YE els++(gT [125]::rest)))))):=by
    show (XE [105,102]::(Yd a++(gT [123]::(YE body++(gT [125]::XE [101,108,115,101]::gT [123]::(YE els++[gT [125]]))))))++rest=_
    simp
   rw [e];exact Vv.ife ((YP d a u y).full (z _).1 (z _).2) (xH (D J) _) (xH (D T) rest)
  ·rcases R with rfl | rfl
   ·refine go _ rfl (fun rest hn=>?_) ⟨_,_,rfl,rfl,rfl⟩
    have e:uU 3 [] ([a].map Yd) (YE body) (YE [])++rest=XE [105,102]::(Yd a++(gT [123]::(YE body++(gT [125]::rest)))):=by
     show (XE [105,102]::(Yd a++(gT [123]::(YE body++[gT [125]]))))++rest=_
     simp
    rw [e];exact Vv.if ((YP d a u y).full (z _).1 (z _).2) (xH (D J) _) hn
   ·refine go _ rfl (fun rest _=>?_) ⟨_,_,rfl,rfl,rfl⟩
    have e:uU 5 [] ([a].map Yd) (YE body) (YE [])++rest=XE [119,104,105,108,101]::(Yd a++(gT [123]::(YE body++(gT [125]::rest)))):=by
     show (XE [119,104,105,108,101]::(Yd a++(gT [123]::(YE body++[gT [125]]))))++rest=_
     simp
    rw [e];exact Vv.while ((YP d a u y).full (z _).1 (z _).2) (xH (D J) _)
theorem zfZ {l:List UInt8} (h:X4 l=true):l=91::(YG l++[93]):=by
 have A:=YN h
 unfold X4 Lib.hasPrefix Lib.hasSuffix at h
 rw [Bool.and_eq_true] at h;obtain ⟨y,z⟩:=h;obtain ⟨a,rfl⟩:=List.isPrefixOf_iff_prefix.1 y;obtain ⟨b,o⟩:=List.isSuffixOf_iff_suffix.1 z;cases b with
 | nil=>simp at o
 | cons c b =>
  simp only [List.cons_append,List.nil_append,List.cons.injEq] at o;obtain ⟨rfl,rfl⟩:=o
  unfold YG
  simp
def brT (s:List UInt8):Nat:=(s.length-(ZR s).length) / 2
theorem XG:∀(n:Nat) (s:List UInt8),s.length≤n→s=List.replicate (brT s) 91++(ZR s++List.replicate (brT s) 93)
 | 0,s,h=>by
  obtain rfl:=List.eq_nil_of_length_eq_zero (Nat.le_zero.1 h)
  rfl
 | n+1,s,h=>by
  by_cases hp:X4 s=true
  ·have o:=UI hp
   have G:=Xi s (YN hp);have A:=XG n (YG s) (by omega)
   have z:(ZR (YG s)).length≤(YG s).length:=Qi _ _;have y:brT s=brT (YG s)+1:=by unfold brT;rw [o];omega
   have D:=zfZ hp;rw [y,o,List.replicate_succ,List.replicate_succ',List.cons_append];rw [←List.append_assoc (ZR _),←List.append_assoc (List.replicate _ _),←A];exact D
  ·have o:=Vk (Bool.eq_false_iff.2 hp)
   have y:brT s=0:=by unfold brT;rw [o];omega
   rw [y,o]
   simp
theorem zer (m:Nat) (n s:List UInt8) (hs:s=List.replicate m 91++(n++List.replicate m 93)):s.take m++(n++s.drop (s.length-m))=s:=by
 have o:s.take m=List.replicate m 91:=by rw [hs];exact List.take_left' (by simp)
 have h:s.length-m=(List.replicate m (91:UInt8)++n).length:=by rw [hs];simp only [List.length_append,List.length_replicate];omega
 have y:s.drop (s.length-m)=List.replicate m 93:=by
  rw [h];generalize hL:(List.replicate m (91:UInt8)++n).length=L;rw [hs,←List.append_assoc];exact List.drop_left' hL
 rw [o,y];exact hs.symm
theorem zes {s t:List UInt8} (h:typeO s=some t):tokO 1 0 (ZR s)=some (ZR s)∧t=s:=by
 unfold typeO at h
 obtain ⟨a,b,A,z,rfl⟩:=zj h;obtain ⟨c,e,y,D,rfl⟩:=zj z;obtain ⟨G,o⟩:=vo y (by decide)
 have o:c=ZR s:=o;subst o;refine ⟨y,?_⟩;obtain rfl:=Option.some.inj A;obtain rfl:=Option.some.inj D;exact zer (brT s) (ZR s) s (XG s.length s (Nat.le_refl _))
def ktT (s:List UInt8):List Tk:=List.replicate (brT s) (gT [91])++(nmT (ZR s)::List.replicate (brT s) (gT [93]))
def qy (p:List UInt8 × List UInt8):List Tk:=nmT p.1::gT [58]::ktT p.2
theorem zao {Q:UInt8→Prop} {b:List UInt8} {B:List Tk} (h:Lx Q b B) (hd:Hd Sg b):∀m,Lx Q (List.replicate m 91++b) (List.replicate m (gT [91])++B)∧Hd Sg (List.replicate m 91++b)
 | 0=>⟨h,hd⟩
 | m+1=>⟨Lx.one 91 (by decide) (zao h hd m).1 (zao h hd m).2,91,_,rfl,by decide⟩
theorem zbF:∀m,Lx Sg (List.replicate (m+1) 93) (List.replicate (m+1) (gT [93]))
 | 0=>Lx.sign (s:=[93]) (by decide)
 | m+1=>Lx.one 93 (by decide) (zbF m) ⟨93,_,rfl,by decide⟩
theorem zbG {s t:List UInt8} (h:typeO s=some t):LxE t (ktT s):=by
 obtain ⟨D,rfl⟩:=zes h;obtain ⟨y,A⟩:=Lx.name D
 have G:Lx Sp (ZR t++List.replicate (brT t) 93) (nmT (ZR t)::List.replicate (brT t) (gT [93])):=by
  cases brT t with
  | zero =>
   rw [List.replicate_zero,List.append_nil];exact y.mono fun _=>zby
  | succ m=>exact y.app ((zbF m).mono fun _=>zds) ⟨93,_,rfl,by decide⟩
 obtain ⟨z,o⟩:=zao G (A.app _) (brT t);rw [←XG t.length t (Nat.le_refl _)] at z o;exact ⟨z,o⟩
theorem zho {p:List UInt8 × List UInt8} {t:List UInt8} (h:parO p=some t):LxE t (qy p):=by
 unfold parO at h
 obtain ⟨a,b,z,o,rfl⟩:=zj h;obtain ⟨c,e,H,G,rfl⟩:=zj o;obtain rfl:=Option.some.inj H;obtain ⟨D,y⟩:=Lx.name z;have A:=zbG G;exact ⟨D.app (Lx.one 58 (by decide) (Lx.bl (c:=32) (by decide) A.lx) ⟨32,_,rfl,by decide⟩) ⟨58,_,rfl,by decide⟩,y.app _⟩
theorem qd:∀(k:Nat) (rest:List Tk),ZT k (List.replicate k (gT [93])++rest)=.ok rest
 | 0,_=>rfl
 | k+1,rest=>by
  rw [List.replicate_succ,List.cons_append,ZT];exact (if_pos rfl).trans (qd k rest)
theorem qe (n:List UInt8) (rest:List Tk):∀(m k:Nat),ZK k (List.replicate m (gT [91])++(nmT n::(List.replicate (k+m) (gT [93])++rest)))=.ok (List.replicate (k+m) 91++n++List.replicate (k+m) 93,rest)
 | 0,k=>by
  show ZK k (nmT n::(List.replicate k (gT [93])++rest))=_
  rw [ZK];refine (if_neg Bool.false_ne_true).trans ((if_pos rfl).trans ?_);rw [qd]
  rfl
 | m+1,k=>by
  have h:=qe n rest m (k+1);rw [show k+1+m=k+(m+1) by omega] at h
  rw [List.replicate_succ,List.cons_append,ZK];exact (if_pos rfl).trans h
theorem QC (s:List UInt8) (rest:List Tk):ZK 0 (ktT s++rest)=.ok (s,rest):=by
 have h:=qe (ZR s) rest (brT s) 0;rw [Nat.zero_add] at h
 unfold ktT
 rw [List.append_assoc,List.cons_append,h,List.append_assoc,←XG s.length s (Nat.le_refl _)]
theorem zbH (p:List UInt8 × List UInt8) (rest:List Tk):Z9 (qy p++rest)=.ok (p,rest):=by
 unfold Z9
 refine (if_pos rfl).trans ((if_pos rfl).trans ?_);rw [show (qy p++rest).tail.tail=ktT p.2++rest from rfl,QC]
 rfl
def PMm (pre:List Pm) (ts:List Tk) (r:PR (List Pm)):Prop:=∃f,zP f pre ts=some r
theorem uv:∀(l:List Pm) (pre:List Pm) (rest:List Tk),l≠[]→zm (zu rest) [44]=false→PMm pre (yN (l.map qy)++rest) (.ok (pre++l,rest))
 | [],_,_,h,_=>absurd rfl h
 | [x],pre,rest,_,hc=>by
  refine ⟨1,?_⟩;show zP 1 pre (qy x++[]++rest)=_
  rw [List.append_nil,zP,zbH];simp only;rw [if_neg (by rw [hc];decide)]
 | x::y::xs,pre,rest,_,hc=>by
  obtain ⟨f,o⟩:=uv (y::xs) (pre++[x]) rest (by simp) hc
  refine ⟨f+1,?_⟩;have z:yN ((x::y::xs).map qy)++rest=qy x++(gT [44]::(yN ((y::xs).map qy)++rest)):=by simp [yN,vk]
  rw [z,zP,zbH];simp only;refine (if_pos rfl).trans ?_;show zP f (pre++[x]) (yN ((y::xs).map qy)++rest)=_
  rw [o]
  simp
def zzR (x:Rz):Rc:=⟨x.name,x.fields,0⟩
def zzF (x:Fz):Fc:=⟨x.name,x.params,x.result,Ul x.body,0⟩
def zzG (x:Pz):Pg:=⟨x.recs.map zzR,x.funs.map zzF⟩
def qg (s:List UInt8):List Tk:=if s=[] then [] else gT [58]::ktT s
def ktR (x:Rz):List Tk:=XE [114,101,99,111,114,100]::nmT x.name::gT [123]::(yN (x.fields.map qy)++[gT [125]])
def ktF (x:Fz):List Tk:=XE [102,110]::nmT x.name::gT [40]::(yN (x.params.map qy)++(gT [41]::(qg x.result++(gT [123]::(YE x.body++[gT [125]])))))
def ktG (x:Pz):List Tk:=x.recs.flatMap ktR++x.funs.flatMap ktF
abbrev eoT:Tk:=⟨0,[],0,0,0⟩
theorem qh {α:Type} {g:α→Option (List UInt8)} {K:α→List Tk} {l:List α} (ih:∀x∈l,∀t,g x=some t→Lx U4 t (K x)):∀(i:Nat) (v:List UInt8),i≤l.length→yL (l.map g) i=some v→Lx U4 v ((l.take i).flatMap K)
 | 0,v,_,h=>by
  obtain rfl:=Option.some.inj h;exact Lx.nil _
 | i+1,v,hi,h=>by
  unfold yL at h
  obtain ⟨a,b,z,o,rfl⟩:=zj h;rw [List.getElem?_map,List.getElem?_eq_getElem (by omega)] at o
  have y:=ih _ (List.getElem_mem (show i<l.length by omega)) b o
  rw [List.take_succ_eq_append_getElem (by omega),List.flatMap_append]
  refine (qh ih i a (by omega) z).then ?_
  show Lx U4 b (K l[i]++[])
  rw [List.append_nil];exact y
theorem zbI {l:List (List UInt8 × List UInt8)} {v:List UInt8} (h:rowO (l.map parO) l.length=some v):Lx Sp v (yN (l.map qy))∧(v=[]∨Hd Sg v):=by
 obtain ⟨o,y,z⟩:=zaj (g:=parO) (K:=qy) (fun x _ t h=>zho h) l.length v (Nat.le_refl _) h
 rw [List.take_length] at o;refine ⟨o,?_⟩
 by_cases h0:l.length=0
 ·exact .inl (z h0)
 ·exact .inr (y (by omega))
theorem zhp (x:Rz) {t:List UInt8} (h:recO x.name x.fields=some t):Lx U4 t (ktR x):=by
 unfold recO at h
 split at h
 case isFalse=>cases h
 case isTrue hl =>
 obtain ⟨x1,O,y,A,rfl⟩:=zj h;obtain ⟨x2,V,z,J,rfl⟩:=zj A;obtain ⟨R,T,H,L,rfl⟩:=zj J;obtain ⟨W,U,o,I,rfl⟩:=zj L;obtain rfl:=Option.some.inj y;obtain rfl:=Option.some.inj H;obtain rfl:=Option.some.inj I;obtain ⟨N,Q⟩:=Lx.name z;obtain ⟨D,X⟩:=zbI o;have G:Lx U4 [32,125,10] [gT [125]]:=Lx.bl (c:=32) (by decide) (Lx.one 125 (by decide) Lx.nl ⟨10,[],rfl,by decide⟩)
 exact (Lx.word (s:=[114,101,99,111,114,100]) (by decide)).app (Lx.bl (c:=32) (by decide) (N.app (Lx.bl (c:=32) (by decide) (Lx.one 123 (by decide) (Lx.bl (c:=32) (by decide) (D.app G ⟨32,_,rfl,by decide⟩)) ⟨32,_,rfl,by decide⟩)) ⟨32,_,rfl,by decide⟩)) ⟨32,_,rfl,by decide⟩
theorem zhq (x:Fz) {t:List UInt8} (h:funO x=some t):Lx U4 t (ktF x):=by
 unfold funO at h
 obtain ⟨x1,y1,e1,R,rfl⟩:=zj h;obtain ⟨x2,y2,O,Z,rfl⟩:=zj R;obtain ⟨x3,y3,T,g3,rfl⟩:=zj Z;obtain ⟨x4,y4,e4,V,rfl⟩:=zj g3;obtain ⟨x5,y5,Y,Q,rfl⟩:=zj V;obtain ⟨A,y6,D,g6,rfl⟩:=zj Q;obtain ⟨x7,y7,e7,W,rfl⟩:=zj g6;obtain ⟨o,y8,e8,L,rfl⟩:=zj W;obtain rfl:=Option.some.inj e1;obtain rfl:=Option.some.inj T;obtain rfl:=Option.some.inj Y;obtain rfl:=Option.some.inj e7;obtain rfl:=Option.some.inj L;obtain ⟨n1,n2⟩:=Lx.name O;obtain ⟨r1,G⟩:=zbI e4;obtain ⟨b1,b2⟩:=Um (fun y _ t h=>zfM 24 y t h) e8
 have I:Lx U4 (o++[10]) ((gT [123]::(YE x.body++[gT [125]]))++[]):=b1.app Lx.nl ⟨10,_,rfl,by decide⟩
 rw [List.append_nil] at I;have z:Lx U4 (32::(o++[10])) (gT [123]::(YE x.body++[gT [125]])):=Lx.bl (c:=32) (by decide) I
 have J:Lx U4 (A++(32::(o++[10]))) (qg x.result++(gT [123]::(YE x.body++[gT [125]])))∧Hd Sg (A++(32::(o++[10]))):=by
  unfold qg
  by_cases h0:x.result=[]
  ·rw [if_pos h0] at D ⊢
   obtain rfl:=Option.some.inj D;exact ⟨z,32,_,rfl,by decide⟩
  ·rw [if_neg h0] at D ⊢
   obtain ⟨z1,z2,U,f2,rfl⟩:=zj D;obtain rfl:=Option.some.inj U;have ht:=zbG f2;exact ⟨Lx.one 58 (by decide) (Lx.bl (c:=32) (by decide) (ht.lx.app z ⟨32,_,rfl,by decide⟩)) ⟨32,_,rfl,by decide⟩,58,_,rfl,by decide⟩
 have X:Lx U4 (41::(A++(32::(o++[10])))) (gT [41]::(qg x.result++(gT [123]::(YE x.body++[gT [125]])))):=Lx.one 41 (by decide) J.1 J.2
 have N:=r1.app X ⟨41,_,rfl,by decide⟩
 have H:Hd Sg (x4++(41::(A++(32::(o++[10]))))):=by
  rcases G with rfl | G
  ·exact ⟨41,_,rfl,by decide⟩
  ·exact G.app _
 exact (Lx.word (s:=[102,110]) (by decide)).app (Lx.bl (c:=32) (by decide) (n1.app (Lx.one 40 (by decide) N H) ⟨40,_,rfl,by decide⟩)) ⟨32,_,rfl,by decide⟩
theorem zcL {f:Nat} (k:Nat) {pre:List Pm} {ts:List Tk} {r:PR (List Pm)} (h:zP f pre ts=some r):zP (f+k) pre ts=some r:=by
 induction k with
 | zero=>exact h
 | succ k ih=>exact Yy ih
theorem zbJ (s:List UInt8) (us:List Tk):Z6 (nmT s::us)=some (.ok (s,us)):=rfl
theorem zf0 (x:Rz) (hl:x.fields≠[]) (rest:List Tk):∃f,Zq f 0 (nmT x.name::gT [123]::(yN (x.fields.map qy)++(gT [125]::rest)))=some (.ok (zzR x,rest)):=by
 obtain ⟨f,h⟩:=uv x.fields [] (gT [125]::rest) hl rfl;refine ⟨f,?_⟩
 unfold Zq
 rw [zbJ];simp only [zh,ZY,h]
 rfl
theorem zet (l:List Pm) (rest:List Tk):∃f,yw f (gT [40]::(yN (l.map qy)++(gT [41]::rest)))=some (.ok (l,rest)):=by
 by_cases hl:l=[]
 ·subst hl
  refine ⟨0,?_⟩
  unfold yw
  rw [ZY];simp only [zh];exact if_pos rfl
 ·obtain ⟨f,h⟩:=uv l [] (gT [41]::rest) hl rfl
  refine ⟨f,?_⟩
  unfold yw
  rw [ZY];simp only [zh];refine (if_neg ?_).trans ?_
  ·cases l with
   | nil=>exact absurd rfl hl
   | cons p ps=>exact Bool.false_ne_true
  ·rw [h]
   simp only [ZY]
   rfl
theorem zhr {f:Nat} (k:Nat) {ts:List Tk} {r:PR (List Pm)} (h:yw f ts=some r):yw (f+k) ts=some r:=by
 unfold yw at h ⊢
 refine yz h fun _ us r h=>?_
 split at h
 ·rename_i o;rw [if_pos o];exact h
 ·rename_i o;rw [if_neg o];exact zE h (fun _=>zcL k) fun _ _ _ h=>h
theorem zf1 (x:Fz) (hb:∀y∈x.body,RdS y) (rest:List Tk):∃f,ZZ f 0 (nmT x.name::gT [40]::(yN (x.params.map qy)++(gT [41]::(qg x.result++(gT [123]::(YE x.body++(gT [125]::rest)))))))=some (.ok (zzF x,rest)):=by
 obtain ⟨f,z⟩:=zet x.params (qg x.result++(gT [123]::(YE x.body++(gT [125]::rest))));obtain ⟨h,o⟩:=xH hb rest;refine ⟨f+h,?_⟩
 have A:Xk (qg x.result++(gT [123]::(YE x.body++(gT [125]::rest))))=some (.ok (x.result,gT [123]::(YE x.body++(gT [125]::rest)))):=by
  unfold Xk qg
  by_cases h0:x.result=[]
  ·rw [h0];rfl
  ·rw [if_neg h0]
   refine (if_pos rfl).trans ?_;show some (ZK 0 (ktT x.result++_))=_
   rw [QC]
 unfold ZZ
 rw [zbJ];simp only [zh,zhr h z,A];rw [Nat.add_comm f h,vq f o]
 rfl
def PGm (rs:List Rc) (fs:List Fc) (ts:List Tk) (r:PR Pg):Prop:=∃f,Zp f rs fs ts=some r
theorem PGm.record {rs:List Rc} {fs:List Fc} {ts:List Tk} {r:PR Pg} {x:Rz} (hl:x.fields≠[]) (h:PGm (rs++[zzR x]) fs ts r):PGm rs fs (ktR x++ts) r:=by
 obtain ⟨f,h⟩:=h;obtain ⟨o,y⟩:=zf0 x hl ts;refine ⟨f+o+1,?_⟩;have e:ktR x++ts=XE [114,101,99,111,114,100]::(nmT x.name::gT [123]::(yN (x.fields.map qy)++(gT [125]::ts))):=by simp [ktR]
 rw [e,Zp];refine (if_neg (by simp [zu])).trans ((if_pos rfl).trans ?_)
 show zh (Zq (f+o) 0 (nmT x.name::gT [123]::(yN (x.fields.map qy)++(gT [125]::ts)))) (fun x us=>Zp (f+o) (rs++[x]) fs us)=_
 rw [show Zq (f+o) 0 (nmT x.name::gT [123]::(yN (x.fields.map qy)++(gT [125]::ts)))=some (.ok (zzR x,ts)) by rw [Nat.add_comm f o];exact Vm y]
 exact VR h
theorem PGm.fn {rs:List Rc} {fs:List Fc} {ts:List Tk} {r:PR Pg} {x:Fz} (hb:∀y∈x.body,RdS y) (h:PGm rs (fs++[zzF x]) ts r):PGm rs fs (ktF x++ts) r:=by
 obtain ⟨f,h⟩:=h;obtain ⟨o,z⟩:=zf1 x hb ts;refine ⟨f+o+1,?_⟩;have e:ktF x++ts=XE [102,110]::(nmT x.name::gT [40]::(yN (x.params.map qy)++(gT [41]::(qg x.result++(gT [123]::(YE x.body++(gT [125]::ts))))))):=by simp [ktF]
 rw [e,Zp];refine (if_neg (by simp [zu])).trans ((if_neg Bool.false_ne_true).trans ((if_pos rfl).trans ?_))
 show zh (ZZ (f+o) 0 (nmT x.name::gT [40]::(yN (x.params.map qy)++(gT [41]::(qg x.result++(gT [123]::(YE x.body++(gT [125]::ts)))))))) (fun x us=>Zp (f+o) rs (fs++[x]) us)=_
 rw [show ZZ (f+o) 0 (nmT x.name::gT [40]::(yN (x.params.map qy)++(gT [41]::(qg x.result++(gT [123]::(YE x.body++(gT [125]::ts)))))))=some (.ok (zzF x,ts)) by rw [Nat.add_comm f o];exact UO z]
 exact VR h
theorem QD:∀(l:List Fz) (rs:List Rc) (fs:List Fc),(∀x∈l,∀y∈x.body,RdS y)→PGm rs fs (l.flatMap ktF++[eoT]) (.ok (⟨rs,fs++l.map zzF⟩,[eoT]))
 | [],rs,fs,_=>⟨1,by
  show Zp 1 rs fs [eoT]=_
  rw [Zp,List.map_nil,List.append_nil]
  exact if_pos rfl⟩
 | x::xs,rs,fs,h=>by
  have o:=QD xs rs (fs++[zzF x]) fun y hy=>h y (List.mem_cons_of_mem _ hy)
  have e:(x::xs).flatMap ktF++[eoT]=ktF x++(xs.flatMap ktF++[eoT]):=by rw [List.flatMap_cons,List.append_assoc]
  have z:fs++(x::xs).map zzF=fs++[zzF x]++xs.map zzF:=by simp
  rw [e,z];exact PGm.fn (h x (List.mem_cons_self ..)) o
theorem QE:∀(l:List Rz) (rs:List Rc) (fs:List Fc) (ts:List Tk) (r:PR Pg),(∀x∈l,x.fields≠[])→PGm (rs++l.map zzR) fs ts r→PGm rs fs (l.flatMap ktR++ts) r
 | [],rs,fs,ts,r,_,h=>by
  rw [List.map_nil,List.append_nil] at h;exact h
 | x::xs,rs,fs,ts,r,hl,h=>by
  have e:(x::xs).flatMap ktR++ts=ktR x++(xs.flatMap ktR++ts):=by rw [List.flatMap_cons,List.append_assoc]
  rw [e];refine PGm.record (hl x (List.mem_cons_self ..)) (QE xs (rs++[zzR x]) fs ts r (fun y hy=>hl y (List.mem_cons_of_mem _ hy)) ?_)
  have o:rs++(x::xs).map zzR=rs++[zzR x]++xs.map zzR:=by simp
  rw [←o];exact h
theorem zdz:xG 1 []=some [eoT]:=by
 have h:Z0 []=0:=by rw [vy];rfl
 rw [xG,h]
 rfl
theorem zeu {x:Pz} {t:List UInt8} (h:XN x=some t):(∃f,xG f t=some (ktG x++[eoT]))∧PGm [] [] (ktG x++[eoT]) (.ok (zzG x,[eoT])):=by
 unfold XN at h
 obtain ⟨a,b,D,H,rfl⟩:=zj h
 constructor
 ·have I:=qh (g:=fun r:Rz=>recO r.name r.fields) (K:=ktR) (fun x _ t h=>zhp x h) x.recs.length a (Nat.le_refl _) D
  have J:=qh (g:=funO) (K:=ktF) (fun x _ t h=>zhq x h) x.funs.length b (Nat.le_refl _) H
  rw [List.take_length] at I J;obtain ⟨f,L⟩:=(I.then J) [] 1 [eoT] (fun _ _=>trivial) zdz
  rw [List.append_nil] at L;exact ⟨f,L⟩
 ·unfold ktG
  rw [List.append_assoc];refine QE x.recs [] [] _ _ (fun y hy=>?_) (QD x.funs _ [] fun y hy z hz=>?_)
  ·obtain ⟨j,A,rfl⟩:=List.getElem_of_mem hy
   obtain ⟨u,o⟩:=vt D j A;rw [List.getElem?_map,List.getElem?_eq_getElem A] at o;have o:recO x.recs[j].name x.recs[j].fields=some u:=o
   unfold recO at o
   split at o
   ·rename_i G
    intro e;rw [e] at G;exact absurd G (by decide)
   ·cases o
  ·obtain ⟨j,A,rfl⟩:=List.getElem_of_mem hy
   obtain ⟨u,o⟩:=vt H j A;rw [List.getElem?_map,List.getElem?_eq_getElem A] at o;have o:funO x.funs[j]=some u:=o
   unfold funO at o
   obtain ⟨_,_,_,O,-⟩:=zj o;obtain ⟨_,_,_,V,-⟩:=zj O;obtain ⟨_,_,_,W,-⟩:=zj V;obtain ⟨_,_,_,Q,-⟩:=zj W;obtain ⟨_,_,_,N,-⟩:=zj Q;obtain ⟨_,_,_,R,-⟩:=zj N;obtain ⟨_,_,_,T,-⟩:=zj R;obtain ⟨_,_,U,_,-⟩:=zj T;obtain ⟨t,X⟩:=vH U z hz;exact zfY 24 z t X
end Go.Proofs.YtcphojjpapgblaaGreatDoor
