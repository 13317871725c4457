import Derived.Test.YtpejpbbdgblbeaaGreatDoorMC31
import Derived.Test.YtpejpbbdgblbeaaGreatDoorMC4
import Derived.Test.YtpejpbbdgblbeaaGreatDoorMC41
import Derived.Test.YtpejpbbdgblbeaaGreatDoorMC12
import Derived.Test.YtpejpbbdgblbeaaGreatDoorMC34
namespace Go.Proofs.YtpejpbbdgblbeaaGreatDoor
open Go.RowKit Go.Shelf
set_option maxRecDepth 100000
def yG (f:Nat) (l:List UInt8):Ex × Nat × Nat :=
 if (xO l).2.2≠0 then (XH,(xO l).2.1,(xO l).2.2) else
 match zf f 1 (xO l).1 with
 | none=>(XH,0,99)
 | some res=>match Yk res with
  | .error a=>(XH,a,6)
  | .ok y=>if 24<zO y then (XH,0,7) else (y,0,0)
theorem zbi {l:List UInt8} {x:Ex} {a e:Nat} (f:Nat) (hl:l.length≤4096) (h:YB l x a e) (hd:(yG f l).2.2≠99):yG f l=(x,a,e):=by
 unfold YB at h
 rw [zcR hl] at h
 unfold yG at hd ⊢
 by_cases hc:(xO l).2.2≠0
 ·rw [if_pos hc] at h ⊢
  obtain ⟨rfl,rfl,rfl⟩:=h
  rfl
 ·rw [if_neg hc] at h hd ⊢
  obtain ⟨A,res,z,o⟩:=h;cases hp:zf f 1 (xO l).1 with
  | none=>rw [hp] at hd;exact absurd rfl hd
  | some r2 =>
   obtain rfl:=vR hp z;cases hw:Yk r2 with
   | error a=>rw [hw] at o;obtain ⟨rfl,rfl,rfl⟩:=o;simp only [hw]
   | ok y =>
    rw [hw] at o;simp only [hw] at o ⊢
    by_cases hdp:24<zO y
    ·rw [if_pos hdp] at o ⊢;obtain ⟨rfl,rfl,rfl⟩:=o;rfl
    ·rw [if_neg hdp] at o ⊢;obtain ⟨rfl,rfl,rfl⟩:=o;rfl
theorem Vs:∀(f:Nat) (rs:List Rc) (fs:List Fc) (ts:List Tk) (r:PR Pg),Zm f rs fs ts=some r→Zm (f+1) rs fs ts=some r
 | 0,_,_,_,_,h=>by cases h
 | f+1,rs,fs,ts,r,h=>by
  rw [Zm] at h ⊢
  split at h
  ·rename_i z;rw [if_pos z];exact h
  ·rename_i z
   rw [if_neg z]
   split at h
   ·rename_i y
    rw [if_pos y];exact zG h (fun _=>VL) fun x us r hr=>Vs f _ _ _ _ hr
   ·rename_i y
    rw [if_neg y]
    split at h
    ·rename_i o
     rw [if_pos o];exact zG h (fun _=>UJ) fun x us r hr=>Vs f _ _ _ _ hr
    ·rename_i o
     rw [if_neg o];exact h
theorem VU {f k:Nat} {rs:List Rc} {fs:List Fc} {ts:List Tk} {r:PR Pg} (h:Zm f rs fs ts=some r):Zm (f+k) rs fs ts=some r:=by
 induction k with
 | zero=>exact h
 | succ k ih=>exact Vs _ _ _ _ _ ih
theorem Vt {f f':Nat} {rs:List Rc} {fs:List Fc} {ts:List Tk} {r r':PR Pg} (h:Zm f rs fs ts=some r) (h':Zm f' rs fs ts=some r'):r=r':=by
 have a:=VU (k:=f') h;have b:=VU (k:=f) h';rw [Nat.add_comm] at b;exact Option.some.inj (a.symm.trans b)
def VV (f:Nat) (l:List UInt8):Pg × Nat × Nat :=
 if (xO l).2.2≠0 then (YA,(xO l).2.1,(xO l).2.2) else
 match Zm f [] [] (xO l).1 with
 | none=>(YA,0,99)
 | some res=>match yi res with
  | .error a=>(YA,a,6)
  | .ok y=>if 24<depthFs y.funs then (YA,0,7) else (y,0,0)
theorem zbj {l:List UInt8} {x:Pg} {a e:Nat} (f:Nat) (hl:l.length≤4096) (h:Z2 l x a e) (hd:(VV f l).2.2≠99):VV f l=(x,a,e):=by
 unfold Z2 at h
 rw [zcR hl] at h
 unfold VV at hd ⊢
 by_cases hc:(xO l).2.2≠0
 ·rw [if_pos hc] at h ⊢
  obtain ⟨rfl,rfl,rfl⟩:=h
  rfl
 ·rw [if_neg hc] at h hd ⊢
  obtain ⟨A,res,z,o⟩:=h;cases hp:Zm f [] [] (xO l).1 with
  | none=>rw [hp] at hd;exact absurd rfl hd
  | some r2 =>
   obtain rfl:=Vt hp z;cases hw:yi r2 with
   | error a=>rw [hw] at o;obtain ⟨rfl,rfl,rfl⟩:=o;simp only [hw]
   | ok y =>
    rw [hw] at o;simp only [hw] at o ⊢
    by_cases hdp:24<depthFs y.funs
    ·rw [if_pos hdp] at o ⊢;obtain ⟨rfl,rfl,rfl⟩:=o;rfl
    ·rw [if_neg hdp] at o ⊢;obtain ⟨rfl,rfl,rfl⟩:=o;rfl
def zfE:Nat→Nat→List UInt8
 | 0,_=>[]
 | f+1,u=>if u<10 then [UInt8.ofNat (48+u)] else zfE f (u / 10)++[UInt8.ofNat (48+u % 10)]
theorem Q9:∀(f u:Nat),u<f→Lib.decDigits u=zfE f u
 | 0,u,h=>by omega
 | f+1,u,h=>by
  rw [Lib.decDigits,zfE]
  by_cases h9:u<10
  ·rw [dif_pos h9,if_pos h9]
  ·rw [dif_neg h9,if_neg h9,Q9 f _ (by omega)]
def wrC (k n:Int) (s:List UInt8):List UInt8:=if k=2 then (if n<0 then 45::zfE (n.natAbs+1) n.natAbs else zfE (n.toNat+1) n.toNat) else if k=3 then yg s else s
theorem zcr (k n:Int) (s:List UInt8):xI k n s=wrC k n s:=by
 unfold xI wrC Lib.itoa
 rw [Q9 (n.natAbs+1) _ (by omega),Q9 (n.toNat+1) _ (by omega)]
def zg2 (k n:Int) (s:List UInt8):Option (List UInt8) :=
 if (Zc (wrC k n s)).e=0∧((Zc (wrC k n s)).k:Int)=k∧(Zc (wrC k n s)).s=s∧((Zc (wrC k n s)).n:Int)=n then some (wrC k n s) else none
theorem zg3 (k n:Int) (s:List UInt8):tokO k n s=zg2 k n s:=by
 unfold tokO tkB zg2
 by_cases h:ZO k n s
 ·have o:=h
  unfold ZO at o
  rw [zcr] at o;rw [if_pos h,if_pos rfl,if_pos o];show some (xI k n s)=_
  rw [zcr]
 ·have o:=h
  unfold ZO at o
  rw [zcr] at o;rw [if_neg h,if_neg o]
  rfl
theorem zik:tokO=zg2:=funext fun k=>funext fun n=>funext fun s=>zg3 k n s
def prG (tok:Int→Int→List UInt8→Option (List UInt8)):Nat→Ez→Option (List UInt8)
 | 0,_=>none
 | d+1,.mk k s n kids _ =>
  if yQ k s n kids.length=true then
   if k=1 then tok 2 n []
   else if k=2 then some (if n=0 then [102,97,108,115,101] else [116,114,117,101])
   else if k=3 then tok 3 0 s
   else if k=4 then tok 1 0 s
   else if k=5 then zc (tok 1 0 s) (zc (some [40]) (zc (rowO (kids.map (prG tok d)) kids.length) (some [41])))
   else if k=11 then zc (some [110,101,119,32]) (zc (tok 1 0 s) (zc (some [40]) (zc (rowO (kids.map (prG tok d)) kids.length) (some [41]))))
   else if k=10 then zc (some [91]) (zc (rowO (kids.map (prG tok d)) kids.length) (some [93]))
   else if k=6 then match kids with
    | a::_=>zc (some s) (kidO a 7 (prG tok d a))
    | _=>none
   else if k=7 then match kids with
    | a::b::_=>zc (kidO a (levelOf s) (prG tok d a)) (zc (some [32]) (zc (some s) (zc (some [32]) (kidO b (levelOf s+1) (prG tok d b)))))
    | _=>none
   else if k=8 then match kids with
    | a::b::_=>zc (kidO a 8 (prG tok d a)) (zc (some [91]) (zc (prG tok d b) (some [93])))
    | _=>none
   else if k=9 then match kids with
    | a::_=>zc (kidO a 8 (prG tok d a)) (zc (some [46]) (tok 1 0 s))
    | _=>none
   else none
  else none
theorem zfF:∀d,prE d=prG tokO d
 | 0=>rfl
 | d+1=>by
  funext x
  obtain ⟨k,s,n,kids,line⟩:=x
  unfold prE prG
  rw [zfF d]
  rfl
theorem zbk (d:Nat):prE d=prG zg2 d:=by rw [zfF,zik]
def tx1:List UInt8:=[49,45,40,50,45,51,41]
def tx2:List UInt8:=[40,49,45,50,41,45,51]
def tx3:List UInt8:=[45,97,46,98,91,48,93]
def tx4:List UInt8:=[40,45,97,41,46,98]
def tx5:List UInt8:=[33,40,120,38,38,121,41]
def ty1:List UInt8:=[49,32,45,32,40,50,32,45,32,51,41]
def ty2:List UInt8:=[49,32,45,32,50,32,45,32,51]
def ty5:List UInt8:=[33,40,120,32,38,38,32,121,41]
def zi1:List UInt8:=[49,43]
def txF:List UInt8:=[102,110,32,102,40,41,123,49,61,50,59,125]
def txP:List UInt8:=[114,101,99,111,114,100,32,80,123,120,58,105,110,116,125,10,102,110,32,102,40,97,58,91,105,110,116,93,41,58,105,110,116,123,114,101,116,117,114,110,32,97,91,48,93,59,125]
def tyP:List UInt8:=[114,101,99,111,114,100,32,80,32,123,32,120,58,32,105,110,116,32,125,10,102,110,32,102,40,97,58,32,91,105,110,116,93,41,58,32,105,110,116,32,123,10,114,101,116,117,114,110,32,97,91,48,93,59,10,125,10]
theorem cx1:yG 60 tx1=((yG 60 tx1).1,0,0)∧VY (yG 60 tx1).1=true:=by constructor <;> kernel_rfl
theorem cx2:yG 60 tx2=((yG 60 tx2).1,0,0)∧VY (yG 60 tx2).1=true:=by constructor <;> kernel_rfl
theorem cx3:yG 60 tx3=((yG 60 tx3).1,0,0)∧VY (yG 60 tx3).1=true:=by constructor <;> kernel_rfl
theorem cx4:yG 60 tx4=((yG 60 tx4).1,0,0)∧VY (yG 60 tx4).1=true:=by constructor <;> kernel_rfl
theorem cx5:yG 60 tx5=((yG 60 tx5).1,0,0)∧VY (yG 60 tx5).1=true:=by constructor <;> kernel_rfl
theorem cp1:prR (prE 24 (Xr (yG 60 tx1).1))=(ty1,0):=by rw [zbk];kernel_rfl
theorem cp2:prR (prE 24 (Xr (yG 60 tx2).1))=(ty2,0):=by rw [zbk];kernel_rfl
theorem cp3:prR (prE 24 (Xr (yG 60 tx3).1))=(tx3,0):=by rw [zbk];kernel_rfl
theorem cp4:prR (prE 24 (Xr (yG 60 tx4).1))=(tx4,0):=by rw [zbk];kernel_rfl
theorem cp5:prR (prE 24 (Xr (yG 60 tx5).1))=(ty5,0):=by rw [zbk];kernel_rfl
theorem cxE:yG 60 zi1=(XH,2,6):=by kernel_rfl
theorem cxF:VV 60 txF=(YA,8,6):=by kernel_rfl
theorem cxP:VV 60 txP=((VV 60 txP).1,0,0)∧zcl (VV 60 txP).1=true:=by constructor <;> kernel_rfl
theorem cpP:prR (vd (VT (VV 60 txP).1))=(tyP,0):=by kernel_rfl
def Vu (ts:List Tk) (r:PR St):Prop:=∃f,Ze f ts=some r
def BKm (ts:List Tk) (r:PR (List St)):Prop:=∃f,zH f ts=some r
def SSm (pre:List St) (ts:List Tk) (r:PR (List St)):Prop:=∃f,Zd f pre ts=some r
theorem zg4 {f:Nat} (k:Nat) {ts:List Tk} {r:PR St} (h:Ze f ts=some r):Ze (f+k) ts=some r:=by
 induction k with
 | zero=>exact h
 | succ k ih=>exact (Xh (f+k)).1 _ _ ih
theorem vC {f:Nat} (k:Nat) {ts:List Tk} {r:PR (List St)} (h:zH f ts=some r):zH (f+k) ts=some r:=by
 induction k with
 | zero=>exact h
 | succ k ih=>exact (Xh (f+k)).2.1 _ _ ih
theorem zfG {f:Nat} (k:Nat) {pre:List St} {ts:List Tk} {r:PR (List St)} (h:Zd f pre ts=some r):Zd (f+k) pre ts=some r:=by
 induction k with
 | zero=>exact h
 | succ k ih=>exact (Xh (f+k)).2.2 _ _ _ ih
theorem Vu.let {s:List UInt8} {ts us:List Tk} {e:Ex} (h:BT 1 ts (.ok (e,gT [59]::us))):Vu (XJ [108,101,116]::nmT s::gT [61]::ts) (.ok (.mk 1 s [e] [] [] 0,us)):=by
 obtain ⟨f,h⟩:=h;refine ⟨f+1,?_⟩;rw [Ze];refine (if_pos rfl).trans ?_;show zh (zf f 1 ts) (fun e us=>zh (zR [59] us) fun _ us=>some (.ok (St.mk 1 s [e] [] [] 0,us)))=_
 rw [h];simp only [zh,Z1]
theorem Vu.ret0 {us:List Tk}:Vu (XJ [114,101,116,117,114,110]::gT [59]::us) (.ok (.mk 6 [] [] [] [] 0,us)):=⟨1,by
 rw [Ze]
 exact (if_neg Bool.false_ne_true).trans ((if_neg Bool.false_ne_true).trans ((if_neg Bool.false_ne_true).trans ((if_pos rfl).trans (if_pos rfl))))⟩
theorem Vu.ret {ts us:List Tk} {e:Ex} (hn:zm (zv ts) [59]=false) (h:BT 1 ts (.ok (e,gT [59]::us))):Vu (XJ [114,101,116,117,114,110]::ts) (.ok (.mk 6 [] [e] [] [] 0,us)):=by
 obtain ⟨f,h⟩:=h;refine ⟨f+1,?_⟩;rw [Ze];refine (if_neg Bool.false_ne_true).trans ((if_neg Bool.false_ne_true).trans ((if_neg Bool.false_ne_true).trans ((if_pos rfl).trans ((if_neg ?_).trans ?_))))
 ·show ¬ zm (zv ts) [59]=true
  rw [hn];decide
 ·show zh (zf f 1 ts) (fun e us=>zh (zR [59] us) fun _ us=>some (.ok (St.mk 6 [] [e] [] [] 0,us)))=_
  rw [h];simp only [zh,Z1]
theorem Vu.while {ts us vs:List Tk} {e:Ex} {b:List St} (h:BT 1 ts (.ok (e,us))) (y:BKm us (.ok (b,vs))):Vu (XJ [119,104,105,108,101]::ts) (.ok (.mk 5 [] [e] b [] 0,vs)):=by
 obtain ⟨f,h⟩:=h;obtain ⟨o,y⟩:=y;refine ⟨f+o+1,?_⟩;rw [Ze];refine (if_neg Bool.false_ne_true).trans ((if_neg Bool.false_ne_true).trans ((if_pos rfl).trans ?_));show zh (zf (f+o) 1 ts) (fun e us=>zh (zH (f+o) us) fun b us=>some (.ok (St.mk 5 [] [e] b [] 0,us)))=_
 rw [yE o h];simp only [zh];rw [Nat.add_comm f o,vC f y]
theorem Vu.if {ts us vs:List Tk} {e:Ex} {b:List St} (h:BT 1 ts (.ok (e,us))) (y:BKm us (.ok (b,vs))) (hn:zm (zv vs) [101,108,115,101]=false):Vu (XJ [105,102]::ts) (.ok (.mk 3 [] [e] b [] 0,vs)):=by
 obtain ⟨f,h⟩:=h;obtain ⟨o,y⟩:=y;refine ⟨f+o+1,?_⟩;rw [Ze];refine (if_neg Bool.false_ne_true).trans ((if_pos rfl).trans ?_);show zh (zf (f+o) 1 ts) (fun e us=>zh (zH (f+o) us) fun b us=>if zm (zv us) [101,108,115,101]=true then zh (zH (f+o) us.tail) fun c us=>some (.ok (St.mk 4 [] [e] b c 0,us)) else some (.ok (St.mk 3 [] [e] b [] 0,us)))=_
 rw [yE o h];simp only [zh];rw [Nat.add_comm f o,vC f y];simp only;rw [if_neg (by rw [hn];decide)]
theorem Vu.ife {ts us vs ws:List Tk} {e:Ex} {b c:List St} (h:BT 1 ts (.ok (e,us))) (A:BKm us (.ok (b,XJ [101,108,115,101]::vs))) (z:BKm vs (.ok (c,ws))):Vu (XJ [105,102]::ts) (.ok (.mk 4 [] [e] b c 0,ws)):=by
 obtain ⟨f,h⟩:=h;obtain ⟨y,A⟩:=A;obtain ⟨o,z⟩:=z;refine ⟨f+y+o+1,?_⟩;rw [Ze];refine (if_neg Bool.false_ne_true).trans ((if_pos rfl).trans ?_);show zh (zf (f+y+o) 1 ts) (fun e us=>zh (zH (f+y+o) us) fun b us=>if zm (zv us) [101,108,115,101]=true then zh (zH (f+y+o) us.tail) fun c us=>some (.ok (St.mk 4 [] [e] b c 0,us)) else some (.ok (St.mk 3 [] [e] b [] 0,us)))=_
 rw [Nat.add_assoc,yE (y+o) h];simp only [zh];rw [show f+(y+o)=y+(f+o) by omega,vC (f+o) A]
 simp only;refine (if_pos rfl).trans ?_;show zh (zH (y+(f+o)) vs) (fun c us=>some (.ok (St.mk 4 [] [e] b c 0,us)))=_
 rw [show y+(f+o)=o+(f+y) by omega,vC (f+y) z]
 rfl
def hdS (t:Tk):Prop:=zm t [108,101,116]=false∧zm t [105,102]=false∧zm t [119,104,105,108,101]=false∧zm t [114,101,116,117,114,110]=false∧t.line=0
theorem zfH {t:Tk} (h:Hk t=true):hdS t:=⟨vX h rfl,vX h rfl,vX h rfl,vX h rfl,zgY h⟩
theorem Vu.set {ts us vs:List Tk} {e e2:Ex} (hh:hdS (zv ts)) (h:BT 1 ts (.ok (e,gT [61]::us))) (hp:yX e=true) (y:BT 1 us (.ok (e2,gT [59]::vs))):Vu ts (.ok (.mk 2 [] [e,e2] [] [] 0,vs)):=by
 obtain ⟨f,h⟩:=h;obtain ⟨o,y⟩:=y;obtain ⟨A,z,D,H,G⟩:=hh;refine ⟨f+o+1,?_⟩;rw [Ze,if_neg (by rw [A];decide),if_neg (by rw [z];decide),if_neg (by rw [D];decide),if_neg (by rw [H];decide),yE o h]
 simp only [zh];refine (if_pos rfl).trans ((if_pos hp).trans ?_);show zh (zf (f+o) 1 us) (fun e2 us=>zh (zR [59] us) fun _ us=>some (.ok (St.mk 2 [] [e,e2] [] [] (zv ts).line,us)))=_
 rw [Nat.add_comm f o,yE f y];simp only [zh,Z1,G]
theorem Vu.do {ts us:List Tk} {e:Ex} (hh:hdS (zv ts)) (h:BT 1 ts (.ok (e,gT [59]::us))):Vu ts (.ok (.mk 7 [] [e] [] [] 0,us)):=by
 obtain ⟨f,h⟩:=h;obtain ⟨z,y,A,o,D⟩:=hh;refine ⟨f+1,?_⟩;rw [Ze,if_neg (by rw [z];decide),if_neg (by rw [y];decide),if_neg (by rw [A];decide),if_neg (by rw [o];decide),h]
 simp only [zh];refine (if_neg Bool.false_ne_true).trans ?_;simp only [Z1,D]
theorem SSm.stop {pre:List St} {us:List Tk}:SSm pre (gT [125]::us) (.ok (pre,us)):=⟨1,by rw [Zd];exact if_pos rfl⟩
theorem SSm.more {pre:List St} {ts us:List Tk} {x:St} {r:PR (List St)} (hn:zm (zv ts) [125]=false) (h:Vu ts (.ok (x,us))) (y:SSm (pre++[x]) us r):SSm pre ts r:=by
 obtain ⟨f,h⟩:=h;obtain ⟨o,y⟩:=y;refine ⟨f+o+1,?_⟩;rw [Zd,if_neg (by rw [hn];decide),zg4 o h]
 simp only [zh];rw [Nat.add_comm f o];exact zfG f y
theorem BKm.of {ts:List Tk} {r:PR (List St)} (h:SSm [] ts r):BKm (gT [123]::ts) r:=by
 obtain ⟨f,h⟩:=h;refine ⟨f+1,?_⟩;rw [zH,Z1];exact h
structure RdS (x:Sz):Prop where
 rd:∀rest,zm (zv rest) [101,108,115,101]=false→Vu (ktS x++rest) (.ok (zzS x,rest))
 hd:∃t us,ktS x=t::us∧zm t [125]=false∧zm t [101,108,115,101]=false
theorem U3:∀(l:List Sz) (pre:List St) (rest:List Tk),(∀x∈l,RdS x)→SSm pre (YE l++(gT [125]::rest)) (.ok (pre++zzC l,rest))
 | [],pre,rest,_=>by
  show SSm pre (gT [125]::rest) (.ok (pre++[],rest))
  rw [List.append_nil];exact SSm.stop
 | x::xs,pre,rest,h=>by
  have D:=h x (List.mem_cons_self ..);have H:=U3 xs (pre++[zzS x]) rest fun y hy=>h y (List.mem_cons_of_mem _ hy)
  have J:YE (x::xs)++(gT [125]::rest)=ktS x++(YE xs++(gT [125]::rest)):=by rw [YE,List.append_assoc]
  have G:pre++zzC (x::xs)=pre++[zzS x]++zzC xs:=by rw [zzC];simp
  rw [J,G];obtain ⟨t,I,o,z,A⟩:=D.hd;refine SSm.more (by rw [o];exact z) (D.rd _ ?_) H
  cases xs with
  | nil=>rfl
  | cons y ys =>
   obtain ⟨t,I,o,z,A⟩:=(h y (List.mem_cons_of_mem _ (List.mem_cons_self ..))).hd;rw [YE,o];exact A
theorem xF {l:List Sz} (h:∀x∈l,RdS x) (rest:List Tk):BKm (gT [123]::(YE l++(gT [125]::rest))) (.ok (zzC l,rest)):=BKm.of (U3 l [] rest h)
theorem VW {l:List (Option (List UInt8))}:∀{i:Nat} {v:List UInt8},yL l i=some v→∀j,j<i→∃t,(l[j]?).getD none=some t
 | 0,_,_,_,h=>by omega
 | i+1,v,h,j,hj=>by
  unfold yL at h
  obtain ⟨a,b,y,o,-⟩:=zn h
  by_cases hji:j=i
  ·subst hji;exact ⟨b,o⟩
  ·exact VW y j (by omega)
theorem zdc {l:List Sz} {d:Nat} {v:List UInt8} (h:blkO (prS d) l=some v) (x:Sz) (hx:x∈l):∃t,prS d x=some t:=by
 obtain ⟨w,z,-⟩:=zbh h;obtain ⟨j,o,rfl⟩:=List.getElem_of_mem hx;obtain ⟨t,y⟩:=VW z j o;rw [List.getElem?_map,List.getElem?_eq_getElem o] at y;exact ⟨t,y⟩
theorem zfI {d:Nat} {a:Ez} {u:List UInt8} (hu:prE d a=some u) (h:x9 a=true):yX (VZ a)=true:=by
 obtain ⟨k,s,n,kids,line⟩:=a
 have o:k=4∨k=8∨k=9:=by
  unfold x9 VI at h
  simp at h
  omega
 rcases o with rfl | rfl | rfl <;> (rw [VZ];rfl)
theorem zfJ:∀(d:Nat) (x:Sz) (t:List UInt8),prS d x=some t→RdS x
 | 0,x,t,h=>by rw [prS] at h;cases h
 | d+1,.mk k s es body els line,t,h=>by
  have A:∀{b:List UInt8} {l:List Sz},blkO (prS d) l=some b→∀x∈l,RdS x:=fun J x hx=>by
   obtain ⟨t,Q⟩:=zdc J x hx;exact zfJ d x t Q
  have O:ktS (.mk k s es body els line)=uM k s (es.map Yc) (YE body) (YE els):=by rw [ktS]
  have R:zzS (.mk k s es body els line)=.mk k.toNat s (es.map VZ) (zzC body) (zzC els) 0:=by rw [zzS]
  have o:∀us,uq (gT [59]::us)∧uo (gT [59]::us)=0:=fun us=>⟨XK (by decide) (by decide) (by decide),by rw [xh];decide⟩
  have H:∀us,uq (gT [61]::us)∧uo (gT [61]::us)=0:=fun us=>⟨XK (by decide) (by decide) (by decide),by rw [xh];decide⟩
  have z:∀us,uq (gT [123]::us)∧uo (gT [123]::us)=0:=fun us=>⟨XK (by decide) (by decide) (by decide),by rw [xh];decide⟩
  have go:∀(K:List Tk),uM k s (es.map Yc) (YE body) (YE els)=K→(∀rest,zm (zv rest) [101,108,115,101]=false→Vu (K++rest) (.ok (.mk k.toNat s (es.map VZ) (zzC body) (zzC els) 0,rest)))→(∃t us,K=t::us∧zm t [125]=false∧zm t [101,108,115,101]=false)→RdS (.mk k s es body els line):=fun K e h1 h2=>⟨by rw [O,R,e];exact h1,by rw [O,e];exact h2⟩
  rcases zda h with ⟨rfl,rfl,rfl,a,u,v,rfl,y,N,-⟩ | ⟨rfl,rfl,rfl,rfl,a,b,u,v,rfl,U,y,N,-⟩ | ⟨rfl,rfl,rfl,rfl,rfl,-⟩ | ⟨rfl,rfl,rfl,rfl,a,u,rfl,y,-⟩ | ⟨rfl,rfl,rfl,rfl,a,u,rfl,y,-⟩ | ⟨rfl,rfl,a,u,b,c,rfl,y,J,V,-⟩ | ⟨T,rfl,rfl,a,u,b,rfl,y,J,-⟩
  ·refine go _ rfl (fun rest _=>?_) ⟨_,_,rfl,rfl,rfl⟩
   show Vu (XJ [108,101,116]::nmT s::gT [61]::(Yc a++[gT [59]]++rest)) _
   rw [YC];exact Vu.let ((Y2 d a v N).full (o _).1 (o _).2)
  ·obtain ⟨L,G,I,D⟩:=(Y2 d a u y).hd
   refine go _ rfl (fun rest _=>?_) ⟨L,G++(gT [61]::(Yc b++[gT [59]])),?_,vX D rfl,vX D rfl⟩
   ·show Vu ((Yc a++(gT [61]::(Yc b++[gT [59]])))++rest) _
    rw [List.append_assoc,List.cons_append,YC];exact Vu.set (by rw [I];exact zfH D) ((Y2 d a u y).full (H _).1 (H _).2) (zfI y U) ((Y2 d b v N).full (o _).1 (o _).2)
   ·show Yc a++(gT [61]::(Yc b++[gT [59]]))=_
    rw [I,List.cons_append]
  ·exact go _ rfl (fun rest _=>Vu.ret0) ⟨_,_,rfl,rfl,rfl⟩
  ·obtain ⟨L,G,I,D⟩:=(Y2 d a u y).hd
   refine go _ rfl (fun rest _=>?_) ⟨_,_,rfl,rfl,rfl⟩
   show Vu (XJ [114,101,116,117,114,110]::(Yc a++[gT [59]]++rest)) _
   rw [YC];exact Vu.ret (by rw [I];exact vX D rfl) ((Y2 d a u y).full (o _).1 (o _).2)
  ·obtain ⟨L,G,I,D⟩:=(Y2 d a u y).hd
   refine go _ rfl (fun rest _=>?_) ⟨L,G++[gT [59]],?_,vX D rfl,vX D rfl⟩
   ·show Vu (Yc a++[gT [59]]++rest) _
    rw [YC];exact Vu.do (by rw [I];exact zfH D) ((Y2 d a u y).full (o _).1 (o _).2)
   ·show Yc a++[gT [59]]=_
    rw [I,List.cons_append]
  ·refine go _ rfl (fun rest _=>?_) ⟨_,_,rfl,rfl,rfl⟩
   have e:uM 4 [] ([a].map Yc) (YE body) (YE els)++rest=XJ [105,102]::(Yc a++(gT [123]::(YE body++(gT [125]::XJ [101,108,115,101]::gT [123]::(YE els++(gT [125]::rest)))))):=by
    show (XJ [105,102]::(Yc a++(gT [123]::(YE body++(gT [125]::XJ [101,108,115,101]::gT [123]::(YE els++[gT [125]]))))))++rest=_
    simp
   rw [e];exact Vu.ife ((Y2 d a u y).full (z _).1 (z _).2) (xF (A J) _) (xF (A V) rest)
  ·rcases T with rfl | rfl
   ·refine go _ rfl (fun rest hn=>?_) ⟨_,_,rfl,rfl,rfl⟩
    have e:uM 3 [] ([a].map Yc) (YE body) (YE [])++rest=XJ [105,102]::(Yc a++(gT [123]::(YE body++(gT [125]::rest)))):=by
     show (XJ [105,102]::(Yc a++(gT [123]::(YE body++[gT [125]]))))++rest=_
     simp
    rw [e];exact Vu.if ((Y2 d a u y).full (z _).1 (z _).2) (xF (A J) _) hn
   ·refine go _ rfl (fun rest _=>?_) ⟨_,_,rfl,rfl,rfl⟩
    have e:uM 5 [] ([a].map Yc) (YE body) (YE [])++rest=XJ [119,104,105,108,101]::(Yc a++(gT [123]::(YE body++(gT [125]::rest)))):=by
     show (XJ [119,104,105,108,101]::(Yc a++(gT [123]::(YE body++[gT [125]]))))++rest=_
     simp
    rw [e];exact Vu.while ((Y2 d a u y).full (z _).1 (z _).2) (xF (A J) _)
theorem zfK {l:List UInt8} (h:xx l=true):l=91::(Yq l++[93]):=by
 have A:=YL h
 unfold xx Lib.hasPrefix Lib.hasSuffix at h
 rw [Bool.and_eq_true] at h;obtain ⟨z,y⟩:=h;obtain ⟨a,rfl⟩:=List.isPrefixOf_iff_prefix.1 z;obtain ⟨b,o⟩:=List.isSuffixOf_iff_suffix.1 y;cases b with
 | nil=>simp at o
 | cons c b =>
  simp only [List.cons_append,List.nil_append,List.cons.injEq] at o;obtain ⟨rfl,rfl⟩:=o
  unfold Yq
  simp
def brT (s:List UInt8):Nat:=(s.length-(ZF s).length) / 2
theorem XL:∀(n:Nat) (s:List UInt8),s.length≤n→s=List.replicate (brT s) 91++(ZF s++List.replicate (brT s) 93)
 | 0,s,h=>by
  obtain rfl:=List.eq_nil_of_length_eq_zero (Nat.le_zero.1 h)
  rfl
 | n+1,s,h=>by
  by_cases hp:xx s=true
  ·have o:=Vl hp
   have G:=Xi s (YL hp);have A:=XL n (Yq s) (by omega)
   have z:(ZF (Yq s)).length≤(Yq s).length:=qY _ _;have y:brT s=brT (Yq s)+1:=by unfold brT;rw [o];omega
   have D:=zfK hp;rw [y,o,List.replicate_succ,List.replicate_succ',List.cons_append];rw [←List.append_assoc (ZF _),←List.append_assoc (List.replicate _ _),←A];exact D
  ·have o:=XD (Bool.eq_false_iff.2 hp)
   have y:brT s=0:=by unfold brT;rw [o];omega
   rw [y,o]
   simp
theorem zd7 (m:Nat) (n s:List UInt8) (hs:s=List.replicate m 91++(n++List.replicate m 93)):s.take m++(n++s.drop (s.length-m))=s:=by
 have o:s.take m=List.replicate m 91:=by rw [hs];exact List.take_left' (by simp)
 have h:s.length-m=(List.replicate m (91:UInt8)++n).length:=by rw [hs];simp only [List.length_append,List.length_replicate];omega
 have y:s.drop (s.length-m)=List.replicate m 93:=by
  rw [h];generalize hL:(List.replicate m (91:UInt8)++n).length=L;rw [hs,←List.append_assoc];exact List.drop_left' hL
 rw [o,y];exact hs.symm
theorem zd8 {s t:List UInt8} (h:typeO s=some t):tokO 1 0 (ZF s)=some (ZF s)∧t=s:=by
 unfold typeO at h
 obtain ⟨a,b,D,z,rfl⟩:=zn h;obtain ⟨c,e,y,A,rfl⟩:=zn z;obtain ⟨G,o⟩:=Xp y (by decide)
 have o:c=ZF s:=o;subst o;refine ⟨y,?_⟩;obtain rfl:=Option.some.inj D;obtain rfl:=Option.some.inj A;exact zd7 (brT s) (ZF s) s (XL s.length s (Nat.le_refl _))
def ktT (s:List UInt8):List Tk:=List.replicate (brT s) (gT [91])++(nmT (ZF s)::List.replicate (brT s) (gT [93]))
def qj (p:List UInt8 × List UInt8):List Tk:=nmT p.1::gT [58]::ktT p.2
theorem zaa {Q:UInt8→Prop} {b:List UInt8} {B:List Tk} (h:Lx Q b B) (hd:Hd Sg b):∀m,Lx Q (List.replicate m 91++b) (List.replicate m (gT [91])++B)∧Hd Sg (List.replicate m 91++b)
 | 0=>⟨h,hd⟩
 | m+1=>⟨Lx.one 91 (by decide) (zaa h hd m).1 (zaa h hd m).2,91,_,rfl,by decide⟩
theorem zbl:∀m,Lx Sg (List.replicate (m+1) 93) (List.replicate (m+1) (gT [93]))
 | 0=>Lx.sign (s:=[93]) (by decide)
 | m+1=>Lx.one 93 (by decide) (zbl m) ⟨93,_,rfl,by decide⟩
theorem zbm {s t:List UInt8} (h:typeO s=some t):Q6 t (ktT s):=by
 obtain ⟨G,rfl⟩:=zd8 h;obtain ⟨y,D⟩:=Lx.name G
 have A:Lx Sp (ZF t++List.replicate (brT t) 93) (nmT (ZF t)::List.replicate (brT t) (gT [93])):=by
  cases brT t with
  | zero =>
   rw [List.replicate_zero,List.append_nil];exact y.mono fun _=>zbf
  | succ m=>exact y.app ((zbl m).mono fun _=>zc8) ⟨93,_,rfl,by decide⟩
 obtain ⟨z,o⟩:=zaa A (D.app _) (brT t);rw [←XL t.length t (Nat.le_refl _)] at z o;exact ⟨z,o⟩
theorem zg5 {p:List UInt8 × List UInt8} {t:List UInt8} (h:parO p=some t):Q6 t (qj p):=by
 unfold parO at h
 obtain ⟨a,b,H,o,rfl⟩:=zn h;obtain ⟨c,e,y,A,rfl⟩:=zn o;obtain rfl:=Option.some.inj y;obtain ⟨G,z⟩:=Lx.name H;have D:=zbm A;exact ⟨G.app (Lx.one 58 (by decide) (Lx.bl (c:=32) (by decide) D.lx) ⟨32,_,rfl,by decide⟩) ⟨58,_,rfl,by decide⟩,z.app _⟩
theorem U4:∀(k:Nat) (rest:List Tk),ZS k (List.replicate k (gT [93])++rest)=.ok rest
 | 0,_=>rfl
 | k+1,rest=>by
  rw [List.replicate_succ,List.cons_append,ZS];exact (if_pos rfl).trans (U4 k rest)
theorem U5 (n:List UInt8) (rest:List Tk):∀(m k:Nat),ZB k (List.replicate m (gT [91])++(nmT n::(List.replicate (k+m) (gT [93])++rest)))=.ok (List.replicate (k+m) 91++n++List.replicate (k+m) 93,rest)
 | 0,k=>by
  show ZB k (nmT n::(List.replicate k (gT [93])++rest))=_
  rw [ZB];refine (if_neg Bool.false_ne_true).trans ((if_pos rfl).trans ?_);rw [U4]
  rfl
 | m+1,k=>by
  have h:=U5 n rest m (k+1);rw [show k+1+m=k+(m+1) by omega] at h
  rw [List.replicate_succ,List.cons_append,ZB];exact (if_pos rfl).trans h
theorem Qo (s:List UInt8) (rest:List Tk):ZB 0 (ktT s++rest)=.ok (s,rest):=by
 have h:=U5 (ZF s) rest (brT s) 0;rw [Nat.zero_add] at h
 unfold ktT
 rw [List.append_assoc,List.cons_append,h,List.append_assoc,←XL s.length s (Nat.le_refl _)]
theorem zbn (p:List UInt8 × List UInt8) (rest:List Tk):Z8 (qj p++rest)=.ok (p,rest):=by
 unfold Z8
 refine (if_pos rfl).trans ((if_pos rfl).trans ?_);rw [show (qj p++rest).tail.tail=ktT p.2++rest from rfl,Qo]
 rfl
def PMm (pre:List Pm) (ts:List Tk) (r:PR (List Pm)):Prop:=∃f,zN f pre ts=some r
theorem ur:∀(l:List Pm) (pre:List Pm) (rest:List Tk),l≠[]→zm (zv rest) [44]=false→PMm pre (yM (l.map qj)++rest) (.ok (pre++l,rest))
 | [],_,_,h,_=>absurd rfl h
 | [x],pre,rest,_,hc=>by
  refine ⟨1,?_⟩;show zN 1 pre (qj x++[]++rest)=_
  rw [List.append_nil,zN,zbn];simp only;rw [if_neg (by rw [hc];decide)]
 | x::y::xs,pre,rest,_,hc=>by
  obtain ⟨f,o⟩:=ur (y::xs) (pre++[x]) rest (by simp) hc
  refine ⟨f+1,?_⟩;have z:yM ((x::y::xs).map qj)++rest=qj x++(gT [44]::(yM ((y::xs).map qj)++rest)):=by simp [yM,vB]
  rw [z,zN,zbn];simp only;refine (if_pos rfl).trans ?_;show zN f (pre++[x]) (yM ((y::xs).map qj)++rest)=_
  rw [o]
  simp
def zzR (x:Rz):Rc:=⟨x.name,x.fields,0⟩
def zzF (x:Fz):Fc:=⟨x.name,x.params,x.result,zzC x.body,0⟩
def zzG (x:Pz):Pg:=⟨x.recs.map zzR,x.funs.map zzF⟩
def U6 (s:List UInt8):List Tk:=if s=[] then [] else gT [58]::ktT s
def ktR (x:Rz):List Tk:=XJ [114,101,99,111,114,100]::nmT x.name::gT [123]::(yM (x.fields.map qj)++[gT [125]])
def ktF (x:Fz):List Tk:=XJ [102,110]::nmT x.name::gT [40]::(yM (x.params.map qj)++(gT [41]::(U6 x.result++(gT [123]::(YE x.body++[gT [125]])))))
def ktG (x:Pz):List Tk:=x.recs.flatMap ktR++x.funs.flatMap ktF
abbrev eoT:Tk:=⟨0,[],0,0,0⟩
theorem U7 {α:Type} {g:α→Option (List UInt8)} {K:α→List Tk} {l:List α} (ih:∀x∈l,∀t,g x=some t→Lx U2 t (K x)):∀(i:Nat) (v:List UInt8),i≤l.length→yL (l.map g) i=some v→Lx U2 v ((l.take i).flatMap K)
 | 0,v,_,h=>by
  obtain rfl:=Option.some.inj h;exact Lx.nil _
 | i+1,v,hi,h=>by
  unfold yL at h
  obtain ⟨a,b,z,o,rfl⟩:=zn h;rw [List.getElem?_map,List.getElem?_eq_getElem (by omega)] at o
  have y:=ih _ (List.getElem_mem (show i<l.length by omega)) b o
  rw [List.take_succ_eq_append_getElem (by omega),List.flatMap_append]
  refine (U7 ih i a (by omega) z).then ?_
  show Lx U2 b (K l[i]++[])
  rw [List.append_nil];exact y
theorem zbo {l:List (List UInt8 × List UInt8)} {v:List UInt8} (h:rowO (l.map parO) l.length=some v):Lx Sp v (yM (l.map qj))∧(v=[]∨Hd Sg v):=by
 obtain ⟨o,y,z⟩:=Q7 (g:=parO) (K:=qj) (fun x _ t h=>zg5 h) l.length v (Nat.le_refl _) h
 rw [List.take_length] at o;refine ⟨o,?_⟩
 by_cases h0:l.length=0
 ·exact .inl (z h0)
 ·exact .inr (y (by omega))
theorem zg8 (x:Rz) {t:List UInt8} (h:recO x.name x.fields=some t):Lx U2 t (ktR x):=by
 unfold recO at h
 split at h
 case isFalse=>cases h
 case isTrue hl =>
 obtain ⟨x1,U,A,D,rfl⟩:=zn h;obtain ⟨x2,W,H,L,rfl⟩:=zn D;obtain ⟨Y,O,N,o,rfl⟩:=zn L;obtain ⟨Q,R,z,J,rfl⟩:=zn o;obtain rfl:=Option.some.inj A;obtain rfl:=Option.some.inj N;obtain rfl:=Option.some.inj J;obtain ⟨I,V⟩:=Lx.name H;obtain ⟨G,T⟩:=zbo z;have y:Lx U2 [32,125,10] [gT [125]]:=Lx.bl (c:=32) (by decide) (Lx.one 125 (by decide) Lx.nl ⟨10,[],rfl,by decide⟩)
 exact (Lx.word (s:=[114,101,99,111,114,100]) (by decide)).app (Lx.bl (c:=32) (by decide) (I.app (Lx.bl (c:=32) (by decide) (Lx.one 123 (by decide) (Lx.bl (c:=32) (by decide) (G.app y ⟨32,_,rfl,by decide⟩)) ⟨32,_,rfl,by decide⟩)) ⟨32,_,rfl,by decide⟩)) ⟨32,_,rfl,by decide⟩
theorem zg9 (x:Fz) {t:List UInt8} (h:funO x=some t):Lx U2 t (ktF x):=by
 unfold funO at h
 obtain ⟨x1,y1,R,U,rfl⟩:=zn h;obtain ⟨x2,y2,e2,g2,rfl⟩:=zn U;obtain ⟨x3,y3,e3,N,rfl⟩:=zn g2;obtain ⟨O,y4,Q,g4,rfl⟩:=zn N;obtain ⟨x5,y5,e5,T,rfl⟩:=zn g4;obtain ⟨A,y6,D,Z,rfl⟩:=zn T;obtain ⟨x7,y7,V,g7,rfl⟩:=zn Z;obtain ⟨o,y8,e8,g8,rfl⟩:=zn g7;obtain rfl:=Option.some.inj R;obtain rfl:=Option.some.inj e3;obtain rfl:=Option.some.inj e5;obtain rfl:=Option.some.inj V;obtain rfl:=Option.some.inj g8;obtain ⟨W,n2⟩:=Lx.name e2;obtain ⟨r1,H⟩:=zbo Q;obtain ⟨b1,b2⟩:=Uf (fun y _ t h=>zfD 24 y t h) e8
 have J:Lx U2 (o++[10]) ((gT [123]::(YE x.body++[gT [125]]))++[]):=b1.app Lx.nl ⟨10,_,rfl,by decide⟩
 rw [List.append_nil] at J;have z:Lx U2 (32::(o++[10])) (gT [123]::(YE x.body++[gT [125]])):=Lx.bl (c:=32) (by decide) J
 have I:Lx U2 (A++(32::(o++[10]))) (U6 x.result++(gT [123]::(YE x.body++[gT [125]])))∧Hd Sg (A++(32::(o++[10]))):=by
  unfold U6
  by_cases h0:x.result=[]
  ·rw [if_pos h0] at D ⊢
   obtain rfl:=Option.some.inj D;exact ⟨z,32,_,rfl,by decide⟩
  ·rw [if_neg h0] at D ⊢
   obtain ⟨z1,z2,f1,f2,rfl⟩:=zn D;obtain rfl:=Option.some.inj f1;have L:=zbm f2;exact ⟨Lx.one 58 (by decide) (Lx.bl (c:=32) (by decide) (L.lx.app z ⟨32,_,rfl,by decide⟩)) ⟨32,_,rfl,by decide⟩,58,_,rfl,by decide⟩
 have hc:Lx U2 (41::(A++(32::(o++[10])))) (gT [41]::(U6 x.result++(gT [123]::(YE x.body++[gT [125]])))):=Lx.one 41 (by decide) I.1 I.2
 have Y:=r1.app hc ⟨41,_,rfl,by decide⟩
 have G:Hd Sg (O++(41::(A++(32::(o++[10]))))):=by
  rcases H with rfl | H
  ·exact ⟨41,_,rfl,by decide⟩
  ·exact H.app _
 exact (Lx.word (s:=[102,110]) (by decide)).app (Lx.bl (c:=32) (by decide) (W.app (Lx.one 40 (by decide) Y G) ⟨40,_,rfl,by decide⟩)) ⟨32,_,rfl,by decide⟩
theorem zct {f:Nat} (k:Nat) {pre:List Pm} {ts:List Tk} {r:PR (List Pm)} (h:zN f pre ts=some r):zN (f+k) pre ts=some r:=by
 induction k with
 | zero=>exact h
 | succ k ih=>exact Yz ih
theorem zbp (s:List UInt8) (us:List Tk):Z3 (nmT s::us)=some (.ok (s,us)):=rfl
theorem zfL (x:Rz) (hl:x.fields≠[]) (rest:List Tk):∃f,Zl f 0 (nmT x.name::gT [123]::(yM (x.fields.map qj)++(gT [125]::rest)))=some (.ok (zzR x,rest)):=by
 obtain ⟨f,h⟩:=ur x.fields [] (gT [125]::rest) hl rfl;refine ⟨f,?_⟩
 unfold Zl
 rw [zbp];simp only [zh,Z1,h]
 rfl
theorem zd9 (l:List Pm) (rest:List Tk):∃f,yo f (gT [40]::(yM (l.map qj)++(gT [41]::rest)))=some (.ok (l,rest)):=by
 by_cases hl:l=[]
 ·subst hl
  refine ⟨0,?_⟩
  unfold yo
  rw [Z1];simp only [zh];exact if_pos rfl
 ·obtain ⟨f,h⟩:=ur l [] (gT [41]::rest) hl rfl
  refine ⟨f,?_⟩
  unfold yo
  rw [Z1];simp only [zh];refine (if_neg ?_).trans ?_
  ·cases l with
   | nil=>exact absurd rfl hl
   | cons p ps=>exact Bool.false_ne_true
  ·rw [h]
   simp only [Z1]
   rfl
theorem zha {f:Nat} (k:Nat) {ts:List Tk} {r:PR (List Pm)} (h:yo f ts=some r):yo (f+k) ts=some r:=by
 unfold yo at h ⊢
 refine yC h fun _ us r h=>?_
 split at h
 ·rename_i o;rw [if_pos o];exact h
 ·rename_i o;rw [if_neg o];exact zG h (fun _=>zct k) fun _ _ _ h=>h
theorem zfM (x:Fz) (hb:∀y∈x.body,RdS y) (rest:List Tk):∃f,ZX f 0 (nmT x.name::gT [40]::(yM (x.params.map qj)++(gT [41]::(U6 x.result++(gT [123]::(YE x.body++(gT [125]::rest)))))))=some (.ok (zzF x,rest)):=by
 obtain ⟨f,A⟩:=zd9 x.params (U6 x.result++(gT [123]::(YE x.body++(gT [125]::rest))));obtain ⟨h,o⟩:=xF hb rest;refine ⟨f+h,?_⟩
 have z:xK (U6 x.result++(gT [123]::(YE x.body++(gT [125]::rest))))=some (.ok (x.result,gT [123]::(YE x.body++(gT [125]::rest)))):=by
  unfold xK U6
  by_cases h0:x.result=[]
  ·rw [h0];rfl
  ·rw [if_neg h0]
   refine (if_pos rfl).trans ?_;show some (ZB 0 (ktT x.result++_))=_
   rw [Qo]
 unfold ZX
 rw [zbp];simp only [zh,zha h A,z];rw [Nat.add_comm f h,vC f o]
 rfl
def PGm (rs:List Rc) (fs:List Fc) (ts:List Tk) (r:PR Pg):Prop:=∃f,Zm f rs fs ts=some r
theorem PGm.record {rs:List Rc} {fs:List Fc} {ts:List Tk} {r:PR Pg} {x:Rz} (hl:x.fields≠[]) (h:PGm (rs++[zzR x]) fs ts r):PGm rs fs (ktR x++ts) r:=by
 obtain ⟨f,h⟩:=h;obtain ⟨o,y⟩:=zfL x hl ts;refine ⟨f+o+1,?_⟩;have e:ktR x++ts=XJ [114,101,99,111,114,100]::(nmT x.name::gT [123]::(yM (x.fields.map qj)++(gT [125]::ts))):=by simp [ktR]
 rw [e,Zm];refine (if_neg (by simp [zv])).trans ((if_pos rfl).trans ?_)
 show zh (Zl (f+o) 0 (nmT x.name::gT [123]::(yM (x.fields.map qj)++(gT [125]::ts)))) (fun x us=>Zm (f+o) (rs++[x]) fs us)=_
 rw [show Zl (f+o) 0 (nmT x.name::gT [123]::(yM (x.fields.map qj)++(gT [125]::ts)))=some (.ok (zzR x,ts)) by rw [Nat.add_comm f o];exact Vp y]
 exact VU h
theorem PGm.fn {rs:List Rc} {fs:List Fc} {ts:List Tk} {r:PR Pg} {x:Fz} (hb:∀y∈x.body,RdS y) (h:PGm rs (fs++[zzF x]) ts r):PGm rs fs (ktF x++ts) r:=by
 obtain ⟨f,h⟩:=h;obtain ⟨o,z⟩:=zfM x hb ts;refine ⟨f+o+1,?_⟩;have e:ktF x++ts=XJ [102,110]::(nmT x.name::gT [40]::(yM (x.params.map qj)++(gT [41]::(U6 x.result++(gT [123]::(YE x.body++(gT [125]::ts))))))):=by simp [ktF]
 rw [e,Zm];refine (if_neg (by simp [zv])).trans ((if_neg Bool.false_ne_true).trans ((if_pos rfl).trans ?_))
 show zh (ZX (f+o) 0 (nmT x.name::gT [40]::(yM (x.params.map qj)++(gT [41]::(U6 x.result++(gT [123]::(YE x.body++(gT [125]::ts)))))))) (fun x us=>Zm (f+o) rs (fs++[x]) us)=_
 rw [show ZX (f+o) 0 (nmT x.name::gT [40]::(yM (x.params.map qj)++(gT [41]::(U6 x.result++(gT [123]::(YE x.body++(gT [125]::ts)))))))=some (.ok (zzF x,ts)) by rw [Nat.add_comm f o];exact UK z]
 exact VU h
theorem Qp:∀(l:List Fz) (rs:List Rc) (fs:List Fc),(∀x∈l,∀y∈x.body,RdS y)→PGm rs fs (l.flatMap ktF++[eoT]) (.ok (⟨rs,fs++l.map zzF⟩,[eoT]))
 | [],rs,fs,_=>⟨1,by
  show Zm 1 rs fs [eoT]=_
  rw [Zm,List.map_nil,List.append_nil]
  exact if_pos rfl⟩
 | x::xs,rs,fs,h=>by
  have o:=Qp xs rs (fs++[zzF x]) fun y hy=>h y (List.mem_cons_of_mem _ hy)
  have e:(x::xs).flatMap ktF++[eoT]=ktF x++(xs.flatMap ktF++[eoT]):=by rw [List.flatMap_cons,List.append_assoc]
  have z:fs++(x::xs).map zzF=fs++[zzF x]++xs.map zzF:=by simp
  rw [e,z];exact PGm.fn (h x (List.mem_cons_self ..)) o
theorem Qq:∀(l:List Rz) (rs:List Rc) (fs:List Fc) (ts:List Tk) (r:PR Pg),(∀x∈l,x.fields≠[])→PGm (rs++l.map zzR) fs ts r→PGm rs fs (l.flatMap ktR++ts) r
 | [],rs,fs,ts,r,_,h=>by
  rw [List.map_nil,List.append_nil] at h;exact h
 | x::xs,rs,fs,ts,r,hl,h=>by
  have e:(x::xs).flatMap ktR++ts=ktR x++(xs.flatMap ktR++ts):=by rw [List.flatMap_cons,List.append_assoc]
  rw [e];refine PGm.record (hl x (List.mem_cons_self ..)) (Qq xs (rs++[zzR x]) fs ts r (fun y hy=>hl y (List.mem_cons_of_mem _ hy)) ?_)
  have o:rs++(x::xs).map zzR=rs++[zzR x]++xs.map zzR:=by simp
  rw [←o];exact h
theorem zhb:xE 1 []=some [eoT]:=by
 have h:Z4 []=0:=by rw [vF];rfl
 rw [xE,h]
 rfl
theorem zea {x:Pz} {t:List UInt8} (h:vd x=some t):(∃f,xE f t=some (ktG x++[eoT]))∧PGm [] [] (ktG x++[eoT]) (.ok (zzG x,[eoT])):=by
 unfold vd at h
 obtain ⟨a,b,L,I,rfl⟩:=zn h
 constructor
 ·have D:=U7 (g:=fun r:Rz=>recO r.name r.fields) (K:=ktR) (fun x _ t h=>zg8 x h) x.recs.length a (Nat.le_refl _) L
  have J:=U7 (g:=funO) (K:=ktF) (fun x _ t h=>zg9 x h) x.funs.length b (Nat.le_refl _) I
  rw [List.take_length] at D J;obtain ⟨f,H⟩:=(D.then J) [] 1 [eoT] (fun _ _=>trivial) zhb
  rw [List.append_nil] at H;exact ⟨f,H⟩
 ·unfold ktG
  rw [List.append_assoc];refine Qq x.recs [] [] _ _ (fun y hy=>?_) (Qp x.funs _ [] fun y hy z hz=>?_)
  ·obtain ⟨j,A,rfl⟩:=List.getElem_of_mem hy
   obtain ⟨u,o⟩:=VW L j A;rw [List.getElem?_map,List.getElem?_eq_getElem A] at o;have o:recO x.recs[j].name x.recs[j].fields=some u:=o
   unfold recO at o
   split at o
   ·rename_i G
    intro e;rw [e] at G;exact absurd G (by decide)
   ·cases o
  ·obtain ⟨j,A,rfl⟩:=List.getElem_of_mem hy
   obtain ⟨u,o⟩:=VW I j A;rw [List.getElem?_map,List.getElem?_eq_getElem A] at o;have o:funO x.funs[j]=some u:=o
   unfold funO at o
   obtain ⟨_,_,_,R,-⟩:=zn o;obtain ⟨_,_,_,U,-⟩:=zn R;obtain ⟨_,_,_,O,-⟩:=zn U;obtain ⟨_,_,_,T,-⟩:=zn O;obtain ⟨_,_,_,Q,-⟩:=zn T;obtain ⟨_,_,_,V,-⟩:=zn Q;obtain ⟨_,_,_,Y,-⟩:=zn V;obtain ⟨_,_,W,_,-⟩:=zn Y;obtain ⟨t,N⟩:=zdc W z hz;exact zfJ 24 z t N
end Go.Proofs.YtpejpbbdgblbeaaGreatDoor
