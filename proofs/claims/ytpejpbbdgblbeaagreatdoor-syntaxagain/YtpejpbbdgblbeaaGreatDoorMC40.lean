import Derived.Test.YtpejpbbdgblbeaaGreatDoorMC37
import Derived.Test.YtpejpbbdgblbeaaGreatDoorMC9
import Derived.Test.YtpejpbbdgblbeaaGreatDoorMC13
import Derived.Test.YtpejpbbdgblbeaaGreatDoorMC39
namespace Go.Proofs.YtpejpbbdgblbeaaGreatDoor
open Go.RowKit Go.Shelf
def BT (least:Nat) (ts:List Tk) (r:PR Ex):Prop:=∃f,zf f least ts=some r
def MO (least:Nat) (e:Ex) (ts:List Tk) (r:PR Ex):Prop:=∃f,Zp f least e ts=some r
def UN (ts:List Tk) (r:PR Ex):Prop:=∃f,Zg f ts=some r
def BH (e:Ex) (ts:List Tk) (r:PR Ex):Prop:=∃f,zw f e ts=some r
def SG (ts:List Tk) (r:PR Ex):Prop:=∃f,zC f ts=some r
def RW (pre:List Ex) (ts:List Tk) (r:PR (List Ex)):Prop:=∃f,ZY f pre ts=some r
def BR (ts:List Tk) (r:PR (List Ex)):Prop:=∃f,zA f ts=some r
theorem yE {f:Nat} (k:Nat) {least:Nat} {ts:List Tk} {r:PR Ex} (h:zf f least ts=some r):zf (f+k) least ts=some r:=by
 induction k with
 | zero=>exact h
 | succ k ih=>exact (Yi (f+k)).1 _ _ _ ih
theorem zc4 {f:Nat} (k:Nat) {least:Nat} {e:Ex} {ts:List Tk} {r:PR Ex} (h:Zp f least e ts=some r):Zp (f+k) least e ts=some r:=by
 induction k with
 | zero=>exact h
 | succ k ih=>exact (Yi (f+k)).2.1 _ _ _ _ ih
theorem Qn {f:Nat} (k:Nat) {e:Ex} {ts:List Tk} {r:PR Ex} (h:zw f e ts=some r):zw (f+k) e ts=some r:=by
 induction k with
 | zero=>exact h
 | succ k ih=>exact (Yi (f+k)).2.2.2.1 _ _ _ ih
theorem zd4 {f:Nat} (k:Nat) {ts:List Tk} {r:PR Ex} (h:zC f ts=some r):zC (f+k) ts=some r:=by
 induction k with
 | zero=>exact h
 | succ k ih=>exact (Yi (f+k)).2.2.2.2.1 _ _ ih
theorem zig {f:Nat} (k:Nat) {pre:List Ex} {ts:List Tk} {r:PR (List Ex)} (h:ZY f pre ts=some r):ZY (f+k) pre ts=some r:=by
 induction k with
 | zero=>exact h
 | succ k ih=>exact (Yi (f+k)).2.2.2.2.2.1 _ _ _ ih
theorem BT.unary {least:Nat} {ts:List Tk} {r:PR Ex} (h6:6<least) (h:UN ts r):BT least ts r:=by
 obtain ⟨f,h⟩:=h;exact ⟨f+1,by rw [zf,if_pos h6];exact h⟩
theorem BT.more {least:Nat} {ts us:List Tk} {e:Ex} {r:PR Ex} (h6:¬ 6<least) (h:BT (least+1) ts (.ok (e,us))) (o:MO least e us r):BT least ts r:=by
 obtain ⟨f,h⟩:=h;obtain ⟨y,o⟩:=o;refine ⟨f+y+1,?_⟩;rw [zf,if_neg h6,yE y h];simp only [zh];rw [Nat.add_comm f y];exact zc4 f o
theorem MO.go {least:Nat} {t:Tk} {ts us:List Tk} {e e2:Ex} {r:PR Ex} (hk:t.k=4) (hl:levelOf t.s=least) (h:BT (least+1) ts (.ok (e2,us))) (y:MO least (.mk 7 t.s 0 [e,e2] e.line) us r):MO least e (t::ts) r:=by
 obtain ⟨f,h⟩:=h;obtain ⟨o,y⟩:=y;refine ⟨f+o+1,?_⟩;rw [Zp];refine (if_pos ⟨hk,hl⟩).trans ?_;show zh (zf (f+o) (least+1) ts) (fun e2 ts'=>Zp (f+o) least (.mk 7 t.s 0 [e,e2] e.line) ts')=_
 rw [yE o h];simp only [zh];rw [Nat.add_comm f o];exact zc4 f y
theorem MO.stop {least:Nat} {ts:List Tk} {e:Ex} (h:¬ ((zv ts).k=4∧levelOf (zv ts).s=least)):MO least e ts (.ok (e,ts)):=⟨1,by rw [Zp,if_neg h]⟩
theorem UN.sign {t:Tk} {ts us:List Tk} {e:Ex} (hk:t.k=4) (hs:t.s=[45]∨t.s=[33]) (h:UN ts (.ok (e,us))):UN (t::ts) (.ok (.mk 6 t.s 0 [e] t.line,us)):=by
 obtain ⟨f,h⟩:=h;refine ⟨f+1,?_⟩;rw [Zg];refine (if_pos ⟨hk,hs⟩).trans ?_;show zh (Zg f ts) (fun e ts'=>some (.ok (Ex.mk 6 t.s 0 [e] t.line,ts')))=_
 rw [h]
 rfl
theorem UN.single {ts us:List Tk} {e:Ex} {r:PR Ex} (hn:¬ ((zv ts).k=4∧((zv ts).s=[45]∨(zv ts).s=[33]))) (h:SG ts (.ok (e,us))) (o:BH e us r):UN ts r:=by
 obtain ⟨f,h⟩:=h;obtain ⟨y,o⟩:=o;refine ⟨f+y+1,?_⟩;rw [Zg,if_neg hn,zd4 y h];simp only [zh];rw [Nat.add_comm f y];exact Qn f o
abbrev gT (s:List UInt8):Tk:=⟨4,s,0,0,0⟩
theorem Z1 (s:List UInt8) (us:List Tk):zR s (gT s::us)=some (.ok ((),us)):=by
 unfold zR
 rw [if_pos (show zm (zv (gT s::us)) s=true by simp [zv,zm])]
 rfl
theorem BH.index {ts us:List Tk} {e i:Ex} {r:PR Ex} (h:BT 1 ts (.ok (i,gT [93]::us))) (y:BH (.mk 8 [] 0 [e,i] e.line) us r):BH e (gT [91]::ts) r:=by
 obtain ⟨f,h⟩:=h;obtain ⟨o,y⟩:=y;refine ⟨f+o+1,?_⟩;rw [zw];refine (if_pos rfl).trans ?_;show zh (zf (f+o) 1 ts) (fun i ts=>zh (zR [93] ts) fun _ ts=>zw (f+o) (.mk 8 [] 0 [e,i] e.line) ts)=_
 rw [yE o h];simp only [zh,Z1];rw [Nat.add_comm f o];exact Qn f y
theorem BH.field {s:List UInt8} {us:List Tk} {e:Ex} {r:PR Ex} (h:BH (.mk 9 s 0 [e] e.line) us r):BH e (gT [46]::⟨1,s,0,0,0⟩::us) r:=by
 obtain ⟨f,h⟩:=h;refine ⟨f+1,?_⟩;rw [zw];refine (if_neg ?_).trans ((if_pos rfl).trans ?_)
 ·exact Bool.false_ne_true
 ·show zh (Z3 (⟨1,s,0,0,0⟩::us)) (fun s ts=>zw f (.mk 9 s 0 [e] e.line) ts)=_
  rw [show Z3 (⟨1,s,0,0,0⟩::us)=some (.ok (s,us)) from rfl]
  exact h
theorem BH.stop {ts:List Tk} {e:Ex} (h1:zm (zv ts) [91]=false) (h2:zm (zv ts) [46]=false):BH e ts (.ok (e,ts)):=⟨1,by rw [zw,if_neg (by simp [h1]),if_neg (by simp [h2])]⟩
theorem SG.paren {ts us:List Tk} {e:Ex} (h:BT 1 ts (.ok (e,gT [41]::us))):SG (gT [40]::ts) (.ok (e,us)):=by
 obtain ⟨f,h⟩:=h;refine ⟨f+1,?_⟩;rw [zC];refine (if_neg (by simp [zv])).trans ((if_neg (by simp [zv])).trans ((if_neg (by simp [zv])).trans ((if_neg ?_).trans ((if_neg ?_).trans ((if_neg ?_).trans ((if_neg ?_).trans ?_))))))
 iterate 4 (· exact Bool.false_ne_true)
 show zh (zR [40] (gT [40]::ts)) (fun _ ts=>zh (zf f 1 ts) fun e ts=>zh (zR [41] ts) fun _ ts=>some (.ok (e,ts)))=_
 rw [Z1];simp only [zh,h,Z1]
theorem RW.one {pre:List Ex} {ts us:List Tk} {e:Ex} (h:BT 1 ts (.ok (e,us))) (hc:zm (zv us) [44]=false):RW pre ts (.ok (pre++[e],us)):=by
 obtain ⟨f,h⟩:=h;refine ⟨f+1,?_⟩;rw [ZY,h];simp only [zh];rw [if_neg (by simp [hc])]
theorem RW.more {pre:List Ex} {ts us:List Tk} {e:Ex} {r:PR (List Ex)} (h:BT 1 ts (.ok (e,gT [44]::us))) (y:RW (pre++[e]) us r):RW pre ts r:=by
 obtain ⟨f,h⟩:=h;obtain ⟨o,y⟩:=y;refine ⟨f+o+1,?_⟩;rw [ZY,yE o h];simp only [zh];refine (if_pos rfl).trans ?_;show ZY (f+o) (pre++[e]) us=some r
 rw [Nat.add_comm f o];exact zig f y
def uo (ts:List Tk):Nat:=if (zv ts).k=4 then levelOf (zv ts).s else 0
def uq (ts:List Tk):Prop:=zm (zv ts) [91]=false∧zm (zv ts) [46]=false∧zm (zv ts) [40]=false
theorem Q5 {ts:List Tk} {l:Nat} (h:uo ts<l):¬ ((zv ts).k=4∧levelOf (zv ts).s=l):=fun ⟨h1,h2⟩=>by
 unfold uo at h
 rw [if_pos h1] at h;omega
theorem BT.of_unary {K:List Tk} {e:Ex} (h:∀rest,uq rest→UN (K++rest) (.ok (e,rest))):∀(j least:Nat),least+j=7→1≤least→∀(rest:List Tk) (r:PR Ex),uq rest→uo rest≤least→(least≤6→MO least e rest r)→(6<least→r=.ok (e,rest))→BT least (K++rest) r
 | 0,least,hj,_,rest,r,hs,_,_,h7=>by
  obtain rfl:=h7 (by omega)
  exact BT.unary (by omega) (h rest hs)
 | j+1,least,hj,h1,rest,r,hs,hl,hm,h7=>by
  refine BT.more (by omega) (BT.of_unary h j (least+1) (by omega) (by omega) rest (.ok (e,rest)) hs (by omega) (fun _=>MO.stop (Q5 (by omega))) (fun _=>rfl)) (hm (by omega))
theorem BT.of_single {K:List Tk} {e:Ex} (h:∀rest r,zm (zv rest) [40]=false→BH e rest r→UN (K++rest) r) (j least:Nat) (hj:least+j=7) (h1:1≤least) (rest:List Tk) (r:PR Ex) (hs:uq rest) (hl:uo rest≤least) (hm:least≤6→MO least e rest r) (h7:6<least→r=.ok (e,rest)):BT least (K++rest) r :=
 BT.of_unary (fun rest hs=>h rest _ hs.2.2 (BH.stop hs.1 hs.2.1)) j least hj h1 rest r hs hl hm h7
abbrev nmT (s:List UInt8):Tk:=⟨1,s,0,0,0⟩
abbrev XJ (s:List UInt8):Tk:=⟨5,s,0,0,0⟩
def vB:List (List Tk)→List Tk
 | []=>[]
 | t::ts=>gT [44]::(t++vB ts)
def yM:List (List Tk)→List Tk
 | []=>[]
 | t::ts=>t++vB ts
theorem zd5 (a b:List (List Tk)):vB (a++b)=vB a++vB b:=by
 induction a with
 | nil=>rfl
 | cons t ts ih=>rw [List.cons_append,vB,vB,ih];simp
theorem zd6 (a:List (List Tk)) (t:List Tk):yM (a++[t])=if a=[] then t else yM a++(gT [44]::t):=by
 cases a with
 | nil=>simp [yM,vB]
 | cons u us =>
  rw [if_neg (by simp),List.cons_append,yM,yM,zd5,List.append_assoc]
  simp [vB]
def Xn (b:Bool) (T:List Tk):List Tk:=if b=true then T else gT [40]::(T++[gT [41]])
def uK (k:Int) (s:List UInt8) (n:Int) (lv:List Nat) (T:List (List Tk)):List Tk :=
 if k=1 then [⟨2,[],n.toNat,0,0⟩]
 else if k=2 then [XJ (if n=0 then [102,97,108,115,101] else [116,114,117,101])]
 else if k=3 then [⟨3,s,0,0,0⟩]
 else if k=4 then [nmT s]
 else if k=5 then nmT s::gT [40]::(yM T++[gT [41]])
 else if k=11 then XJ [110,101,119]::nmT s::gT [40]::(yM T++[gT [41]])
 else if k=10 then gT [91]::(yM T++[gT [93]])
 else match lv,T with
  | [l],[a]=>if k=6 then gT s::Xn (decide (7≤l)) a else Xn (decide (8≤l)) a++[gT [46],nmT s]
  | [l,m],[a,b]=>if k=7 then Xn (decide (levelOf s≤l)) a++(gT s::Xn (decide (levelOf s+1≤m)) b) else Xn (decide (8≤l)) a++(gT [91]::(b++[gT [93]]))
  | _,_=>[]
mutual
def Yc:Ez→List Tk
 | .mk k s n kids _=>uK k s n (kids.map X7) (ktL kids)
def ktL:List Ez→List (List Tk)
 | []=>[]
 | x::xs=>Yc x::ktL xs
end
theorem zc5 (l:List Ez):ktL l=l.map Yc:=by
 induction l with
 | nil=>rfl
 | cons x xs ih=>rw [ktL,ih];rfl
mutual
def VZ:Ez→Ex
 | .mk k s n kids _=>.mk k.toNat s n (zzL kids) 0
def zzL:List Ez→List Ex
 | []=>[]
 | x::xs=>VZ x::zzL xs
end
theorem zc6 (l:List Ez):zzL l=l.map VZ:=by
 induction l with
 | nil=>rfl
 | cons x xs ih=>rw [zzL,ih];rfl
theorem zn {a b:Option (List UInt8)} {t:List UInt8} (h:zc a b=some t):∃u v,a=some u∧b=some v∧t=u++v:=by
 unfold zc at h
 cases a with
 | none=>cases h
 | some u =>
  cases b with
  | none=>cases h
  | some v=>exact ⟨u,v,rfl,rfl,(Option.some.inj h).symm⟩
theorem Xo {x:Ez} {least:Nat} {o:Option (List UInt8)} {t:List UInt8} (h:kidO x least o=some t):∃v,o=some v∧t=if least≤X7 x then v else 40::(v++[41]):=by
 unfold kidO at h
 split at h
 ·rename_i y
  exact ⟨t,h,by rw [if_pos y]⟩
 ·rename_i y
  obtain ⟨u,v,G,z,rfl⟩:=zn h;obtain ⟨H,w,A,D,rfl⟩:=zn z;obtain rfl:=Option.some.inj G;obtain rfl:=Option.some.inj D;exact ⟨H,A,by rw [if_neg y];rfl⟩
theorem Xp {k n:Int} {s t:List UInt8} (h:tokO k n s=some t) (hk:k≠0):zdF ⟨k,n,s⟩∧t=xI k n s:=by
 unfold tokO tkB at h
 by_cases hb:ZO k n s
 ·rw [if_pos hb] at h
  simp only [if_true] at h;refine ⟨⟨hb,hk,?_⟩,(Option.some.inj h).symm⟩;have y:=hb.2.2.2;have o:=zeY (xI k n s);simp only;omega
 ·rw [if_neg hb] at h
  simp at h
theorem zc7 {d:Nat} {k:Int} {s:List UInt8} {n:Int} {kids:List Ez} {line:Int} {t:List UInt8} (h:prE (d+1) (.mk k s n kids line)=some t) :
  (k=1∧s=[]∧kids=[]∧tokO 2 n []=some t) ∨
  (k=2∧s=[]∧kids=[]∧(n=0∧t=[102,97,108,115,101]∨n=1∧t=[116,114,117,101])) ∨
  (k=3∧n=0∧kids=[]∧tokO 3 0 s=some t) ∨
  (k=4∧n=0∧kids=[]∧tokO 1 0 s=some t) ∨
  (k=5∧n=0∧∃u v,tokO 1 0 s=some u∧rowO (kids.map (prE d)) kids.length=some v∧t=u++(40::(v++[41]))) ∨
  (k=11∧n=0∧∃u v,tokO 1 0 s=some u∧rowO (kids.map (prE d)) kids.length=some v∧t=[110,101,119]++(32::(u++(40::(v++[41]))))) ∨
  (k=10∧n=0∧s=[]∧kids≠[]∧∃v,rowO (kids.map (prE d)) kids.length=some v∧t=91::(v++[93])) ∨
  (k=6∧n=0∧(s=[45]∨s=[33])∧∃a u,kids=[a]∧kidO a 7 (prE d a)=some u∧t=s++u) ∨
  (k=7∧n=0∧0<levelOf s∧∃a b u v,kids=[a,b]∧kidO a (levelOf s) (prE d a)=some u∧kidO b (levelOf s+1) (prE d b)=some v∧t=u++(32::(s++(32::v)))) ∨
  (k=8∧n=0∧s=[]∧∃a b u v,kids=[a,b]∧kidO a 8 (prE d a)=some u∧prE d b=some v∧t=u++(91::(v++[93]))) ∨
  (k=9∧n=0∧∃a u v,kids=[a]∧kidO a 8 (prE d a)=some u∧tokO 1 0 s=some v∧t=u++(46::v)):=by
 rw [X8] at h
 unfold prB at h
 by_cases hex:yQ k s n kids.length=true
 case pos =>
  rw [if_pos hex] at h
  unfold yQ at hex
  by_cases h1:k=1
  ·rw [if_pos h1] at hex h
   simp at hex
   exact .inl ⟨h1,hex.1,hex.2,h⟩
  rw [if_neg h1] at hex h
  right
  by_cases h2:k=2
  ·rw [if_pos h2] at hex h
   simp at hex
   obtain ⟨⟨R,O⟩,H⟩:=hex;refine .inl ⟨h2,R,O,?_⟩;rcases H with H | H
   ·rw [if_pos H] at h;exact .inl ⟨H,(Option.some.inj h).symm⟩
   ·rw [if_neg (by omega)] at h;exact .inr ⟨H,(Option.some.inj h).symm⟩
  rw [if_neg h2] at hex h
  right
  by_cases h3:k=3
  ·rw [if_pos h3] at hex h
   simp at hex
   exact .inl ⟨h3,hex.1,hex.2,h⟩
  rw [if_neg h3] at hex h
  right
  by_cases h4:k=4
  ·rw [if_pos h4] at hex h
   simp at hex
   exact .inl ⟨h4,hex.1,hex.2,h⟩
  rw [if_neg h4] at hex h
  right
  by_cases h5:k=5
  ·rw [if_pos h5] at hex h
   simp at hex
   obtain ⟨u,v,y,z,rfl⟩:=zn h;obtain ⟨u2,I,A,o,rfl⟩:=zn z;obtain ⟨u3,J,G,D,rfl⟩:=zn o;obtain rfl:=Option.some.inj A;obtain rfl:=Option.some.inj D;exact .inl ⟨h5,hex,u,u3,y,G,rfl⟩
  rw [if_neg h5] at hex h
  right
  by_cases h11:k=11
  ·rw [if_pos h11] at hex h
   simp at hex
   obtain ⟨u0,V,U,L,rfl⟩:=zn h;obtain rfl:=Option.some.inj U;obtain ⟨u,v,y,z,rfl⟩:=zn L;obtain ⟨u2,I,A,o,rfl⟩:=zn z;obtain ⟨u3,J,G,D,rfl⟩:=zn o;obtain rfl:=Option.some.inj A;obtain rfl:=Option.some.inj D;exact .inl ⟨h11,hex,u,u3,y,G,by simp⟩
  rw [if_neg h11] at hex h
  right
  by_cases h10:k=10
  ·rw [if_pos h10] at h
   rw [if_neg (by omega),if_neg (by omega),if_neg (by omega),if_neg (by omega),if_pos h10] at hex
   simp at hex
   obtain ⟨u2,I,A,o,rfl⟩:=zn h;obtain ⟨u3,J,G,D,rfl⟩:=zn o;obtain rfl:=Option.some.inj A;obtain rfl:=Option.some.inj D;refine .inl ⟨h10,hex.1.1,hex.2,?_,u3,G,rfl⟩;rintro rfl
   simp at hex
  rw [if_neg h10] at h
  right
  by_cases h6:k=6
  ·rw [if_pos h6] at hex h
   simp at hex
   obtain ⟨a,rfl⟩:=List.length_eq_one_iff.1 hex.1.2;obtain ⟨u,v,y,z,rfl⟩:=zn h;obtain rfl:=Option.some.inj y;exact .inl ⟨h6,hex.1.1,hex.2,a,v,rfl,z,rfl⟩
  rw [if_neg h6] at hex h
  right
  by_cases h7:k=7
  ·rw [if_pos h7] at hex h
   simp at hex
   obtain ⟨a,b,rfl⟩:∃a b,kids=[a,b]:=by
    match kids,hex.1.2 with
    | [a,b],_=>exact ⟨a,b,rfl⟩
   obtain ⟨u,v,y,z,rfl⟩:=zn h;obtain ⟨u2,I,A,o,rfl⟩:=zn z;obtain ⟨u3,J,G,D,rfl⟩:=zn o;obtain ⟨u4,T,Q,N,rfl⟩:=zn D;obtain rfl:=Option.some.inj A;obtain rfl:=Option.some.inj G;obtain rfl:=Option.some.inj Q;exact .inl ⟨h7,hex.1.1,hex.2,a,b,u,T,rfl,y,N,by simp⟩
  rw [if_neg h7] at hex h
  right
  by_cases h8:k=8
  ·rw [if_pos h8] at hex h
   simp at hex
   obtain ⟨a,b,rfl⟩:∃a b,kids=[a,b]:=by
    match kids,hex.1.2 with
    | [a,b],_=>exact ⟨a,b,rfl⟩
   obtain ⟨u,v,y,z,rfl⟩:=zn h;obtain ⟨u2,I,A,o,rfl⟩:=zn z;obtain ⟨u3,J,G,D,rfl⟩:=zn o;obtain rfl:=Option.some.inj A;obtain rfl:=Option.some.inj D;exact .inl ⟨h8,hex.1.1,hex.2,a,b,u,u3,rfl,y,G,by simp⟩
  rw [if_neg h8] at hex h
  right
  by_cases h9:k=9
  ·rw [if_pos h9] at hex h
   simp at hex
   obtain ⟨a,rfl⟩:=List.length_eq_one_iff.1 hex.2;obtain ⟨u,v,y,z,rfl⟩:=zn h;obtain ⟨u2,I,A,o,rfl⟩:=zn z;obtain rfl:=Option.some.inj A;exact ⟨h9,hex.1,a,u,I,rfl,y,o,by simp⟩
  ·rw [if_neg h9] at h;cases h
 case neg=>rw [if_neg hex] at h;cases h
theorem SG.num {n:Nat} {us:List Tk}:SG (⟨2,[],n,0,0⟩::us) (.ok (.mk 1 [] n [] 0,us)):=⟨1,by rw [zC];exact if_pos rfl⟩
theorem SG.text {s:List UInt8} {us:List Tk}:SG (⟨3,s,0,0,0⟩::us) (.ok (.mk 3 s 0 [] 0,us)):=⟨1,by rw [zC];exact (if_neg (by simp [zv])).trans (if_pos rfl)⟩
theorem SG.name {s:List UInt8} {us:List Tk} (h:zm (zv us) [40]=false):SG (nmT s::us) (.ok (.mk 4 s 0 [] 0,us)):=⟨1,by
 rw [zC];refine (if_neg (by simp [zv])).trans ((if_neg (by simp [zv])).trans ((if_pos rfl).trans ((if_neg ?_).trans rfl)))
 show ¬ zm (zv us) [40]=true
 rw [h];decide⟩
theorem SG.yes {us:List Tk}:SG (XJ [116,114,117,101]::us) (.ok (.mk 2 [] 1 [] 0,us)):=⟨1,by
 rw [zC]
 exact (if_neg (by simp [zv])).trans ((if_neg (by simp [zv])).trans ((if_neg (by simp [zv])).trans (if_pos rfl)))⟩
theorem SG.no {us:List Tk}:SG (XJ [102,97,108,115,101]::us) (.ok (.mk 2 [] 0 [] 0,us)):=⟨1,by
 rw [zC]
 exact (if_neg (by simp [zv])).trans ((if_neg (by simp [zv])).trans ((if_neg (by simp [zv])).trans ((if_neg Bool.false_ne_true).trans (if_pos rfl))))⟩
theorem SG.call {s:List UInt8} {ts us:List Tk} {l:List Ex} (h:BR (gT [40]::ts) (.ok (l,us))):SG (nmT s::gT [40]::ts) (.ok (.mk 5 s 0 l 0,us)):=by
 obtain ⟨f,h⟩:=h;refine ⟨f+1,?_⟩;rw [zC];refine (if_neg (by simp [zv])).trans ((if_neg (by simp [zv])).trans ((if_pos rfl).trans ((if_pos rfl).trans ?_)))
 show zh (zA f (gT [40]::ts)) (fun l ts'=>some (.ok (Ex.mk 5 s 0 l 0,ts')))=_
 rw [h]
 rfl
theorem SG.new {s:List UInt8} {ts us:List Tk} {l:List Ex} (h:BR (gT [40]::ts) (.ok (l,us))):SG (XJ [110,101,119]::nmT s::gT [40]::ts) (.ok (.mk 11 s 0 l 0,us)):=by
 obtain ⟨f,h⟩:=h;refine ⟨f+1,?_⟩;rw [zC];refine (if_neg (by simp [zv])).trans ((if_neg (by simp [zv])).trans ((if_neg (by simp [zv])).trans ((if_neg Bool.false_ne_true).trans ((if_neg Bool.false_ne_true).trans ((if_pos rfl).trans ?_)))))
 show zh (zA f (gT [40]::ts)) (fun l ts'=>some (.ok (Ex.mk 11 s 0 l 0,ts')))=_
 rw [h]
 rfl
theorem SG.list {ts us:List Tk} {l:List Ex} (h:RW [] ts (.ok (l,gT [93]::us))):SG (gT [91]::ts) (.ok (.mk 10 [] 0 l 0,us)):=by
 obtain ⟨f,h⟩:=h;refine ⟨f+1,?_⟩;rw [zC];refine (if_neg (by simp [zv])).trans ((if_neg (by simp [zv])).trans ((if_neg (by simp [zv])).trans ((if_neg Bool.false_ne_true).trans ((if_neg Bool.false_ne_true).trans ((if_neg Bool.false_ne_true).trans ((if_pos rfl).trans ?_))))))
 show zh (ZY f [] ts) (fun l ts'=>zh (zR [93] ts') fun _ ts'=>some (.ok (Ex.mk 10 [] 0 l 0,ts')))=_
 rw [h];simp only [zh,Z1]
theorem BR.none {us:List Tk}:BR (gT [40]::gT [41]::us) (.ok ([],us)):=⟨1,by
 rw [zA,Z1];simp only [zh]
 exact if_pos rfl⟩
theorem BR.some {ts us:List Tk} {l:List Ex} (hn:zm (zv ts) [41]=false) (h:RW [] ts (.ok (l,gT [41]::us))):BR (gT [40]::ts) (.ok (l,us)):=by
 obtain ⟨f,h⟩:=h;refine ⟨f+1,?_⟩;rw [zA,Z1];simp only [zh];rw [if_neg (by rw [hn];decide),h]
 simp only [Z1]
def Hk (t:Tk):Bool:=(!(t.k==4||t.k==5)||[[40],[91],[45],[33],[116,114,117,101],[102,97,108,115,101],[110,101,119]].contains t.s)&&t.line==0
theorem vX {t:Tk} {s:List UInt8} (h:Hk t=true) (hs:[[40],[91],[45],[33],[116,114,117,101],[102,97,108,115,101],[110,101,119]].contains s=false):zm t s=false:=by
 unfold Hk at h
 rw [Bool.and_eq_true,Bool.or_eq_true] at h
 unfold zm
 rw [Bool.and_eq_false_iff];rcases h.1 with h | h
 ·exact .inl (by simpa using h)
 ·refine .inr ?_
  rw [beq_eq_false_iff_ne];rintro rfl;rw [hs] at h;cases h
theorem zgY {t:Tk} (h:Hk t=true):t.line=0:=by
 unfold Hk at h
 rw [Bool.and_eq_true] at h
 simpa using h.2
structure Rd (K:List Tk) (e:Ex) (lv:Nat):Prop where
 one:lv=8→∀rest r,zm (zv rest) [40]=false→BH e rest r→UN (K++rest) r
 un:7≤lv→∀rest,uq rest→UN (K++rest) (.ok (e,rest))
 bt:∀j least,least+j=7→1≤least→least≤lv→∀rest r,uq rest→uo rest≤least→(least≤6→MO least e rest r)→(6<least→r=.ok (e,rest))→BT least (K++rest) r
 pos:1≤lv
 line:e.line=0
 hd:∃t us,K=t::us∧Hk t=true
theorem Rd.of_one {K:List Tk} {e:Ex} (h:∀rest r,zm (zv rest) [40]=false→BH e rest r→UN (K++rest) r) (hl:e.line=0) (hh:∃t us,K=t::us∧Hk t=true):Rd K e 8 where
 one _:=h
 un _ rest hs:=h rest _ hs.2.2 (BH.stop hs.1 hs.2.1)
 bt j least hj h1 _ rest r hs hlv hm h7:=BT.of_single h j least hj h1 rest r hs hlv hm h7
 pos:=by decide
 line:=hl
 hd:=hh
theorem Rd.of_un {K:List Tk} {e:Ex} (h:∀rest,uq rest→UN (K++rest) (.ok (e,rest))) (hl:e.line=0) (hh:∃t us,K=t::us∧Hk t=true):Rd K e 7 where
 one h8:=by cases h8
 un _:=h
 bt j least hj h1 _ rest r hs hlv hm h7:=BT.of_unary h j least hj h1 rest r hs hlv hm h7
 pos:=by decide
 line:=hl
 hd:=hh
theorem xh (s:List UInt8) (us:List Tk):uo (gT s::us)=levelOf s:=by
 unfold uo
 exact if_pos rfl
theorem XK {s:List UInt8} {us:List Tk} (h1:s≠[91]) (h2:s≠[46]) (h3:s≠[40]):uq (gT s::us):=by
 refine ⟨?_,?_,?_⟩ <;> simp [zv,zm, *]
theorem Rd.full {K:List Tk} {e:Ex} {lv:Nat} (h:Rd K e lv) {rest:List Tk} (hs:uq rest) (hl:uo rest=0):BT 1 (K++rest) (.ok (e,rest)) :=
 h.bt 6 1 rfl (by decide) h.pos rest _ hs (by omega) (fun _=>MO.stop (Q5 (by omega))) (fun h=>absurd h (by decide))
theorem YC (K:List Tk) (t:Tk) (us:List Tk):(K++[t])++us=K++(t::us):=by simp
theorem Rd.paren {K:List Tk} {e:Ex} {lv:Nat} (h:Rd K e lv):Rd (gT [40]::(K++[gT [41]])) e 8 :=
 Rd.of_one (fun rest r _ hb=>by
  rw [List.cons_append,YC]
  exact UN.single (by simp [zv]) (SG.paren (h.full (XK (by decide) (by decide) (by decide)) (by rw [xh];decide))) hb) h.line ⟨_,_,rfl,rfl⟩
theorem Rd.kid {K:List Tk} {e:Ex} {lv:Nat} (h:Rd K e lv) (least:Nat):Rd (Xn (decide (least≤lv)) K) e (if least≤lv then lv else 8):=by
 unfold Xn
 by_cases hc:least≤lv
 ·rw [if_pos hc,if_pos (decide_eq_true hc)];exact h
 ·rw [if_neg hc,if_neg (by simpa using hc)];exact h.paren
theorem U1:∀(xs:List Ez) (pre:List Ex) (rest:List Tk),(∀x∈xs,∃D,Rd (Yc x) (VZ x) D)→xs≠[]→uq rest→uo rest=0→zm (zv rest) [44]=false→RW pre (yM (xs.map Yc)++rest) (.ok (pre++xs.map VZ,rest))
 | [],_,_,_,h,_,_,_=>absurd rfl h
 | [x],pre,rest,h,_,hs,hl,hc=>by
  obtain ⟨D,A⟩:=h x (List.mem_cons_self ..);show RW pre (Yc x++[]++rest) _
  rw [List.append_nil];exact RW.one (A.full hs hl) hc
 | x::y::xs,pre,rest,h,_,hs,hl,hc=>by
  obtain ⟨D,A⟩:=h x (List.mem_cons_self ..);have G:=U1 (y::xs) (pre++[VZ x]) rest (fun z hz=>h z (List.mem_cons_of_mem _ hz)) (by simp) hs hl hc
  have H:yM ((x::y::xs).map Yc)++rest=Yc x++(gT [44]::(yM ((y::xs).map Yc)++rest)):=by simp [yM,vB]
  have o:pre++(x::y::xs).map VZ=pre++[VZ x]++(y::xs).map VZ:=by simp
  rw [H,o];exact RW.more (A.full (XK (by decide) (by decide) (by decide)) (by rw [xh];decide)) G
theorem zii {xs:List Ez} (h:∀x∈xs,∃o,Rd (Yc x) (VZ x) o) (hn:xs≠[]) (rest:List Tk):zm (zv (yM (xs.map Yc)++rest)) [41]=false:=by
 cases xs with
 | nil=>exact absurd rfl hn
 | cons x xs =>
  obtain ⟨o,z⟩:=h x (List.mem_cons_self ..);obtain ⟨t,D,A,y⟩:=z.hd;rw [List.map_cons,yM,A];exact vX y rfl
theorem vY {xs:List Ez} (h:∀x∈xs,∃lv,Rd (Yc x) (VZ x) lv) (rest:List Tk):BR (gT [40]::(yM (xs.map Yc)++(gT [41]::rest))) (.ok (xs.map VZ,rest)):=by
 by_cases hn:xs=[]
 ·subst hn
  exact BR.none
 ·exact BR.some (zii h hn _) (U1 xs [] _ h hn (XK (by decide) (by decide) (by decide)) (by rw [xh];decide) rfl)
theorem zbe {l:List (Option (List UInt8))}:∀{i:Nat} {v:List UInt8},rowO l i=some v→∀j,j<i→∃t,(l[j]?).getD none=some t
 | 0,_,_,_,h=>by omega
 | i+1,v,h,j,hj=>by
  unfold rowO at h
  obtain ⟨a,b,z,o,-⟩:=zn h;obtain ⟨c,d,-,y,-⟩:=zn o
  by_cases hji:j=i
  ·subst hji;exact ⟨d,y⟩
  ·exact zbe z j (by omega)
theorem zfB {kids:List Ez} {d:Nat} {v:List UInt8} (h:rowO (kids.map (prE d)) kids.length=some v) (x:Ez) (hx:x∈kids):∃t,prE d x=some t:=by
 obtain ⟨j,o,rfl⟩:=List.getElem_of_mem hx;obtain ⟨t,y⟩:=zbe h j o;rw [List.getElem?_map,List.getElem?_eq_getElem o] at y;exact ⟨t,y⟩
theorem zfC:∀x:Ez,X7 x≤8
 | .mk k s n kids line=>by
  have h:=YK s;rw [show X7 (.mk k s n kids line)=if k=7 then levelOf s else if k=6 then 7 else 8 from rfl]
  by_cases h7:k=7
  ·rw [if_pos h7];omega
  ·rw [if_neg h7]
   by_cases h:k=6
   ·rw [if_pos h];decide
   ·rw [if_neg h];exact Nat.le_refl _
theorem Y2:∀(d:Nat) (x:Ez) (t:List UInt8),prE d x=some t→Rd (Yc x) (VZ x) (X7 x)
 | 0,x,t,h=>by rw [prE] at h;cases h
 | d+1,.mk k s n kids line,t,h=>by
  have N:=Y2 d
  have H:∀{v:List UInt8},rowO (kids.map (prE d)) kids.length=some v→∀x∈kids,∃lv,Rd (Yc x) (VZ x) lv:=fun A x hx=>by
   obtain ⟨t,Q⟩:=zfB A x hx;exact ⟨_,N x t Q⟩
  have ai:X7 (.mk k s n kids line)=if k=7 then levelOf s else if k=6 then 7 else 8:=rfl
  have hK:Yc (.mk k s n kids line)=uK k s n (kids.map X7) (kids.map Yc):=by rw [Yc,zc5]
  have hZ:VZ (.mk k s n kids line)=.mk k.toNat s n (kids.map VZ) 0:=by rw [VZ,zc6]
  rw [ai,hK,hZ];rcases zc7 h with ⟨rfl,rfl,rfl,Q⟩ | ⟨rfl,rfl,rfl,hn⟩ | ⟨rfl,rfl,rfl,Q⟩ | ⟨rfl,rfl,rfl,Q⟩ | ⟨rfl,rfl,u,v,J,A,-⟩ | ⟨rfl,rfl,u,v,J,A,-⟩ | ⟨rfl,rfl,rfl,ab,v,A,-⟩ | ⟨rfl,rfl,hs,a,u,rfl,J,-⟩ | ⟨rfl,rfl,Y,a,b,u,v,rfl,J,A,-⟩ | ⟨rfl,rfl,rfl,a,b,u,v,rfl,J,A,-⟩ | ⟨rfl,rfl,a,u,v,rfl,J,A,-⟩
  ·have al:0≤n:=by
    have:=(Xp Q (by decide)).1.1.2.2.2
    simp only at this;omega
   have hz:((n.toNat:Nat):Int)=n:=by omega
   refine Rd.of_one (fun rest r _ y=>UN.single (by simp [zv,uK]) SG.num ?_) rfl ⟨_,_,rfl,rfl⟩
   rw [hz];exact y
  ·rcases hn with ⟨rfl,-⟩ | ⟨rfl,-⟩
   ·exact Rd.of_one (fun rest r _ y=>UN.single (by simp [zv,uK]) SG.no y) rfl ⟨_,_,rfl,rfl⟩
   ·exact Rd.of_one (fun rest r _ y=>UN.single (by simp [zv,uK]) SG.yes y) rfl ⟨_,_,rfl,rfl⟩
  ·exact Rd.of_one (fun rest r _ y=>UN.single (by simp [zv,uK]) SG.text y) rfl ⟨_,_,rfl,rfl⟩
  ·exact Rd.of_one (fun rest r hp y=>UN.single (by simp [zv,uK]) (SG.name hp) y) rfl ⟨_,_,rfl,rfl⟩
  ·refine Rd.of_one (fun rest r _ y=>?_) rfl ⟨_,_,rfl,rfl⟩
   show UN (nmT s::gT [40]::(yM (kids.map Yc)++[gT [41]]++rest)) r
   rw [YC];exact UN.single (by simp [zv]) (SG.call (vY (H A) rest)) y
  ·refine Rd.of_one (fun rest r _ y=>?_) rfl ⟨_,_,rfl,rfl⟩
   show UN (XJ [110,101,119]::nmT s::gT [40]::(yM (kids.map Yc)++[gT [41]]++rest)) r
   rw [YC];exact UN.single (by simp [zv]) (SG.new (vY (H A) rest)) y
  ·refine Rd.of_one (fun rest r _ y=>?_) rfl ⟨_,_,rfl,rfl⟩
   show UN (gT [91]::(yM (kids.map Yc)++[gT [93]]++rest)) r
   rw [YC];exact UN.single (by simp [zv]) (SG.list (U1 kids [] _ (H A) ab (XK (by decide) (by decide) (by decide)) (by rw [xh];decide) rfl)) y
  ·obtain ⟨w,hw,-⟩:=Xo J
   have z:=(N a w hw).kid 7;have h7:7≤(if 7≤X7 a then X7 a else 8):=by split <;> omega
   refine Rd.of_un (fun rest L=>?_) rfl ⟨gT s,_,rfl,?_⟩
   ·exact UN.sign (t:=gT s) rfl hs (z.un h7 rest L)
   ·rcases hs with rfl | rfl <;> rfl
  ·obtain ⟨T,G,-⟩:=Xo J
   obtain ⟨wb,ah,-⟩:=Xo A;have ak:=YK s;have z:=(N a T G).kid (levelOf s);have y:=(N b wb ah).kid (levelOf s+1);have ad:levelOf s≤(if levelOf s≤X7 a then X7 a else 8):=by split <;> omega
   have af:levelOf s+1≤(if levelOf s+1≤X7 b then X7 b else 8):=by split <;> omega
   have aj:s≠[91]:=by rintro rfl;exact absurd Y (by decide)
   have aa:s≠[46]:=by rintro rfl;exact absurd Y (by decide)
   have ae:s≠[40]:=by rintro rfl;exact absurd Y (by decide)
   have ag:∀(j o:Nat),o+j=levelOf s→1≤o→∀rest r,uq rest→uo rest≤o→(o≤6→MO o (.mk 7 s 0 [VZ a,VZ b] 0) rest r)→BT o (Xn (decide (levelOf s≤X7 a)) (Yc a)++(gT s::(Xn (decide (levelOf s+1≤X7 b)) (Yc b)++rest))) r:=by
    intro j
    induction j with
    | zero =>
     intro o hj Z rest r L O W;obtain rfl:o=levelOf s:=by omega
     refine z.bt (7-levelOf s) (levelOf s) (by omega) Z ad _ r (XK aj aa ae) (by rw [xh];exact Nat.le_refl _) (fun _=>?_) (fun h=>absurd h (by omega))
     refine MO.go (t:=gT s) rfl rfl (y.bt (6-levelOf s) (levelOf s+1) (by omega) (by omega) af rest (.ok (VZ b,rest)) L (by omega) (fun _=>MO.stop (Q5 (by omega))) (fun _=>rfl)) ?_
     rw [z.line];exact W (by omega)
    | succ j ihj =>
     intro o hj Z rest r L O W;exact BT.more (by omega) (ihj (o+1) (by omega) (by omega) rest _ L (by omega) (fun _=>MO.stop (Q5 (by omega)))) (W (by omega))
   have h7:(if (7:Int)=7 then levelOf s else if (7:Int)=6 then 7 else 8)=levelOf s:=if_pos rfl
   rw [h7];obtain ⟨V,I,U,R⟩:=z.hd;refine ⟨fun h=>absurd h (by omega),fun h=>absurd h (by omega),fun j o hj Z hll rest r L O W h7=>?_,Y,rfl,⟨V,I++(gT s::Xn (decide (levelOf s+1≤X7 b)) (Yc b)),?_,R⟩⟩
   ·have:=ag (levelOf s-o) o (by omega) Z rest r L O W
    show BT o ((Xn (decide (levelOf s≤X7 a)) (Yc a)++(gT s::Xn (decide (levelOf s+1≤X7 b)) (Yc b)))++rest) r
    rw [List.append_assoc,List.cons_append];exact this
   ·show Xn (decide (levelOf s≤X7 a)) (Yc a)++(gT s::Xn (decide (levelOf s+1≤X7 b)) (Yc b))=_
    rw [U,List.cons_append]
  ·obtain ⟨T,G,-⟩:=Xo J
   have z:=(N a T G).kid 8;have y:=N b v A
   have h8:(if 8≤X7 a then X7 a else 8)=8:=by
    split
    ·have:=zfC a
     omega
    ·rfl
   obtain ⟨V,I,U,R⟩:=z.hd;have D:(VZ a).line=0:=z.line;refine Rd.of_one (fun rest r _ hbh=>?_) rfl ⟨V,I++(gT [91]::(Yc b++[gT [93]])),?_,R⟩
   ·show UN ((Xn (decide (8≤X7 a)) (Yc a)++(gT [91]::(Yc b++[gT [93]])))++rest) r
    rw [List.append_assoc,List.cons_append,YC];refine z.one h8 _ r rfl (BH.index (y.full (XK (by decide) (by decide) (by decide)) (by rw [xh];decide)) ?_)
    rw [D];exact hbh
   ·show Xn (decide (8≤X7 a)) (Yc a)++(gT [91]::(Yc b++[gT [93]]))=_
    rw [U,List.cons_append]
  ·obtain ⟨T,G,-⟩:=Xo J
   have z:=(N a T G).kid 8
   have h8:(if 8≤X7 a then X7 a else 8)=8:=by
    split
    ·have:=zfC a
     omega
    ·rfl
   obtain ⟨V,I,U,R⟩:=z.hd;have D:(VZ a).line=0:=z.line;refine Rd.of_one (fun rest r _ hbh=>?_) rfl ⟨V,I++[gT [46],nmT s],?_,R⟩
   ·show UN ((Xn (decide (8≤X7 a)) (Yc a)++[gT [46],nmT s])++rest) r
    rw [List.append_assoc];refine z.one h8 _ r rfl (BH.field ?_);rw [D];exact hbh
   ·show Xn (decide (8≤X7 a)) (Yc a)++[gT [46],nmT s]=_
    rw [U,List.cons_append]
end Go.Proofs.YtpejpbbdgblbeaaGreatDoor
