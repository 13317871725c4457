import Derived.Test.YtcphojjpapgblaaGreatDoorMC37
import Derived.Test.YtcphojjpapgblaaGreatDoorMC7
import Derived.Test.YtcphojjpapgblaaGreatDoorMC34
import Derived.Test.YtcphojjpapgblaaGreatDoorMC11
namespace Go.Proofs.YtcphojjpapgblaaGreatDoor
open Go.RowKit Go.Shelf
def BT (least:Nat) (ts:List Tk) (r:PR Ex):Prop:=∃f,zg f least ts=some r
def MO (least:Nat) (e:Ex) (ts:List Tk) (r:PR Ex):Prop:=∃f,Zs f least e ts=some r
def UN (ts:List Tk) (r:PR Ex):Prop:=∃f,Zm f ts=some r
def BH (e:Ex) (ts:List Tk) (r:PR Ex):Prop:=∃f,zx f e ts=some r
def SG (ts:List Tk) (r:PR Ex):Prop:=∃f,zH f ts=some r
def RW (pre:List Ex) (ts:List Tk) (r:PR (List Ex)):Prop:=∃f,Z1 f pre ts=some r
def BR (ts:List Tk) (r:PR (List Ex)):Prop:=∃f,zG f ts=some r
theorem yD {f:Nat} (k:Nat) {least:Nat} {ts:List Tk} {r:PR Ex} (h:zg f least ts=some r):zg (f+k) least ts=some r:=by
 induction k with
 | zero=>exact h
 | succ k ih=>exact (Yk (f+k)).1 _ _ _ ih
theorem zdp {f:Nat} (k:Nat) {least:Nat} {e:Ex} {ts:List Tk} {r:PR Ex} (h:Zs f least e ts=some r):Zs (f+k) least e ts=some r:=by
 induction k with
 | zero=>exact h
 | succ k ih=>exact (Yk (f+k)).2.1 _ _ _ _ ih
theorem Qy {f:Nat} (k:Nat) {e:Ex} {ts:List Tk} {r:PR Ex} (h:zx f e ts=some r):zx (f+k) e ts=some r:=by
 induction k with
 | zero=>exact h
 | succ k ih=>exact (Yk (f+k)).2.2.2.1 _ _ _ ih
theorem zen {f:Nat} (k:Nat) {ts:List Tk} {r:PR Ex} (h:zH f ts=some r):zH (f+k) ts=some r:=by
 induction k with
 | zero=>exact h
 | succ k ih=>exact (Yk (f+k)).2.2.2.2.1 _ _ ih
theorem zis {f:Nat} (k:Nat) {pre:List Ex} {ts:List Tk} {r:PR (List Ex)} (h:Z1 f pre ts=some r):Z1 (f+k) pre ts=some r:=by
 induction k with
 | zero=>exact h
 | succ k ih=>exact (Yk (f+k)).2.2.2.2.2.1 _ _ _ ih
theorem BT.unary {least:Nat} {ts:List Tk} {r:PR Ex} (h6:6<least) (h:UN ts r):BT least ts r:=by
 obtain ⟨f,h⟩:=h;exact ⟨f+1,by rw [zg,if_pos h6];exact h⟩
theorem BT.more {least:Nat} {ts us:List Tk} {e:Ex} {r:PR Ex} (h6:¬ 6<least) (h:BT (least+1) ts (.ok (e,us))) (y:MO least e us r):BT least ts r:=by
 obtain ⟨f,h⟩:=h;obtain ⟨o,y⟩:=y;refine ⟨f+o+1,?_⟩;rw [zg,if_neg h6,yD o h];simp only [zh];rw [Nat.add_comm f o];exact zdp f y
theorem MO.go {least:Nat} {t:Tk} {ts us:List Tk} {e e2:Ex} {r:PR Ex} (hk:t.k=4) (hl:levelOf t.s=least) (h:BT (least+1) ts (.ok (e2,us))) (y:MO least (.mk 7 t.s 0 [e,e2] e.line) us r):MO least e (t::ts) r:=by
 obtain ⟨f,h⟩:=h;obtain ⟨o,y⟩:=y;refine ⟨f+o+1,?_⟩;rw [Zs];refine (if_pos ⟨hk,hl⟩).trans ?_;show zh (zg (f+o) (least+1) ts) (fun e2 ts'=>Zs (f+o) least (.mk 7 t.s 0 [e,e2] e.line) ts')=_
 rw [yD o h];simp only [zh];rw [Nat.add_comm f o];exact zdp f y
theorem MO.stop {least:Nat} {ts:List Tk} {e:Ex} (h:¬ ((zu ts).k=4∧levelOf (zu ts).s=least)):MO least e ts (.ok (e,ts)):=⟨1,by rw [Zs,if_neg h]⟩
theorem UN.sign {t:Tk} {ts us:List Tk} {e:Ex} (hk:t.k=4) (hs:t.s=[45]∨t.s=[33]) (h:UN ts (.ok (e,us))):UN (t::ts) (.ok (.mk 6 t.s 0 [e] t.line,us)):=by
 obtain ⟨f,h⟩:=h;refine ⟨f+1,?_⟩;rw [Zm];refine (if_pos ⟨hk,hs⟩).trans ?_;show zh (Zm f ts) (fun e ts'=>some (.ok (Ex.mk 6 t.s 0 [e] t.line,ts')))=_
 rw [h]
 rfl
theorem UN.single {ts us:List Tk} {e:Ex} {r:PR Ex} (hn:¬ ((zu ts).k=4∧((zu ts).s=[45]∨(zu ts).s=[33]))) (h:SG ts (.ok (e,us))) (o:BH e us r):UN ts r:=by
 obtain ⟨f,h⟩:=h;obtain ⟨y,o⟩:=o;refine ⟨f+y+1,?_⟩;rw [Zm,if_neg hn,zen y h];simp only [zh];rw [Nat.add_comm f y];exact Qy f o
abbrev gT (s:List UInt8):Tk:=⟨4,s,0,0,0⟩
theorem ZY (s:List UInt8) (us:List Tk):zR s (gT s::us)=some (.ok ((),us)):=by
 unfold zR
 rw [if_pos (show zm (zu (gT s::us)) s=true by simp [zu,zm])]
 rfl
theorem BH.index {ts us:List Tk} {e i:Ex} {r:PR Ex} (h:BT 1 ts (.ok (i,gT [93]::us))) (y:BH (.mk 8 [] 0 [e,i] e.line) us r):BH e (gT [91]::ts) r:=by
 obtain ⟨f,h⟩:=h;obtain ⟨o,y⟩:=y;refine ⟨f+o+1,?_⟩;rw [zx];refine (if_pos rfl).trans ?_;show zh (zg (f+o) 1 ts) (fun i ts=>zh (zR [93] ts) fun _ ts=>zx (f+o) (.mk 8 [] 0 [e,i] e.line) ts)=_
 rw [yD o h];simp only [zh,ZY];rw [Nat.add_comm f o];exact Qy f y
theorem BH.field {s:List UInt8} {us:List Tk} {e:Ex} {r:PR Ex} (h:BH (.mk 9 s 0 [e] e.line) us r):BH e (gT [46]::⟨1,s,0,0,0⟩::us) r:=by
 obtain ⟨f,h⟩:=h;refine ⟨f+1,?_⟩;rw [zx];refine (if_neg ?_).trans ((if_pos rfl).trans ?_)
 ·exact Bool.false_ne_true
 ·show zh (Z6 (⟨1,s,0,0,0⟩::us)) (fun s ts=>zx f (.mk 9 s 0 [e] e.line) ts)=_
  rw [show Z6 (⟨1,s,0,0,0⟩::us)=some (.ok (s,us)) from rfl]
  exact h
theorem BH.stop {ts:List Tk} {e:Ex} (h1:zm (zu ts) [91]=false) (h2:zm (zu ts) [46]=false):BH e ts (.ok (e,ts)):=⟨1,by rw [zx,if_neg (by simp [h1]),if_neg (by simp [h2])]⟩
theorem SG.paren {ts us:List Tk} {e:Ex} (h:BT 1 ts (.ok (e,gT [41]::us))):SG (gT [40]::ts) (.ok (e,us)):=by
 obtain ⟨f,h⟩:=h;refine ⟨f+1,?_⟩;rw [zH];refine (if_neg (by simp [zu])).trans ((if_neg (by simp [zu])).trans ((if_neg (by simp [zu])).trans ((if_neg ?_).trans ((if_neg ?_).trans ((if_neg ?_).trans ((if_neg ?_).trans ?_))))))
 iterate 4 (· exact Bool.false_ne_true)
 show zh (zR [40] (gT [40]::ts)) (fun _ ts=>zh (zg f 1 ts) fun e ts=>zh (zR [41] ts) fun _ ts=>some (.ok (e,ts)))=_
 rw [ZY];simp only [zh,h,ZY]
theorem RW.one {pre:List Ex} {ts us:List Tk} {e:Ex} (h:BT 1 ts (.ok (e,us))) (hc:zm (zu us) [44]=false):RW pre ts (.ok (pre++[e],us)):=by
 obtain ⟨f,h⟩:=h;refine ⟨f+1,?_⟩;rw [Z1,h];simp only [zh];rw [if_neg (by simp [hc])]
theorem RW.more {pre:List Ex} {ts us:List Tk} {e:Ex} {r:PR (List Ex)} (h:BT 1 ts (.ok (e,gT [44]::us))) (y:RW (pre++[e]) us r):RW pre ts r:=by
 obtain ⟨f,h⟩:=h;obtain ⟨o,y⟩:=y;refine ⟨f+o+1,?_⟩;rw [Z1,yD o h];simp only [zh];refine (if_pos rfl).trans ?_;show Z1 (f+o) (pre++[e]) us=some r
 rw [Nat.add_comm f o];exact zis f y
def uq (ts:List Tk):Nat:=if (zu ts).k=4 then levelOf (zu ts).s else 0
def ur (ts:List Tk):Prop:=zm (zu ts) [91]=false∧zm (zu ts) [46]=false∧zm (zu ts) [40]=false
theorem zaf {ts:List Tk} {l:Nat} (h:uq ts<l):¬ ((zu ts).k=4∧levelOf (zu ts).s=l):=fun ⟨h1,h2⟩=>by
 unfold uq at h
 rw [if_pos h1] at h;omega
theorem BT.of_unary {K:List Tk} {e:Ex} (h:∀rest,ur rest→UN (K++rest) (.ok (e,rest))):∀(j least:Nat),least+j=7→1≤least→∀(rest:List Tk) (r:PR Ex),ur rest→uq rest≤least→(least≤6→MO least e rest r)→(6<least→r=.ok (e,rest))→BT least (K++rest) r
 | 0,least,hj,_,rest,r,hs,_,_,h7=>by
  obtain rfl:=h7 (by omega)
  exact BT.unary (by omega) (h rest hs)
 | j+1,least,hj,h1,rest,r,hs,hl,hm,h7=>by
  refine BT.more (by omega) (BT.of_unary h j (least+1) (by omega) (by omega) rest (.ok (e,rest)) hs (by omega) (fun _=>MO.stop (zaf (by omega))) (fun _=>rfl)) (hm (by omega))
theorem BT.of_single {K:List Tk} {e:Ex} (h:∀rest r,zm (zu rest) [40]=false→BH e rest r→UN (K++rest) r) (j least:Nat) (hj:least+j=7) (h1:1≤least) (rest:List Tk) (r:PR Ex) (hs:ur rest) (hl:uq rest≤least) (hm:least≤6→MO least e rest r) (h7:6<least→r=.ok (e,rest)):BT least (K++rest) r :=
 BT.of_unary (fun rest hs=>h rest _ hs.2.2 (BH.stop hs.1 hs.2.1)) j least hj h1 rest r hs hl hm h7
theorem zbv {m:List UInt8} (h:m.all okC=true):(10:UInt8) ∉ Z7 m:=by
 have y:∀m:List UInt8,m.all okC=true→(10:UInt8) ∉ m.flatMap Zr:=by
  intro m
  induction m with
  | nil=>intro _ h;simp at h
  | cons c m ih =>
   intro h o;rw [List.all_cons,Bool.and_eq_true] at h;rw [List.flatMap_cons,List.mem_append] at o;rcases o with o | o
   ·unfold Zr at o
    by_cases h1:c.toNat=92
    ·rw [if_pos h1] at o;revert o;decide
    ·rw [if_neg h1] at o
     by_cases h2:c.toNat=34
     ·rw [if_pos h2] at o;revert o;decide
     ·rw [if_neg h2] at o
      by_cases h3:c.toNat=10
      ·rw [if_pos h3] at o;revert o;decide
      ·rw [if_neg h3,List.mem_singleton] at o
       exact h3 (by rw [←o];rfl)
   ·exact ih h.2 o
 unfold Z7
 intro o;rcases List.mem_cons.1 o with o | o
 ·revert o;decide
 ·rcases List.mem_append.1 o with o | o
  ·exact y m h o
  ·rw [List.mem_singleton] at o;revert o;decide
theorem zbw {p:Nat→Bool} (hp:p 10=false) (l:List UInt8):(10:UInt8) ∉ l.takeWhile (fun c=>p c.toNat):=by
 intro h
 have:=VD (p:=fun c=>p c.toNat) l 10 h
 have e:p (10:UInt8).toNat=p 10:=rfl;rw [e,hp] at this;cases this
theorem zfI (r:List UInt8) (he:(Zb r).e=0):yr (Zb r).k (Zb r).n (Zb r).s∧(Zb r).sz≤r.length∧(10:UInt8) ∉ r.take (Zb r).sz∧((Zb r).k≠2→xL (Zb r).k (Zb r).n (Zb r).s=r.take (Zb r).sz)∧(Zb r).k≤5:=by
 cases r with
 | nil=>exact ⟨(ZV (by decide) (by decide)).2 (.inl ⟨rfl,rfl,rfl⟩),Nat.le_refl _,by simp,fun _=>rfl,by decide⟩
 | cons x r =>
  have o:=(vz (x::r) he).1;cases h1:Zw x.toNat with
  | true =>
   rw [yZ h1] at he o ⊢;have z:(x::r).take (Z4 (x::r)).length=Z4 (x::r):=VC _ _;have A:(10:UInt8) ∉ Z4 (x::r):=zbw (by decide) _
   have D:(Z4 (x::r)).all (fun c=>ym c.toNat)=true:=by
    rw [List.all_eq_true];exact fun c I=>VD (p:=fun c=>ym c.toNat) _ c I
   unfold Yf at he o ⊢
   by_cases hq:yh (Z4 (x::r))=true
   ·rw [if_pos hq] at he o ⊢
    simp only at he o ⊢;refine ⟨(ZV (by decide) (by decide)).2 (.inr (.inr (.inr ⟨rfl,hq,rfl⟩))),o,by rw [z];exact A,fun _=>?_,by decide⟩
    rw [z];rfl
   ·rw [if_neg hq] at he o ⊢
    by_cases h20:20<(Z4 (x::r)).length
    ·rw [if_pos h20] at he;simp at he
    ·rw [if_neg h20] at he o ⊢
     simp only at he o ⊢;refine ⟨(ZV (by decide) (by decide)).2 (.inr (.inl ⟨rfl,?_,rfl⟩)),o,by rw [z];exact A,fun _=>?_,by decide⟩
     ·have I:Z4 (x::r)=x::Z4 r:=by unfold Z4;rw [List.takeWhile_cons_of_pos (by simp [ym,h1])]
      rw [I] at D hq h20 ⊢
      unfold xF
      simp only;rw [List.all_cons,Bool.and_eq_true] at D;rw [h1,D.2,decide_eq_true (by omega)]
      simp [hq]
     ·rw [z];rfl
  | false =>
   cases h4:Zx x.toNat with
   | true =>
    rw [Vq h1 h4] at he o ⊢;have z:(x::r).take (digL (x::r)).length=digL (x::r):=VC _ _;have A:(10:UInt8) ∉ digL (x::r):=zbw (by decide) _
    unfold XT at he o ⊢
    by_cases hv:valA 0 (digL (x::r))<9223372036854775808
    ·rw [if_pos hv] at he o ⊢
     simp only at he o ⊢;exact ⟨(UY (by omega)).2 ⟨rfl,by omega⟩,o,by rw [z];exact A,fun h=>absurd rfl h,by decide⟩
    ·rw [if_neg hv] at he;simp at he
   | false =>
    by_cases h34:x.toNat=34
    ·have R:x=34:=UInt8.toNat_inj.1 h34
     have Q:=uj (r:=r) h1 h4 h34;rw [Q] at he
     unfold yT at he
     rw [List.drop_succ_cons,List.drop_zero] at he;obtain ⟨J,rest,-,T,N,L⟩:=Vc _ [] 1 r (by simp) he
     rw [List.nil_append] at L;have G:Xv J=true:=by unfold Xv;rw [N,decide_eq_true L];rfl
     have U:x::r=Z7 J++rest:=by rw [R,T];unfold Z7;simp
     rw [U,Vb J rest G];simp only;rw [List.take_left];exact ⟨uk.2 ⟨G,rfl⟩,by rw [List.length_append];omega,zbv N,fun _=>rfl,by decide⟩
    ·rw [xj h1 h4 h34] at he o ⊢
     unfold Yu at he o ⊢
     by_cases hb:bestS (x::r) 25=[]
     ·rw [if_pos hb] at he;simp at he
     ·rw [if_neg hb] at o ⊢
      simp only at o ⊢;rcases (zaW (x::r)).2 with H | ⟨H,O⟩
      ·exact absurd H hb
      ·have z:(x::r).take (bestS (x::r) 25).length=bestS (x::r) 25:=by
        unfold Lib.hasPrefix at O
        exact (List.prefix_iff_eq_take.1 (List.isPrefixOf_iff_prefix.1 O)).symm
       have A:∀y∈signsL,(10:UInt8) ∉ y:=by decide
       refine ⟨(ZV (by decide) (by decide)).2 (.inr (.inr (.inl ⟨rfl,H,rfl⟩))),o,by rw [z];exact A _ H,fun _=>?_,by decide⟩
       rw [z];rfl
def zfJ (s:List UInt8) (t:Tk):Prop:=t.at0≤s.length∧t.line=1+Lib.countByte (s.take t.at0) 10∧yr t.k t.n t.s∧(t.k≠2→t.at0+(xL t.k t.n t.s).length≤s.length∧(s.drop t.at0).take (xL t.k t.n t.s).length=xL t.k t.n t.s)∧t.n<9223372036854775808∧t.s.length≤5000
def zag (s:List UInt8):Nat→List Tk→Prop
 | _,[]=>True
 | a,t::ts=>a≤t.at0∧zfJ s t∧zag s t.at0 ts
theorem zfK (r:List UInt8):(Zb r).n<9223372036854775808:=by
 cases r with
 | nil=>decide
 | cons x r =>
  cases h1:Zw x.toNat with
  | true =>
   rw [yZ h1]
   unfold Yf
   split
   ·exact (show (0:Nat)<9223372036854775808 by decide)
   ·split <;> exact (show (0:Nat)<9223372036854775808 by decide)
  | false =>
   cases h4:Zx x.toNat with
   | true =>
    rw [Vq h1 h4]
    unfold XT
    split
    ·assumption
    ·decide
   | false =>
    by_cases h34:x.toNat=34
    ·rw [uj h1 h4 h34]
     unfold yT
     have h:∀(f:Nat) (m:List UInt8) (a:Nat) (r:List UInt8),(Zo f m a r).n=0:=by
      intro f
      induction f with
      | zero=>intro m a r;rfl
      | succ f ih =>
       intro m a r;cases r with
       | nil=>rfl
       | cons y r =>
        unfold Zo
        split
        ·rfl
        ·split
         ·rfl
         ·split
          ·rfl
          ·exact ih _ _ _
     rw [h]
     decide
    ·rw [xj h1 h4 h34]
     unfold Yu
     split <;> exact (show (0:Nat)<9223372036854775808 by decide)
theorem uS (s:List UInt8) (hs:s.length≤4096):∀(f line a:Nat),a≤s.length→line=1+Lib.countByte (s.take a) 10→(scanS s f line a).2.2=0→zag s a (scanS s f line a).1
 | 0,_,_,_,_,_=>trivial
 | f+1,line,a,ha,hl,he0=>by
  have J:=vA ha;rw [scanS] at he0 ⊢
  by_cases he:(zQ s a).e≠0
  ·rw [if_pos he] at he0;exact absurd he0 he
  ·rw [if_neg he] at he0 ⊢
   have y:(Zb (s.drop (zO s a))).e=0:=by
    show (zQ s a).e=0
    omega
   obtain ⟨O,U,Q,T,-⟩:=zfI (s.drop (zO s a)) y
   have z:yd s line a=1+Lib.countByte (s.take (zO s a)) 10:=by
    unfold yd zO
    rw [hl,List.take_add,uK];omega
   have h:zfJ s (tkT s line a):=by
    refine ⟨J,z,O,fun hk=>?_,zfK _,?_⟩
    ·have H:=T hk
     have L:xL (tkT s line a).k (tkT s line a).n (tkT s line a).s=(s.drop (zO s a)).take (Zb (s.drop (zO s a))).sz:=H;rw [L];have N:((s.drop (zO s a)).take (Zb (s.drop (zO s a))).sz).length=(Zb (s.drop (zO s a))).sz:=by rw [List.length_take];omega
     rw [N];rw [List.length_drop] at U;refine ⟨?_,rfl⟩;show zO s a+(Zb (s.drop (zO s a))).sz≤s.length
     omega
    ·have:=ze0 (s.drop (zO s a))
     rw [List.length_drop] at this;show (Zb (s.drop (zO s a))).s.length≤5000
     omega
   have D:a≤(tkT s line a).at0:=by show a≤zO s a;unfold zO;omega
   by_cases hk:(zQ s a).k=0
   ·rw [if_pos hk] at he0 ⊢
    exact ⟨D,h,trivial⟩
   ·rw [if_neg hk] at he0 ⊢
    have R:=YH ha y hk
    have o:yd s line a=1+Lib.countByte (s.take (zO s a+(zQ s a).sz)) 10:=by
     rw [z,List.take_add,uK]
     have:Lib.countByte ((s.drop (zO s a)).take (zQ s a).sz) 10=0:=by
      unfold Lib.countByte
      exact List.count_eq_zero.2 Q
     omega
    have I:=uS s hs f (yd s line a) (zO s a+(zQ s a).sz) R.2 o;generalize scanS s f (yd s line a) (zO s a+(zQ s a).sz)=A at he0 I ⊢
    by_cases hA:A.2.2≠0
    ·rw [if_pos hA] at he0;exact absurd he0 hA
    ·rw [if_neg hA] at he0 ⊢
     have G:=I (by omega)
     refine ⟨D,h,?_⟩;cases hA1:A.1 with
     | nil=>trivial
     | cons t ts =>
      rw [hA1] at G;refine ⟨?_,G.2⟩;have H:zO s a+(zQ s a).sz≤t.at0:=G.1;show zO s a≤t.at0
      omega
theorem U2 (s:List UInt8):∀(f line a:Nat),a≤s.length→s.length<a+f→(scanS s f line a).2.2=0→∃ts h,(scanS s f line a).1=ts++[⟨0,[],0,h,s.length⟩]
 | 0,_,_,h1,h2,_=>by omega
 | f+1,line,a,ha,hf,he0=>by
  have L:=vA ha;rw [scanS] at he0 ⊢
  by_cases he:(zQ s a).e≠0
  ·rw [if_pos he] at he0;exact absurd he0 he
  ·rw [if_neg he] at he0 ⊢
   have o:(zQ s a).e=0:=by omega
   by_cases hk:(zQ s a).k=0
   ·rw [if_pos hk] at he0 ⊢
    have z:=(vz (s.drop (zO s a)) o).2.2 hk;have G:=congrArg List.length z;rw [List.length_drop,List.length_nil] at G;have y:zO s a=s.length:=by omega
    have I:zQ s a=⟨0,[],0,0,0⟩:=by
     show Zb (s.drop (zO s a))=_
     rw [z];rfl
    refine ⟨[],yd s line a,?_⟩
    unfold tkT
    rw [I,y]
    rfl
   ·rw [if_neg hk] at he0 ⊢
    have J:=YH ha o hk;have D:=U2 s f (yd s line a) (zO s a+(zQ s a).sz) J.2 (by omega)
    generalize scanS s f (yd s line a) (zO s a+(zQ s a).sz)=A at he0 D ⊢
    by_cases hA:A.2.2≠0
    ·rw [if_pos hA] at he0;exact absurd he0 hA
    ·rw [if_neg hA] at he0 ⊢
     obtain ⟨ts,h,H⟩:=D (by omega)
     exact ⟨tkT s line a::ts,h,by rw [H];rfl⟩
theorem zcF (s:List UInt8) (f line a:Nat) (h:(scanS s f line a).2.2≠0):(scanS s f line a).1=[]:=by
 cases f with
 | zero=>rfl
 | succ f =>
  rw [scanS] at h ⊢
  by_cases he:(zQ s a).e≠0
  ·rw [if_pos he]
  ·rw [if_neg he] at h ⊢
   by_cases hk:(zQ s a).k=0
   ·rw [if_pos hk] at h;exact absurd rfl h
   ·rw [if_neg hk] at h ⊢
    generalize scanS s f (yd s line a) (zO s a+(zQ s a).sz)=A at h ⊢
    by_cases hA:A.2.2≠0
    ·rw [if_pos hA]
    ·rw [if_neg hA] at h;exact absurd rfl h
theorem xR (s:List UInt8):((zW s).2.2≠0→(zW s).1=[])∧((zW s).2.2=0→s.length≤4096∧zag s 0 (zW s).1∧∃ts line',(zW s).1=ts++[⟨0,[],0,line',s.length⟩]):=by
 unfold zW
 by_cases h:4096<s.length
 ·rw [if_pos h]
  exact ⟨fun _=>rfl,fun h=>by simp at h⟩
 ·rw [if_neg h]
  refine ⟨zcF s _ 1 0,fun he=>⟨by omega,uS s (by omega) _ 1 0 (Nat.zero_le _) (by simp [Lib.countByte]) he,U2 s _ 1 0 (Nat.zero_le _) (by omega) he⟩⟩
abbrev nmT (s:List UInt8):Tk:=⟨1,s,0,0,0⟩
abbrev XE (s:List UInt8):Tk:=⟨5,s,0,0,0⟩
def vk:List (List Tk)→List Tk
 | []=>[]
 | t::ts=>gT [44]::(t++vk ts)
def yN:List (List Tk)→List Tk
 | []=>[]
 | t::ts=>t++vk ts
theorem zeo (a b:List (List Tk)):vk (a++b)=vk a++vk b:=by
 induction a with
 | nil=>rfl
 | cons t ts ih=>rw [List.cons_append,vk,vk,ih];simp
theorem zep (a:List (List Tk)) (t:List Tk):yN (a++[t])=if a=[] then t else yN a++(gT [44]::t):=by
 cases a with
 | nil=>simp [yN,vk]
 | cons u us =>
  rw [if_neg (by simp),List.cons_append,yN,yN,zeo,List.append_assoc]
  simp [vk]
def Xo (b:Bool) (T:List Tk):List Tk:=if b=true then T else gT [40]::(T++[gT [41]])
def uT (k:Int) (s:List UInt8) (n:Int) (lv:List Nat) (T:List (List Tk)):List Tk :=
 if k=1 then [⟨2,[],n.toNat,0,0⟩]
 else if k=2 then [XE (if n=0 then [102,97,108,115,101] else [116,114,117,101])]
 else if k=3 then [⟨3,s,0,0,0⟩]
 else if k=4 then [nmT s]
 else if k=5 then nmT s::gT [40]::(yN T++[gT [41]])
 else if k=11 then XE [110,101,119]::nmT s::gT [40]::(yN T++[gT [41]])
 else if k=10 then gT [91]::(yN T++[gT [93]])
 else match lv,T with
  | [l],[a]=>if k=6 then gT s::Xo (decide (7≤l)) a else Xo (decide (8≤l)) a++[gT [46],nmT s]
  | [l,m],[a,b]=>if k=7 then Xo (decide (levelOf s≤l)) a++(gT s::Xo (decide (levelOf s+1≤m)) b) else Xo (decide (8≤l)) a++(gT [91]::(b++[gT [93]]))
  | _,_=>[]
mutual
def Yd:Ez→List Tk
 | .mk k s n kids _=>uT k s n (kids.map vJ) (ktL kids)
def ktL:List Ez→List (List Tk)
 | []=>[]
 | x::xs=>Yd x::ktL xs
end
theorem zdq (l:List Ez):ktL l=l.map Yd:=by
 induction l with
 | nil=>rfl
 | cons x xs ih=>rw [ktL,ih];rfl
mutual
def vF:Ez→Ex
 | .mk k s n kids _=>.mk k.toNat s n (zzL kids) 0
def zzL:List Ez→List Ex
 | []=>[]
 | x::xs=>vF x::zzL xs
end
theorem Uk (l:List Ez):zzL l=l.map vF:=by
 induction l with
 | nil=>rfl
 | cons x xs ih=>rw [zzL,ih];rfl
theorem zj {a b:Option (List UInt8)} {t:List UInt8} (h:zd a b=some t):∃u v,a=some u∧b=some v∧t=u++v:=by
 unfold zd at h
 cases a with
 | none=>cases h
 | some u =>
  cases b with
  | none=>cases h
  | some v=>exact ⟨u,v,rfl,rfl,(Option.some.inj h).symm⟩
theorem y9 {x:Ez} {least:Nat} {o:Option (List UInt8)} {t:List UInt8} (h:kidO x least o=some t):∃v,o=some v∧t=if least≤vJ x then v else 40::(v++[41]):=by
 unfold kidO at h
 split at h
 ·rename_i y
  exact ⟨t,h,by rw [if_pos y]⟩
 ·rename_i y
  obtain ⟨u,v,A,z,rfl⟩:=zj h;obtain ⟨D,w,H,G,rfl⟩:=zj z;obtain rfl:=Option.some.inj A;obtain rfl:=Option.some.inj G;exact ⟨D,H,by rw [if_neg y];rfl⟩
theorem vo {k n:Int} {s t:List UInt8} (h:tokO k n s=some t) (hk:k≠0):zem ⟨k,n,s⟩∧t=xL k n s:=by
 unfold tokO tkB at h
 by_cases hb:yr k n s
 ·rw [if_pos hb] at h
  simp only [if_true] at h;refine ⟨⟨hb,hk,?_⟩,(Option.some.inj h).symm⟩;have y:=hb.2.2.2;have o:=zfK (xL k n s);simp only;omega
 ·rw [if_neg hb] at h
  simp at h
theorem zah {d:Nat} {k:Int} {s:List UInt8} {n:Int} {kids:List Ez} {line:Int} {t:List UInt8} (h:prE (d+1) (.mk k s n kids line)=some t) :
  (k=1∧s=[]∧kids=[]∧tokO 2 n []=some t) ∨
  (k=2∧s=[]∧kids=[]∧(n=0∧t=[102,97,108,115,101]∨n=1∧t=[116,114,117,101])) ∨
  (k=3∧n=0∧kids=[]∧tokO 3 0 s=some t) ∨
  (k=4∧n=0∧kids=[]∧tokO 1 0 s=some t) ∨
  (k=5∧n=0∧∃u v,tokO 1 0 s=some u∧rowO (kids.map (prE d)) kids.length=some v∧t=u++(40::(v++[41]))) ∨
  (k=11∧n=0∧∃u v,tokO 1 0 s=some u∧rowO (kids.map (prE d)) kids.length=some v∧t=[110,101,119]++(32::(u++(40::(v++[41]))))) ∨
  (k=10∧n=0∧s=[]∧kids≠[]∧∃v,rowO (kids.map (prE d)) kids.length=some v∧t=91::(v++[93])) ∨
  (k=6∧n=0∧(s=[45]∨s=[33])∧∃a u,kids=[a]∧kidO a 7 (prE d a)=some u∧t=s++u) ∨
  (k=7∧n=0∧0<levelOf s∧∃a b u v,kids=[a,b]∧kidO a (levelOf s) (prE d a)=some u∧kidO b (levelOf s+1) (prE d b)=some v∧t=u++(32::(s++(32::v)))) ∨
  (k=8∧n=0∧s=[]∧∃a b u v,kids=[a,b]∧kidO a 8 (prE d a)=some u∧prE d b=some v∧t=u++(91::(v++[93]))) ∨
  (k=9∧n=0∧∃a u v,kids=[a]∧kidO a 8 (prE d a)=some u∧tokO 1 0 s=some v∧t=u++(46::v)):=by
 rw [zbb] at h
 unfold prB at h
 by_cases hex:YC k s n kids.length=true
 case pos =>
  rw [if_pos hex] at h
  unfold YC at hex
  by_cases h1:k=1
  ·rw [if_pos h1] at hex h
   simp at hex
   exact .inl ⟨h1,hex.1,hex.2,h⟩
  rw [if_neg h1] at hex h
  right
  by_cases h2:k=2
  ·rw [if_pos h2] at hex h
   simp at hex
   obtain ⟨⟨N,O⟩,I⟩:=hex;refine .inl ⟨h2,N,O,?_⟩;rcases I with I | I
   ·rw [if_pos I] at h;exact .inl ⟨I,(Option.some.inj h).symm⟩
   ·rw [if_neg (by omega)] at h;exact .inr ⟨I,(Option.some.inj h).symm⟩
  rw [if_neg h2] at hex h
  right
  by_cases h3:k=3
  ·rw [if_pos h3] at hex h
   simp at hex
   exact .inl ⟨h3,hex.1,hex.2,h⟩
  rw [if_neg h3] at hex h
  right
  by_cases h4:k=4
  ·rw [if_pos h4] at hex h
   simp at hex
   exact .inl ⟨h4,hex.1,hex.2,h⟩
  rw [if_neg h4] at hex h
  right
  by_cases h5:k=5
  ·rw [if_pos h5] at hex h
   simp at hex
   obtain ⟨u,v,y,z,rfl⟩:=zj h;obtain ⟨u2,H,A,o,rfl⟩:=zj z;obtain ⟨u3,J,D,G,rfl⟩:=zj o;obtain rfl:=Option.some.inj A;obtain rfl:=Option.some.inj G;exact .inl ⟨h5,hex,u,u3,y,D,rfl⟩
  rw [if_neg h5] at hex h
  right
  by_cases h11:k=11
  ·rw [if_pos h11] at hex h
   simp at hex
   obtain ⟨u0,V,Q,L,rfl⟩:=zj h;obtain rfl:=Option.some.inj Q;obtain ⟨u,v,y,z,rfl⟩:=zj L;obtain ⟨u2,H,A,o,rfl⟩:=zj z;obtain ⟨u3,J,D,G,rfl⟩:=zj o;obtain rfl:=Option.some.inj A;obtain rfl:=Option.some.inj G;exact .inl ⟨h11,hex,u,u3,y,D,by simp⟩
  rw [if_neg h11] at hex h
  right
  by_cases h10:k=10
  ·rw [if_pos h10] at h
   rw [if_neg (by omega),if_neg (by omega),if_neg (by omega),if_neg (by omega),if_pos h10] at hex
   simp at hex
   obtain ⟨u2,H,A,o,rfl⟩:=zj h;obtain ⟨u3,J,D,G,rfl⟩:=zj o;obtain rfl:=Option.some.inj A;obtain rfl:=Option.some.inj G;refine .inl ⟨h10,hex.1.1,hex.2,?_,u3,D,rfl⟩;rintro rfl
   simp at hex
  rw [if_neg h10] at h
  right
  by_cases h6:k=6
  ·rw [if_pos h6] at hex h
   simp at hex
   obtain ⟨a,rfl⟩:=List.length_eq_one_iff.1 hex.1.2;obtain ⟨u,v,y,z,rfl⟩:=zj h;obtain rfl:=Option.some.inj y;exact .inl ⟨h6,hex.1.1,hex.2,a,v,rfl,z,rfl⟩
  rw [if_neg h6] at hex h
  right
  by_cases h7:k=7
  ·rw [if_pos h7] at hex h
   simp at hex
   obtain ⟨a,b,rfl⟩:∃a b,kids=[a,b]:=by
    match kids,hex.1.2 with
    | [a,b],_=>exact ⟨a,b,rfl⟩
   obtain ⟨u,v,y,z,rfl⟩:=zj h;obtain ⟨u2,H,A,o,rfl⟩:=zj z;obtain ⟨u3,J,D,G,rfl⟩:=zj o;obtain ⟨u4,T,U,R,rfl⟩:=zj G;obtain rfl:=Option.some.inj A;obtain rfl:=Option.some.inj D;obtain rfl:=Option.some.inj U;exact .inl ⟨h7,hex.1.1,hex.2,a,b,u,T,rfl,y,R,by simp⟩
  rw [if_neg h7] at hex h
  right
  by_cases h8:k=8
  ·rw [if_pos h8] at hex h
   simp at hex
   obtain ⟨a,b,rfl⟩:∃a b,kids=[a,b]:=by
    match kids,hex.1.2 with
    | [a,b],_=>exact ⟨a,b,rfl⟩
   obtain ⟨u,v,y,z,rfl⟩:=zj h;obtain ⟨u2,H,A,o,rfl⟩:=zj z;obtain ⟨u3,J,D,G,rfl⟩:=zj o;obtain rfl:=Option.some.inj A;obtain rfl:=Option.some.inj G;exact .inl ⟨h8,hex.1.1,hex.2,a,b,u,u3,rfl,y,D,by simp⟩
  rw [if_neg h8] at hex h
  right
  by_cases h9:k=9
  ·rw [if_pos h9] at hex h
   simp at hex
   obtain ⟨a,rfl⟩:=List.length_eq_one_iff.1 hex.2;obtain ⟨u,v,y,z,rfl⟩:=zj h;obtain ⟨u2,H,A,o,rfl⟩:=zj z;obtain rfl:=Option.some.inj A;exact ⟨h9,hex.1,a,u,H,rfl,y,o,by simp⟩
  ·rw [if_neg h9] at h;cases h
 case neg=>rw [if_neg hex] at h;cases h
end Go.Proofs.YtcphojjpapgblaaGreatDoor
