import Derived.Test.YtpejpbbdgblbeaaGreatDoorMC32
import Derived.Test.YtpejpbbdgblbeaaGreatDoorMC37
import Derived.Test.YtpejpbbdgblbeaaGreatDoorMC51
import Derived.Test.YtpejpbbdgblbeaaGreatDoorMC50
import Derived.Test.YtpejpbbdgblbeaaGreatDoorMC38
import Derived.Test.YtpejpbbdgblbeaaGreatDoorMC43
namespace Go.Proofs.YtpejpbbdgblbeaaGreatDoor
open Go.RowKit Go.Shelf
def zzR (x:Rz):Rc:=⟨x.name,x.fields,0⟩
def zzF (x:Fz):Fc:=⟨x.name,x.params,x.result,zzC x.body,0⟩
def zzG (x:Pz):Pg:=⟨x.recs.map zzR,x.funs.map zzF⟩
def qe (s:List UInt8):List Tk:=if s=[] then [] else gT [58]::ktT s
def ktR (x:Rz):List Tk:=XJ [114,101,99,111,114,100]::nmT x.name::gT [123]::(yM (x.fields.map qj)++[gT [125]])
def ktF (x:Fz):List Tk:=XJ [102,110]::nmT x.name::gT [40]::(yM (x.params.map qj)++(gT [41]::(qe x.result++(gT [123]::(YE x.body++[gT [125]])))))
def ktG (x:Pz):List Tk:=x.recs.flatMap ktR++x.funs.flatMap ktF
abbrev eoT:Tk:=⟨0,[],0,0,0⟩
theorem qg {α:Type} {g:α→Option (List UInt8)} {K:α→List Tk} {l:List α} (ih:∀x∈l,∀t,g x=some t→Lx Vw t (K x)):∀(i:Nat) (v:List UInt8),i≤l.length→yL (l.map g) i=some v→Lx Vw v ((l.take i).flatMap K)
 | 0,v,_,h=>by
  obtain rfl:=Option.some.inj h;exact Lx.nil _
 | i+1,v,hi,h=>by
  unfold yL at h
  obtain ⟨a,b,z,o,rfl⟩:=zn h;rw [List.getElem?_map,List.getElem?_eq_getElem (by omega)] at o
  have y:=ih _ (List.getElem_mem (show i<l.length by omega)) b o
  rw [List.take_succ_eq_append_getElem (by omega),List.flatMap_append]
  refine (qg ih i a (by omega) z).then ?_
  show Lx Vw b (K l[i]++[])
  rw [List.append_nil];exact y
theorem zbs {l:List (List UInt8 × List UInt8)} {v:List UInt8} (h:rowO (l.map parO) l.length=some v):Lx Sp v (yM (l.map qj))∧(v=[]∨Hd Sg v):=by
 obtain ⟨o,y,z⟩:=Q9 (g:=parO) (K:=qj) (fun x _ t h=>zg7 h) l.length v (Nat.le_refl _) h
 rw [List.take_length] at o;refine ⟨o,?_⟩
 by_cases h0:l.length=0
 ·exact .inl (z h0)
 ·exact .inr (y (by omega))
theorem zhb (x:Rz) {t:List UInt8} (h:recO x.name x.fields=some t):Lx Vw t (ktR x):=by
 unfold recO at h
 split at h
 case isFalse=>cases h
 case isTrue hl =>
 obtain ⟨x1,Y,G,I,rfl⟩:=zn h;obtain ⟨x2,V,L,N,rfl⟩:=zn I;obtain ⟨Q,W,H,z,rfl⟩:=zn N;obtain ⟨U,T,D,A,rfl⟩:=zn z;obtain rfl:=Option.some.inj G;obtain rfl:=Option.some.inj H;obtain rfl:=Option.some.inj A;obtain ⟨o,R⟩:=Lx.name L;obtain ⟨y,O⟩:=zbs D;have J:Lx Vw [32,125,10] [gT [125]]:=Lx.bl (c:=32) (by decide) (Lx.one 125 (by decide) Lx.nl ⟨10,[],rfl,by decide⟩)
 exact (Lx.word (s:=[114,101,99,111,114,100]) (by decide)).app (Lx.bl (c:=32) (by decide) (o.app (Lx.bl (c:=32) (by decide) (Lx.one 123 (by decide) (Lx.bl (c:=32) (by decide) (y.app J ⟨32,_,rfl,by decide⟩)) ⟨32,_,rfl,by decide⟩)) ⟨32,_,rfl,by decide⟩)) ⟨32,_,rfl,by decide⟩
theorem zhc (x:Fz) {t:List UInt8} (h:funO x=some t):Lx Vw t (ktF x):=by
 unfold funO at h
 obtain ⟨x1,y1,e1,g1,rfl⟩:=zn h;obtain ⟨x2,y2,e2,Z,rfl⟩:=zn g1;obtain ⟨x3,y3,e3,g3,rfl⟩:=zn Z;obtain ⟨Q,y4,N,g4,rfl⟩:=zn g3;obtain ⟨x5,y5,V,W,rfl⟩:=zn g4;obtain ⟨A,y6,D,g6,rfl⟩:=zn W;obtain ⟨x7,y7,e7,g7,rfl⟩:=zn g6;obtain ⟨o,y8,O,Y,rfl⟩:=zn g7;obtain rfl:=Option.some.inj e1;obtain rfl:=Option.some.inj e3;obtain rfl:=Option.some.inj V;obtain rfl:=Option.some.inj e7;obtain rfl:=Option.some.inj Y;obtain ⟨n1,n2⟩:=Lx.name e2;obtain ⟨L,G⟩:=zbs N;obtain ⟨T,b2⟩:=Ug (fun y _ t h=>zfI 24 y t h) O
 have J:Lx Vw (o++[10]) ((gT [123]::(YE x.body++[gT [125]]))++[]):=T.app Lx.nl ⟨10,_,rfl,by decide⟩
 rw [List.append_nil] at J;have z:Lx Vw (32::(o++[10])) (gT [123]::(YE x.body++[gT [125]])):=Lx.bl (c:=32) (by decide) J
 have I:Lx Vw (A++(32::(o++[10]))) (qe x.result++(gT [123]::(YE x.body++[gT [125]])))∧Hd Sg (A++(32::(o++[10]))):=by
  unfold qe
  by_cases h0:x.result=[]
  ·rw [if_pos h0] at D ⊢
   obtain rfl:=Option.some.inj D;exact ⟨z,32,_,rfl,by decide⟩
  ·rw [if_neg h0] at D ⊢
   obtain ⟨z1,z2,f1,R,rfl⟩:=zn D;obtain rfl:=Option.some.inj f1;have U:=zbo R;exact ⟨Lx.one 58 (by decide) (Lx.bl (c:=32) (by decide) (U.lx.app z ⟨32,_,rfl,by decide⟩)) ⟨32,_,rfl,by decide⟩,58,_,rfl,by decide⟩
 have hc:Lx Vw (41::(A++(32::(o++[10])))) (gT [41]::(qe x.result++(gT [123]::(YE x.body++[gT [125]])))):=Lx.one 41 (by decide) I.1 I.2
 have hp:=L.app hc ⟨41,_,rfl,by decide⟩
 have H:Hd Sg (Q++(41::(A++(32::(o++[10]))))):=by
  rcases G with rfl | G
  ·exact ⟨41,_,rfl,by decide⟩
  ·exact G.app _
 exact (Lx.word (s:=[102,110]) (by decide)).app (Lx.bl (c:=32) (by decide) (n1.app (Lx.one 40 (by decide) hp H) ⟨40,_,rfl,by decide⟩)) ⟨32,_,rfl,by decide⟩
theorem zcC {f:Nat} (k:Nat) {pre:List Pm} {ts:List Tk} {r:PR (List Pm)} (h:zN f pre ts=some r):zN (f+k) pre ts=some r:=by
 induction k with
 | zero=>exact h
 | succ k ih=>exact Yz ih
theorem zbt (s:List UInt8) (us:List Tk):Z3 (nmT s::us)=some (.ok (s,us)):=rfl
theorem zfS (x:Rz) (hl:x.fields≠[]) (rest:List Tk):∃f,Zl f 0 (nmT x.name::gT [123]::(yM (x.fields.map qj)++(gT [125]::rest)))=some (.ok (zzR x,rest)):=by
 obtain ⟨f,h⟩:=uv x.fields [] (gT [125]::rest) hl rfl;refine ⟨f,?_⟩
 unfold Zl
 rw [zbt];simp only [zh,Z1,h]
 rfl
theorem zej (l:List Pm) (rest:List Tk):∃f,yo f (gT [40]::(yM (l.map qj)++(gT [41]::rest)))=some (.ok (l,rest)):=by
 by_cases hl:l=[]
 ·subst hl
  refine ⟨0,?_⟩
  unfold yo
  rw [Z1];simp only [zh];exact if_pos rfl
 ·obtain ⟨f,h⟩:=uv l [] (gT [41]::rest) hl rfl
  refine ⟨f,?_⟩
  unfold yo
  rw [Z1];simp only [zh];refine (if_neg ?_).trans ?_
  ·cases l with
   | nil=>exact absurd rfl hl
   | cons p ps=>exact Bool.false_ne_true
  ·rw [h]
   simp only [Z1]
   rfl
theorem zhd {f:Nat} (k:Nat) {ts:List Tk} {r:PR (List Pm)} (h:yo f ts=some r):yo (f+k) ts=some r:=by
 unfold yo at h ⊢
 refine yC h fun _ us r h=>?_
 split at h
 ·rename_i o;rw [if_pos o];exact h
 ·rename_i o;rw [if_neg o];exact zG h (fun _=>zcC k) fun _ _ _ h=>h
theorem zfT (x:Fz) (hb:∀y∈x.body,RdS y) (rest:List Tk):∃f,ZX f 0 (nmT x.name::gT [40]::(yM (x.params.map qj)++(gT [41]::(qe x.result++(gT [123]::(YE x.body++(gT [125]::rest)))))))=some (.ok (zzF x,rest)):=by
 obtain ⟨f,z⟩:=zej x.params (qe x.result++(gT [123]::(YE x.body++(gT [125]::rest))));obtain ⟨h,A⟩:=xF hb rest;refine ⟨f+h,?_⟩
 have o:xK (qe x.result++(gT [123]::(YE x.body++(gT [125]::rest))))=some (.ok (x.result,gT [123]::(YE x.body++(gT [125]::rest)))):=by
  unfold xK qe
  by_cases h0:x.result=[]
  ·rw [h0];rfl
  ·rw [if_neg h0]
   refine (if_pos rfl).trans ?_;show some (ZB 0 (ktT x.result++_))=_
   rw [Qq]
 unfold ZX
 rw [zbt];simp only [zh,zhd h z,o];rw [Nat.add_comm f h,vD f A]
 rfl
def PGm (rs:List Rc) (fs:List Fc) (ts:List Tk) (r:PR Pg):Prop:=∃f,Zm f rs fs ts=some r
theorem PGm.record {rs:List Rc} {fs:List Fc} {ts:List Tk} {r:PR Pg} {x:Rz} (hl:x.fields≠[]) (h:PGm (rs++[zzR x]) fs ts r):PGm rs fs (ktR x++ts) r:=by
 obtain ⟨f,h⟩:=h;obtain ⟨o,y⟩:=zfS x hl ts;refine ⟨f+o+1,?_⟩;have e:ktR x++ts=XJ [114,101,99,111,114,100]::(nmT x.name::gT [123]::(yM (x.fields.map qj)++(gT [125]::ts))):=by simp [ktR]
 rw [e,Zm];refine (if_neg (by simp [zv])).trans ((if_pos rfl).trans ?_)
 show zh (Zl (f+o) 0 (nmT x.name::gT [123]::(yM (x.fields.map qj)++(gT [125]::ts)))) (fun x us=>Zm (f+o) (rs++[x]) fs us)=_
 rw [show Zl (f+o) 0 (nmT x.name::gT [123]::(yM (x.fields.map qj)++(gT [125]::ts)))=some (.ok (zzR x,ts)) by rw [Nat.add_comm f o];exact Vp y]
 exact VV h
theorem PGm.fn {rs:List Rc} {fs:List Fc} {ts:List Tk} {r:PR Pg} {x:Fz} (hb:∀y∈x.body,RdS y) (h:PGm rs (fs++[zzF x]) ts r):PGm rs fs (ktF x++ts) r:=by
 obtain ⟨f,h⟩:=h;obtain ⟨o,z⟩:=zfT x hb ts;refine ⟨f+o+1,?_⟩;have e:ktF x++ts=XJ [102,110]::(nmT x.name::gT [40]::(yM (x.params.map qj)++(gT [41]::(qe x.result++(gT [123]::(YE x.body++(gT [125]::ts))))))):=by simp [ktF]
 rw [e,Zm];refine (if_neg (by simp [zv])).trans ((if_neg Bool.false_ne_true).trans ((if_pos rfl).trans ?_))
 show zh (ZX (f+o) 0 (nmT x.name::gT [40]::(yM (x.params.map qj)++(gT [41]::(qe x.result++(gT [123]::(YE x.body++(gT [125]::ts)))))))) (fun x us=>Zm (f+o) rs (fs++[x]) us)=_
 rw [show ZX (f+o) 0 (nmT x.name::gT [40]::(yM (x.params.map qj)++(gT [41]::(qe x.result++(gT [123]::(YE x.body++(gT [125]::ts)))))))=some (.ok (zzF x,ts)) by rw [Nat.add_comm f o];exact UL z]
 exact VV h
theorem Qr:∀(l:List Fz) (rs:List Rc) (fs:List Fc),(∀x∈l,∀y∈x.body,RdS y)→PGm rs fs (l.flatMap ktF++[eoT]) (.ok (⟨rs,fs++l.map zzF⟩,[eoT]))
 | [],rs,fs,_=>⟨1,by
  show Zm 1 rs fs [eoT]=_
  rw [Zm,List.map_nil,List.append_nil]
  exact if_pos rfl⟩
 | x::xs,rs,fs,h=>by
  have o:=Qr xs rs (fs++[zzF x]) fun y hy=>h y (List.mem_cons_of_mem _ hy)
  have e:(x::xs).flatMap ktF++[eoT]=ktF x++(xs.flatMap ktF++[eoT]):=by rw [List.flatMap_cons,List.append_assoc]
  have z:fs++(x::xs).map zzF=fs++[zzF x]++xs.map zzF:=by simp
  rw [e,z];exact PGm.fn (h x (List.mem_cons_self ..)) o
theorem Qs:∀(l:List Rz) (rs:List Rc) (fs:List Fc) (ts:List Tk) (r:PR Pg),(∀x∈l,x.fields≠[])→PGm (rs++l.map zzR) fs ts r→PGm rs fs (l.flatMap ktR++ts) r
 | [],rs,fs,ts,r,_,h=>by
  rw [List.map_nil,List.append_nil] at h;exact h
 | x::xs,rs,fs,ts,r,hl,h=>by
  have e:(x::xs).flatMap ktR++ts=ktR x++(xs.flatMap ktR++ts):=by rw [List.flatMap_cons,List.append_assoc]
  rw [e];refine PGm.record (hl x (List.mem_cons_self ..)) (Qs xs (rs++[zzR x]) fs ts r (fun y hy=>hl y (List.mem_cons_of_mem _ hy)) ?_)
  have o:rs++(x::xs).map zzR=rs++[zzR x]++xs.map zzR:=by simp
  rw [←o];exact h
theorem zhe:xE 1 []=some [eoT]:=by
 have h:Z4 []=0:=by rw [vF];rfl
 rw [xE,h]
 rfl
theorem zek {x:Pz} {t:List UInt8} (h:vd x=some t):(∃f,xE f t=some (ktG x++[eoT]))∧PGm [] [] (ktG x++[eoT]) (.ok (zzG x,[eoT])):=by
 unfold vd at h
 obtain ⟨a,b,J,H,rfl⟩:=zn h
 constructor
 ·have L:=qg (g:=fun r:Rz=>recO r.name r.fields) (K:=ktR) (fun x _ t h=>zhb x h) x.recs.length a (Nat.le_refl _) J
  have I:=qg (g:=funO) (K:=ktF) (fun x _ t h=>zhc x h) x.funs.length b (Nat.le_refl _) H
  rw [List.take_length] at L I;obtain ⟨f,D⟩:=(L.then I) [] 1 [eoT] (fun _ _=>trivial) zhe
  rw [List.append_nil] at D;exact ⟨f,D⟩
 ·unfold ktG
  rw [List.append_assoc];refine Qs x.recs [] [] _ _ (fun y hy=>?_) (Qr x.funs _ [] fun y hy z hz=>?_)
  ·obtain ⟨j,A,rfl⟩:=List.getElem_of_mem hy
   obtain ⟨u,o⟩:=VX J j A;rw [List.getElem?_map,List.getElem?_eq_getElem A] at o;have o:recO x.recs[j].name x.recs[j].fields=some u:=o
   unfold recO at o
   split at o
   ·rename_i G
    intro e;rw [e] at G;exact absurd G (by decide)
   ·cases o
  ·obtain ⟨j,A,rfl⟩:=List.getElem_of_mem hy
   obtain ⟨u,o⟩:=VX H j A;rw [List.getElem?_map,List.getElem?_eq_getElem A] at o;have o:funO x.funs[j]=some u:=o
   unfold funO at o
   obtain ⟨_,_,_,U,-⟩:=zn o;obtain ⟨_,_,_,Y,-⟩:=zn U;obtain ⟨_,_,_,O,-⟩:=zn Y;obtain ⟨_,_,_,Q,-⟩:=zn O;obtain ⟨_,_,_,W,-⟩:=zn Q;obtain ⟨_,_,_,N,-⟩:=zn W;obtain ⟨_,_,_,T,-⟩:=zn N;obtain ⟨_,_,R,_,-⟩:=zn T;obtain ⟨t,V⟩:=zdd R z hz;exact zfM 24 z t V
mutual
theorem zel (fl:Nat→Nat):∀x:Ex,zO (Xs fl x)=zO x
 | .mk k s n kids line=>by rw [Xs,zO,zO,ux fl kids]
theorem ux (fl:Nat→Nat):∀l:List Ex,depthL (YZ fl l)=depthL l
 | []=>rfl
 | x::xs=>by rw [YZ,depthL,depthL,zel fl x,ux fl xs]
end
mutual
theorem zem (fl:Nat→Nat):∀x:St,Zo (uV fl x)=Zo x
 | .mk k s es b c line=>by rw [uV,Zo,Zo,ux fl es,XM fl b,XM fl c]
theorem XM (fl:Nat→Nat):∀l:List St,depthSs (yA fl l)=depthSs l
 | []=>rfl
 | x::xs=>by rw [yA,depthSs,depthSs,zem fl x,XM fl xs]
end
theorem Vz (fl:Nat→Nat):∀l:List Fc,depthFs (l.map (zfx fl))=depthFs l
 | []=>rfl
 | x::xs=>by
  rw [List.map_cons,depthFs,depthFs,Vz fl xs];show max (depthSs (yA fl x.body)) _=_
  rw [XM]
mutual
theorem zip (fl:Nat→Nat):∀x:Ex,smE (Xr x) (Xr (Xs fl x))
 | .mk k s n kids line=>by rw [Xs,Xr,Xr,smE];exact ⟨rfl,rfl,rfl,zcD fl kids⟩
theorem zcD (fl:Nat→Nat):∀l:List Ex,YN (ye l) (ye (YZ fl l))
 | []=>by rw [YZ,ye,YN];trivial
 | x::xs=>by rw [YZ,ye,ye,YN];exact ⟨zip fl x,zcD fl xs⟩
end
mutual
theorem ziq (fl:Nat→Nat):∀x:St,smS (uT x) (uT (uV fl x))
 | .mk k s es b c line=>by rw [uV,uT,uT,smS];exact ⟨rfl,rfl,zcD fl es,zae fl b,zae fl c⟩
theorem zae (fl:Nat→Nat):∀l:List St,Y1 (yF l) (yF (yA fl l))
 | []=>by rw [yA,yF,Y1];trivial
 | x::xs=>by rw [yA,yF,yF,Y1];exact ⟨ziq fl x,zae fl xs⟩
end
mutual
theorem zhf (n:Nat):∀x:Ex,zcm (Xr (Xs (·+n) x))=(zcm (Xr x)).map (·+(n:Int))
 | .mk k s m kids line=>by rw [Xs,Xr,Xr,zcm,zcm,zaf n kids,List.map_cons];simp
theorem zaf (n:Nat):∀l:List Ex,UZ (ye (YZ (·+n) l))=(UZ (ye l)).map (·+(n:Int))
 | []=>by rw [YZ,ye,UZ];rfl
 | x::xs=>by rw [YZ,ye,ye,UZ,UZ,zhf n x,zaf n xs,List.map_append]
end
mutual
theorem zhg (n:Nat):∀x:St,zcn (uT (uV (·+n) x))=(zcn (uT x)).map (·+(n:Int))
 | .mk k s es b c line=>by rw [uV,uT,uT,zcn,zcn,zaf n es,qh n b,qh n c,List.map_cons,List.map_append,List.map_append];simp
theorem qh (n:Nat):∀l:List St,vy (yF (yA (·+n) l))=(vy (yF l)).map (·+(n:Int))
 | []=>by rw [yA,yF,vy];rfl
 | x::xs=>by rw [yA,yF,yF,vy,vy,zhg n x,qh n xs,List.map_append]
end
mutual
theorem zir (fl:Nat→Nat):∀x:Ex,VZ (Xs fl x)=VZ x
 | .mk k s n kids line=>by rw [Xs,VZ,VZ,zfU fl kids]
theorem zfU (fl:Nat→Nat):∀l:List Ex,UV (YZ fl l)=UV l
 | []=>rfl
 | x::xs=>by rw [YZ,UV,UV,zir fl x,zfU fl xs]
end
mutual
theorem zis (fl:Nat→Nat):∀x:St,hiS (uV fl x)=hiS x
 | .mk k s es b c line=>by rw [uV,hiS,hiS,Uh fl b,Uh fl c]
theorem Uh (fl:Nat→Nat):∀l:List St,uU (yA fl l)=uU l
 | []=>rfl
 | x::xs=>by rw [yA,uU,uU,zis fl x,Uh fl xs]
end
theorem zdg (fl:Nat→Nat) (x:Pg):xM (qF fl x)=xM x:=by
 unfold xM qF
 simp only [List.map_map]
 congr 1
 apply List.map_congr_left
 intro y _;exact Uh fl y.body
theorem xi {l:List UInt8} {x:Pg} {a e:Nat} (h:Z2 l x a e):zcl x=true∧x.recs.length+U0 x.funs≤5000∧depthFs x.funs≤24:=by
 unfold Z2 at h
 have A:zcl YA=true∧YA.recs.length+U0 YA.funs≤5000∧depthFs YA.funs≤24:=⟨rfl,by simp [U0],by simp [depthFs]⟩
 by_cases hc:(zW l).2.2≠0
 ·rw [if_pos hc] at h
  rw [h.1];exact A
 ·rw [if_neg hc] at h
  have J:=XG l (by simpa using hc)
  obtain ⟨f,r,H,o⟩:=h;rcases r with b | ⟨y,G⟩
  ·simp only [yi] at o
   rw [o.1];exact A
  ·obtain ⟨I,D,z⟩:=Vt f [] [] _ y G H J (zgR l) (by have:=vL l;omega) rfl rfl
   have N:=vL l;have L:yi (.ok (y,G))=.ok y:=by unfold yi;simp only [if_pos I]
   simp only [L] at o
   by_cases h24:24<depthFs y.funs
   ·rw [if_pos h24] at o
    rw [o.1];exact A
   ·rw [if_neg h24] at o
    rw [o.1];simp only [List.length_nil,U0] at z;exact ⟨D,by omega,by omega⟩
mutual
theorem zit (fl:Nat→Nat):∀x y:Ex,Xs fl x=Xs fl y→smE (Xr x) (Xr y)
 | .mk k s n kids line,.mk k' s' n' kids' line',h=>by
  rw [Xs,Xs] at h
  injection h with h1 h2 h3 h4 h5
  rw [Xr,Xr,smE];exact ⟨by rw [h1],h2,h3,zcE fl kids kids' h4⟩
theorem zcE (fl:Nat→Nat):∀l m:List Ex,YZ fl l=YZ fl m→YN (ye l) (ye m)
 | [],[],_=>by rw [ye,YN];trivial
 | [],y::ys,h=>by rw [YZ,YZ] at h;cases h
 | x::xs,[],h=>by rw [YZ,YZ] at h;cases h
 | x::xs,y::ys,h=>by
  rw [YZ,YZ] at h
  injection h with h1 h2
  rw [ye,ye,YN];exact ⟨zit fl x y h1,zcE fl xs ys h2⟩
end
mutual
theorem ziu (fl:Nat→Nat):∀x y:St,uV fl x=uV fl y→smS (uT x) (uT y)
 | .mk k s es b c line,.mk k' s' es' b' c' line',h=>by
  rw [uV,uV] at h
  injection h with h1 h2 h3 h4 h5 h6
  rw [uT,uT,smS];exact ⟨by rw [h1],h2,zcE fl es es' h3,Ui fl b b' h4,Ui fl c c' h5⟩
theorem Ui (fl:Nat→Nat):∀l m:List St,yA fl l=yA fl m→Y1 (yF l) (yF m)
 | [],[],_=>by rw [yF,Y1];trivial
 | [],y::ys,h=>by rw [yA,yA] at h;cases h
 | x::xs,[],h=>by rw [yA,yA] at h;cases h
 | x::xs,y::ys,h=>by
  rw [yA,yA] at h
  injection h with h1 h2
  rw [yF,yF,Y1];exact ⟨ziu fl x y h1,Ui fl xs ys h2⟩
end
theorem zfV {α β:Type} {g:α→β} {l m:List α} (h:l.map g=m.map g) {i:Nat} {a b:α} (ha:l[i]?=some a) (hb:m[i]?=some b):g a=g b:=by
 have:=congrArg (fun l=>l[i]?) h
 simp only [List.getElem?_map,ha,hb,Option.map_some,Option.some.injEq] at this;exact this
theorem zfW (fl:Nat→Nat) {x y:Pg} (h:qF fl x=qF fl y):SmP (VU x) (VU y):=by
 unfold qF at h
 injection h with h1 h2
 refine ⟨?_,?_,fun i a b ha hb=>?_,fun i a b ha hb=>?_⟩
 ·have:=congrArg List.length h1
  simpa [VU] using this
 ·have:=congrArg List.length h2
  simpa [VU] using this
 ·unfold VU at ha hb
  simp only [List.getElem?_map,Option.map_eq_some_iff] at ha hb;obtain ⟨u,A,rfl⟩:=ha;obtain ⟨v,z,rfl⟩:=hb;have o:=zfV h1 A z
  unfold zgT at o
  injection o with h4 h5 h6
  exact ⟨h4,h5⟩
 ·unfold VU at ha hb
  simp only [List.getElem?_map,Option.map_eq_some_iff] at ha hb;obtain ⟨u,A,rfl⟩:=ha;obtain ⟨v,z,rfl⟩:=hb;have o:=zfV h2 A z
  unfold zfx at o
  injection o with h4 h5 h6 h7 h8
  exact ⟨h4,h6,h5,Ui fl _ _ h7⟩
theorem zfX {a b:Ez} (h:smE a b):X7 a=X7 b∧VJ a=VJ b:=by
 obtain ⟨k,s,n,kids,line⟩:=a;obtain ⟨z,A,D,y,o⟩:=b;rw [smE] at h;obtain ⟨rfl,rfl,rfl,-⟩:=h;exact ⟨rfl,rfl⟩
theorem zag {a b:Ez} (h:smE a b) (least:Nat) (o:Option (List UInt8)):kidO a least o=kidO b least o:=by
 unfold kidO
 rw [(zfX h).1]
theorem zcF {g:Ez→Option (List UInt8)} (hg:∀a b,smE a b→g a=g b):∀{l m:List Ez},YN l m→l.map g=m.map g∧l.length=m.length
 | [],[],_=>⟨rfl,rfl⟩
 | [],_::_,h=>by rw [YN] at h;exact h.elim
 | _::_,[],h=>by rw [YN] at h;exact h.elim
 | x::xs,y::ys,h=>by
  rw [YN] at h;obtain ⟨z,o⟩:=zcF hg h.2;exact ⟨by rw [List.map_cons,List.map_cons,hg x y h.1,z],by rw [List.length_cons,List.length_cons,o]⟩
theorem zah:∀(d:Nat) (a b:Ez),smE a b→prE d a=prE d b
 | 0,a,b,_=>by rw [prE,prE]
 | d+1,.mk k s n kids line,.mk k' s' n' kids' line',h=>by
  rw [smE] at h;obtain ⟨rfl,rfl,rfl,o⟩:=h;have y:=zah d;obtain ⟨z,A⟩:=zcF y o;rw [X8,X8]
  unfold prB
  rw [z,A]
  match kids,kids',o with
  | [],[],_=>rfl
  | [a],[b],o =>
   rw [YN] at o;simp only [zag o.1,y a b o.1]
  | a::a2::qs,b::b2::bs,o =>
   rw [YN,YN] at o;simp only [zag o.1,y a b o.1,zag o.2.1,y a2 b2 o.2.1]
  | [],_::_,o=>rw [YN] at o;exact o.elim
  | _::_,[],o=>rw [YN] at o;exact o.elim
  | [a],b::b2::bs,o=>rw [YN,YN] at o;exact o.2.elim
  | a::a2::qs,[b],o=>rw [YN,YN] at o;exact o.2.elim
theorem Uj {g:Sz→Option (List UInt8)} (hg:∀a b,smS a b→g a=g b):∀{l m:List Sz},Y1 l m→l.map g=m.map g∧l.length=m.length
 | [],[],_=>⟨rfl,rfl⟩
 | [],_::_,h=>by rw [Y1] at h;exact h.elim
 | _::_,[],h=>by rw [Y1] at h;exact h.elim
 | x::xs,y::ys,h=>by
  rw [Y1] at h;obtain ⟨z,o⟩:=Uj hg h.2;exact ⟨by rw [List.map_cons,List.map_cons,hg x y h.1,z],by rw [List.length_cons,List.length_cons,o]⟩
theorem zcG {g:Sz→Option (List UInt8)} (hg:∀a b,smS a b→g a=g b) {l m:List Sz} (h:Y1 l m):blkO g l=blkO g m:=by
 obtain ⟨y,o⟩:=Uj hg h
 unfold blkO
 rw [y,o]
theorem zfY {a b:Ez} (h:smE a b):x9 a=x9 b:=by
 unfold x9
 rw [(zfX h).2]
theorem zhh {k:Int} {l m:List Ez} (h:YN l m):hasX k l=hasX k m:=by
 have o:=(zcF (g:=fun _=>none) (fun _ _ _=>rfl) h).2
 unfold hasX
 rw [o]
 match l,m,h with
 | [],[],_=>rfl
 | [a],[b],_=>rfl
 | [a,a2],[b,b2],h =>
  rw [YN] at h;simp only [zfY h.1]
 | a::a2::a3::qs,b::b2::b3::bs,_=>rfl
 | [],_::_,h=>rw [YN] at h;exact h.elim
 | _::_,[],h=>rw [YN] at h;exact h.elim
 | [a],b::b2::bs,h=>rw [YN,YN] at h;exact h.2.elim
 | a::a2::qs,[b],h=>rw [YN,YN] at h;exact h.2.elim
 | [a,a2],b::b2::b3::bs,h=>rw [YN,YN,YN] at h;exact h.2.2.elim
 | a::a2::a3::qs,[b,b2],h=>rw [YN,YN,YN] at h;exact h.2.2.elim
theorem zfZ:∀(d:Nat) (a b:Sz),smS a b→prS d a=prS d b
 | 0,a,b,_=>by rw [prS,prS]
 | d+1,.mk k s es body els line,.mk k' s' es' body' els' line',h=>by
  rw [smS] at h;obtain ⟨rfl,rfl,o,A,z⟩:=h;have y:=zfZ d;rw [vo,vo]
  unfold prT Ye
  rw [zhh o,(Uj y A).2,(Uj y z).2,zcG y A,zcG y z]
  match es,es',o with
  | [],[],_=>rfl
  | [a],[b],o =>
   rw [YN] at o;simp only [zah d a b o.1]
  | a::a2::qs,b::b2::bs,o =>
   rw [YN,YN] at o;simp only [zah d a b o.1,zah d a2 b2 o.2.1]
  | [],_::_,o=>rw [YN] at o;exact o.elim
  | _::_,[],o=>rw [YN] at o;exact o.elim
  | [a],b::b2::bs,o=>rw [YN,YN] at o;exact o.2.elim
  | a::a2::qs,[b],o=>rw [YN,YN] at o;exact o.2.elim
theorem zf0 {α β:Type} {g:α→β} {l m:List α} (hl:l.length=m.length) (h:∀(i:Nat) (a b:α),l[i]?=some a→m[i]?=some b→g a=g b):l.map g=m.map g:=by
 apply List.ext_getElem?
 intro i;rw [List.getElem?_map,List.getElem?_map]
 by_cases hi:i<l.length
 ·have o:=List.getElem?_eq_getElem hi
  have y:=List.getElem?_eq_getElem (show i<m.length by omega)
  rw [o,y];exact congrArg some (h i _ _ o y)
 ·rw [List.getElem?_eq_none (by omega),List.getElem?_eq_none (by omega)]
theorem zhi {x y:Pz} (h:SmP x y):vd x=vd y:=by
 unfold vd
 rw [h.rl,h.fl,zf0 (g:=fun r:Rz=>recO r.name r.fields) h.rl fun i a b ha hb=>by
  obtain ⟨o,z⟩:=h.r i a b ha hb
  simp only [o,z],zf0 (g:=funO) h.fl fun i a b ha hb=>by
  obtain ⟨o,z,A,D⟩:=h.f i a b ha hb
  unfold funO
  rw [o,z,A,zcG (zfZ 24) D]]
mutual
theorem zi3:∀x:Ex,V0 (Xr x)=Xs (fun _=>0) x
 | .mk k s n kids line=>by rw [Xr,V0,Xs,zf1 kids];rfl
theorem zf1:∀l:List Ex,zzL (ye l)=YZ (fun _=>0) l
 | []=>by rw [ye,zzL,YZ]
 | x::xs=>by rw [ye,zzL,YZ,zi3 x,zf1 xs]
end
mutual
theorem zi4:∀x:St,zzS (uT x)=uV (fun _=>0) x
 | .mk k s es b c line=>by rw [uT,zzS,uV,zdh b,zdh c,←zc7,zf1 es];rfl
theorem zdh:∀l:List St,zzC (yF l)=yA (fun _=>0) l
 | []=>by rw [yF,zzC,yA]
 | x::xs=>by rw [yF,zzC,yA,zi4 x,zdh xs]
end
theorem zi5 (x:Pg):zzG (VU x)=qF (fun _=>0) x:=by
 unfold zzG VU qF
 simp only [List.map_map]
 congr 1
 apply List.map_congr_left
 intro y _;show (⟨y.name,y.params,y.result,zzC (yF y.body),0⟩:Fc)=_
 rw [zdh]
 rfl
theorem zai {fl fa:Nat→Nat} {us:List Tk} (h:us.map (Xb fl fa)=[eoT]):(zv us).k=0:=by
 cases us with
 | nil=>cases h
 | cons u us =>
  rw [List.map_cons] at h
  injection h with h1 h2
  have:=congrArg Tk.k h1
  exact this
theorem zen {s:List UInt8} {x:Pg} {a:Nat} (h:Z2 s x a 0):So (vd (VU x)):=by
 have hd:=(xi h).2.2;refine zfR ?_ hd
 unfold Z2 at h
 by_cases hc:(zW s).2.2≠0
 ·rw [if_pos hc] at h
  exact absurd h.2.2.symm hc
 rw [if_neg hc] at h;obtain ⟨f,r,G,o⟩:=h;rcases r with b | ⟨y,H⟩
 ·simp only [yi] at o
  exact absurd o.2.2 (by decide)
 ·have D:=uw f [] [] _ y H G (zcB s) (fun r hr=>by cases hr) (fun r hr=>by cases hr)
  unfold yi at o
  simp only at o
  split at o
  ·simp at o
  ·rename_i z A
   split at A
   ·obtain rfl:=Except.ok.inj A
    split at o
    ·simp at o
    ·obtain ⟨rfl,-,-⟩:=o
     exact D
   ·cases A
theorem zbu {s t:List UInt8} {x x':Pg} {a a' e':Nat} (h:Z2 s x a 0) (ht:vd (VU x)=some t) (hl:t.length≤4096) (h':Z2 t x' a' e'):e'=0∧SmP (VU x) (VU x')∧xM x'=xM x:=by
 have hd:=(xi h).2.2;obtain ⟨⟨Y,V⟩,⟨Z,G⟩⟩:=zek ht;obtain ⟨D,J⟩:=zd7 hl V
 unfold Z2 at h'
 rw [if_neg (by rw [D];decide)] at h'
 have T:=XG t D;obtain ⟨f,r,O,z⟩:=h';have o:=Q5 (fun _=>0) (fun _=>0) f [] [] _ T
 have I:(zW t).1.map (Xb (fun _=>0) (fun _=>0))=ktG (VU x)++[eoT]:=J
 rw [I,O] at o;rcases r with b | ⟨y,H⟩
 ·have A:=Vv G o
  cases A
 ·have A:=Vv G o
  injection A with h5
  injection h5 with h6 h7
  have Q:=zai h7.symm;have U:yi (.ok (y,H))=.ok y:=by unfold yi;simp only [if_pos Q]
  simp only [U] at z;rw [zi5] at h6
  have L:depthFs y.funs=depthFs x.funs:=by
   have N:depthFs (qF (fun _=>0) y).funs=depthFs y.funs:=Vz _ _
   have W:depthFs (qF (fun _=>0) x).funs=depthFs x.funs:=Vz _ _
   rw [←N,←W,h6]
  have R:xM y=xM x:=by rw [←zdg (fun _=>0) x,←zdg (fun _=>0) y,h6]
  rw [if_neg (by omega)] at z
  obtain ⟨rfl,-,rfl⟩:=z;exact ⟨rfl,zfW _ h6,R⟩
end Go.Proofs.YtpejpbbdgblbeaaGreatDoor
