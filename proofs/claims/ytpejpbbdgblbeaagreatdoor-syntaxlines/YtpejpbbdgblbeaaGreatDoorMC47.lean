import Derived.Test.YtpejpbbdgblbeaaGreatDoorMC40
import Derived.Test.YtpejpbbdgblbeaaGreatDoorMC48
namespace Go.Proofs.YtpejpbbdgblbeaaGreatDoor
open Go.RowKit Go.Shelf
set_option maxHeartbeats 16000000
set_option maxRecDepth 100000
mutual
def Yb:Ez→List Int
 | .mk _ _ _ kids line=>line::yv kids
def yv:List Ez→List Int
 | []=>[]
 | x::xs=>Yb x++yv xs
end
theorem zbM (x:Ez):1≤(Yb x).length:=by
 obtain ⟨k,s,n,kids,line⟩:=x;rw [Yb];simp
theorem VJ (l:List Ez):∀i y,l[i]?=some y→yv (l.take (i+1))=yv (l.take i)++Yb y:=by
 induction l with
 | nil=>intro i y h;simp at h
 | cons x xs ih =>
  intro i y h;cases i with
  | zero =>
   simp only [List.getElem?_cons_zero,Option.some.injEq] at h;subst h
   simp [yv]
  | succ i =>
   have:=ih i y (by simpa using h)
   rw [List.take_succ_cons,List.take_succ_cons,yv,yv,this,List.append_assoc]
theorem Xm (l:List Ez):∀i,(yv (l.take i)).length≤(yv l).length:=by
 induction l with
 | nil=>intro i;simp [yv]
 | cons x xs ih =>
  intro i;cases i with
  | zero=>simp [yv]
  | succ i =>
   rw [List.take_succ_cons,yv,yv,List.length_append,List.length_append]
   have:=ih i
   omega
theorem zaf {l:List Ez} {i:Nat} {y:Ez} (h:l[i]?=some y):(Yb y).length≤(yv l).length:=by
 have o:=Xm l (i+1);rw [VJ l i y h,List.length_append] at o;omega
abbrev ZP (l:List Int):List Value:=l.map fun x=>Value.int .i64 x
theorem zbN:(Tryz.prog.info? 3).map (fun i=>(i.zero,i.size,i.bytes))=some (some (.int .i64 0),1,8):=by kernel_rfl
theorem zcL (w:World) (B:Nat) (x:Int) (hB:B≤w.heap.size):(w.alloc (.cells #[.int .i64 x] 3)).ownsRow B 3 1 (.slice (some ⟨w.heap.size,0,none⟩) 1 1) 1 [.int .i64 x] :=
 ⟨rfl,.inr ⟨w.heap.size,1,#[.int .i64 x],rfl,hB,World.alloc_heap_new _ _,Nat.le_refl _,by simp [maxLen],rfl,rfl⟩⟩
theorem Uj:∀(N:Nat) (x:Ez) (v:Value) (w:World),dpE x≤N→(Yb x).length≤1099511627776→Zs w.heap.size w x v →
  Calls Tryz.prog 67 #[v] w fun e w'=>∃u,e=.returned u∧w'.ownsRow w.heap.size 3 1 u (Yb x).length (ZP (Yb x))∧Below w.heap.size w w'
 | 0,.mk k s n kids line,v,w,hd,_,_=>by rw [dpE] at hd;omega
 | N+1,.mk k s n kids line,v,w,hd,hln,hx=>by
  obtain ⟨i0,aA,aF,av,ax⟩:=info_parts zbN;obtain ⟨base,aa,rfl,hc,ao,hs,aL,aP,T⟩:=hx.kid;obtain ⟨m,hm⟩:∃m,m=kids.length:=⟨_,rfl⟩;rw [←hm] at hc ⊢;have aI:m≤9223372036854775807:=by unfold maxLen at ao;omega
  have ah:Ya w kids base:=fun i x h=>by
   obtain ⟨b,o,a1,Z,a3,U,a5,a6,a7,e,hb,G,ab,h⟩:=T i x h;exact ⟨b,o,a1,Z,a3,U,a5,a6,a7,e,G,ab,h⟩
  have hL:(yv kids).length+1≤1099511627776:=by rw [Yb] at hln;simpa using hln
  obtain ⟨w1,D⟩:∃w1,w1=w.alloc (Yi k s n base m aa line):=⟨_,rfl⟩;have V:Below w.heap.size w w1:=by rw [D];exact (Below.refl _ w).alloc (Nat.le_refl _) _
  have p1:w1.heap[w.heap.size]?=some (Yi k s n base m aa line):=by rw [D];exact World.alloc_heap_new w _
  have aj:w1.heap.size=w.heap.size+1:=by rw [D];simp
  have HR:Hid (∀u (W:World),W.ownsRow w.heap.size 3 1 u ((yv kids).length+1) (ZP (line::yv kids))→W.ownsRow w.heap.size 3 1 u (Yb (.mk k s n kids line)).length (ZP (Yb (.mk k s n kids line)))):=fun u W h=>by rw [Yb];exact h
  have HK:Hid (∀i y,kids[i]?=some y→∀W,Below w1.heap.size w1 W→∃b o a1 Z a3 U a5 a6 a7,base=some ⟨b,o,none⟩∧W.cell? ⟨b,o+i*5,none⟩=some (.int .i64 a1)∧W.cell? ⟨b,o+i*5+1,none⟩=some (.string (zb Z))∧W.cell? ⟨b,o+i*5+2,none⟩=some (.int .i64 a3)∧W.cell? ⟨b,o+i*5+3,none⟩=some (.slice U a5 a6)∧W.cell? ⟨b,o+i*5+4,none⟩=some (.int .i64 a7) ∧
    Calls Tryz.prog 67 #[yu a1 Z a3 U a5 a6 a7] W fun e w'=>∃u,e=.returned u∧w'.ownsRow W.heap.size 3 1 u (Yb y).length (ZP (Yb y))∧Below W.heap.size W w'):=fun i y hy W hW=>by
   obtain ⟨b,o,a1,Z,a3,U,a5,a6,a7,e,G,ab,m0,m1,m2,m3,m4⟩:=(ah.below (zl V hW)) i y hy;exact ⟨b,o,a1,Z,a3,U,a5,a6,a7,e,m0,m1,m2,m3,m4,Uj N y _ W (zae hd hy) (by have:=zaf hy;omega) ab⟩
  have ak:Hid (w1.heap[w.heap.size]?=some (Yi k s n base m aa line)):=p1;have af:Hid (Below w.heap.size w w1):=V;have HM:Hid (m=kids.length):=hm;have an:Hid ((w1.alloc (.cells #[.int .i64 line] 3)).ownsRow w1.heap.size 3 1 (.slice (some ⟨w.heap.size+1,0,none⟩) 1 1) 1 [.int .i64 line]∧Below w1.heap.size w1 (w1.alloc (.cells #[.int .i64 line] 3))):=⟨by rw [←aj];exact zcL w1 _ line (Nat.le_refl _),(Below.refl _ w1).alloc (Nat.le_refl _) _⟩
  obtain ⟨c0,c1,c2,c3,c4⟩:=zF p1;have aJ:=D.symm;have aB:=zj c3;clear hx T ah V p1 D hm hd hc ao hln
  go_enter Tryz.func67,Tryz.ntmps67
  go_wp2_with fail
  go_loopw [3,4] (fun vo vi wr=>∃(i:Nat) (L:List Int),i≤m∧vi=.int .i64 (i:Int)∧L=yv (kids.take i)∧wr.ownsRow w1.heap.size 3 1 vo (L.length+1) (ZP (line::L))∧Below w1.heap.size w1 wr) (fun _ vi _=>m-(intOf vi).toNat)
  case atStart=>exact ⟨0,[],Nat.zero_le _,rfl,by simp [yv],an.out⟩
  case round =>
   obtain ⟨i,L,hi,rfl,am,K,R⟩:=hrel;clear c0 c1 c2 c3 c4 aB an;obtain ⟨go,co,aE,-⟩:=Va K (by omega)
   subst aE;obtain ⟨c0,c1,c2,c3,c4⟩:=zF ((R.block w.heap.size (by omega)).trans ak.out)
   have J:Hid (Below w1.heap.size w1 wr):=R;have O:Hid (L=yv (kids.take i)):=am;have Q:Hid (wr.ownsRow w1.heap.size 3 1 _ (L.length+1) (ZP (line::L))):=K;have aK:=R.size;clear R am K
   by_cases G:i<m
   ·have ap:(i:Int)<(m:Int):=by omega
    obtain ⟨y,hy⟩:∃y,kids[i]?=some y:=⟨kids[i]'(by rw [←HM.out];exact G),List.getElem?_eq_getElem (by rw [←HM.out];exact G)⟩
    obtain ⟨b,o,a1,Z,a3,U,a5,a6,a7,rfl,m0,m1,m2,m3,m4,ck⟩:=HK.out i y hy wr J.out;have ae:Hid (L++Yb y=yv (kids.take (i+1))):=show _=_ by rw [VJ kids i y hy,O.out]
    have ay:L.length+(Yb y).length+1≤1099511627776:=by
     have h1:=Xm kids (i+1);rw [←ae.out,List.length_append] at h1;omega
    have ar:=zbM y;obtain ⟨Y,hY⟩:∃Y,Y=Yb y:=⟨_,rfl⟩;rw [←hY] at ck ae ay ar;clear hy HK O hY;go_wp2_with fail
    refine ck.mono ?_;clear ck m0 m1 m2 m3 m4 c0 c1 c2 c3 c4;rintro e w2 ⟨u,rfl,aq,ad⟩;obtain ⟨g2,cp2,rfl,aN,aH,aM,aO,z⟩:=Va aq ar;have H:Hid (w2.ownsRow w1.heap.size 3 1 _ (L.length+1) (ZP (line::L))):=yi Q.out ad (Nat.le_refl _);have ag:Hid (Below w1.heap.size w1 w2):=zl J.out ad
    have ai:Hid (∀j v,(ZP Y)[j]?=some v→w2.cell? ((⟨g2,0,none⟩:Addr).add j)=some v):=fun j v h=>by
     have:=z j v h
     rw [show (⟨g2,0,none⟩:Addr).add j=⟨g2,j,none⟩ by simp [Addr.add];try omega]
     exact this
    have al:w1.heap.size≤w2.heap.size:=ag.out.size;clear aq ad z Q J
    go_wp2_with (at_builtin;refine wpList_append_own_at _ rfl _ _ 33 rfl w1.heap.size 3 i0 _ 1 8 Tryz.underlying33 aA aF av ax rfl (by decide) _ _ _ rfl H.out ⟨g2,0,none⟩ Y.length cp2 (ZP Y) rfl (by simp) ai.out (by simp [Value.oneCell']) (by unfold maxLen;omega) (by omega) al ?_;intro v' w5 A I _ aG)
    have az:Hid (Below w1.heap.size w1 w5):=ag.out.grown I al fun q hq=>(H.out.lt q hq).1
    have aC:Hid (w5.ownsRow w1.heap.size 3 1 v' ((L++Y).length+1) (ZP (line::(L++Y)))):=show w5.ownsRow _ _ _ _ _ _ by
     have e1:(L++Y).length+1=L.length+1+Y.length:=by rw [List.length_append];omega
     have e2:ZP (line::(L++Y))=ZP (line::L)++ZP Y:=by simp
     rw [e1,e2];exact A
    clear A I aG H ag ai;go_wp2
    exact ⟨⟨i+1,L++Y,by omega,by go_num,ae.out,aC.out,az.out⟩,by simp [intOf];omega⟩
   ·obtain rfl:i=m:=by omega
    have ap:¬ (i:Int)<(i:Int):=by omega
    have aD:Hid (wr.ownsRow w.heap.size 3 1 (.slice (some ⟨go,0,none⟩) (L.length+1) co) (Yb (.mk k s n kids line)).length (ZP (Yb (.mk k s n kids line)))):=by
     have au:L=yv kids:=by rw [O.out,HM.out,List.take_length]
     have h1:=Q.out;exact HR.out _ _ (Qa (by rw [←au];exact h1) af.out.size)
    have aw:Hid (Below w.heap.size w wr):=zl af.out J.out;clear HK J af HM ak O Q HR;go_wp2
    exact bodyPost_ret (v:=.slice (some ⟨go,0,none⟩) (L.length+1) co) (by simp [results,Tryz.results67,go_sem]) rfl ⟨_,rfl,aD.out,aw.out⟩
theorem V6 {P:Program} (w:World) (base:Nat) (t ty e:TypeId) (i:TypeInfo) (ht:P.underlying t=some (.slice e)) (hi:P.info? e=some i)
  (v:Value) (n:Nat) (xs:List Value) (hown:w.ownsRow base e i.size v n xs):(Builtin.append_ #[t,t] ty #[v,.slice none 0 0]).run P w=.ok v w:=by
 rcases hown.2 with ⟨rfl,rfl⟩ | ⟨g,D,y,rfl,z,G,o,A,s,h⟩
 ·simp [Builtin.append_,run_underlying ht,sizeOf,typeInfo,hi,Builtin.lenOf,Builtin.firstCells]
 ·simp [Builtin.append_,run_underlying ht,sizeOf,typeInfo,hi,Builtin.lenOf,Builtin.firstCells,loadCells,o,Addr.add_lit,storeCells]
theorem vP {P:Program} {ops:Array Oper} {rest:List Oper} {o:Oper} {a:Act} {Q:Exit→Act→World→Prop} {w:World} (hgd:o.guard=none) (s x:Operand) (t:TypeId)
  (ho:o.op=.call { callee:=.builtin .append,args:=#[s,x],argTypes:=#[t,t] })
  (base:Nat) (e:TypeId) (i:TypeInfo) (size:Nat) (ht:P.underlying t=some (.slice e)) (hi:P.info? e=some i) (hsize:i.size=size)
  (v:Value) (n:Nat) (xs:List Value) (hs:a.eval s=v) (hown:w.ownsRow base e size v n xs) (hx:a.eval x=.slice none 0 0)
  (h:wpList P ops Q rest (a.put o.dst v) w):wpList P ops Q (o::rest) a w:=by
 subst hsize;refine wpList_plain hgd fun K hK=>?_
 have y:=V6 (P:=P) w base t o.type e i ht hi v n xs hown
 unfold Oper.wp execOp
 simp only [ho,resolve,invoke,builtin,Sem.run_bind,Sem.run_pure,Result.andThen_ok,List.map_toArray,List.map_cons,List.map_nil,hs,hx,y];exact hK _ _ h
theorem Zk.near {α:Type} {P P':α→List Value→Prop} {sz:Nat} {w W:World} {l:List α} {base:Option Addr} {m cap:Nat} (h:Zk P sz w.heap.size w l base m cap) (hb:Below w.heap.size w W) (hP:∀x c,P x c→P' x c):Zk P' sz W.heap.size W l base m cap:=(h.kept hb hP).wide hb.size fun _ _ h=>h
theorem V7 (f:Nat) (x y:Pz) (v v':Value) (w:World) (O:Xi w.heap.size w f x v) (N:Xi w.heap.size w f y v') (hs:SmP x y) :
  Calls Tryz.prog 10 #[v,v'] w fun e w'=>e=.returned (.bool true)∧Below w.heap.size w w':=by
 obtain ⟨b,m,af,b2,m2,Z,rfl,U,T⟩:=O;obtain ⟨b',m',ad,ae,m2',J,rfl,r2,f2⟩:=N;obtain rfl:m=m':=by have:=U.1;have:=r2.1;have:=hs.rl;omega
 obtain rfl:m2=m2':=by have:=T.1;have:=f2.1;have:=hs.fl;omega
 refine Ui b b2 b' ae m af m2 Z ad J w (by have:=U.2.1;have:=U.2.2.1;have:=U.1;unfold maxLen at *;omega) (by have:=T.2.1;have:=T.2.2.1;have:=T.1;unfold maxLen at *;omega) (fun i hi W hW=>?_) (fun i hi W hW=>?_)
 ·have k1:=U.near hW fun x c h=>xX.wide hW.size x c (xX.kept hW x c h)
  have k2:=r2.near hW fun x c h=>xX.wide hW.size x c (xX.kept hW x c h)
  have O:x.recs[i]?=some (x.recs[i]'(by have:=U.1;omega)):=List.getElem?_eq_getElem _
  have N:y.recs[i]?=some (y.recs[i]'(by have:=r2.1;omega)):=List.getElem?_eq_getElem _
  obtain ⟨bb,o,c,e1,L,-,-,hp,I⟩:=k1.2.2.2 i _ O;obtain ⟨Q,o',c',R,D,-,-,K,s⟩:=k2.2.2.2 i _ N;obtain ⟨V,mf,cf,rfl,-,hf⟩:=hp;obtain ⟨z,G,A,rfl,-,H⟩:=K;obtain ⟨n1,n2⟩:=hs.r i _ _ O N;refine ⟨bb,o,_,V,mf,cf,Q,o',z,G,A,e1,R,L,D,I 0 _ rfl,I 1 _ rfl,?_,s 1 _ rfl,fun wx hwx=>?_⟩
  ·rw [n1];exact s 0 _ rfl
  ·rw [←n2] at H
   exact (XO _ V z mf G cf A wx (hf.near hwx fun _ _ h=>h) (H.near hwx fun _ _ h=>h)).mono fun e w'' h=>⟨h.1,hwx.trans (h.2.mono hwx.size)⟩
 ·have k1:=T.near hW fun x c h=>xY.wide hW.size f x c (xY.kept hW f x c h)
  have k2:=f2.near hW fun x c h=>xY.wide hW.size f x c (xY.kept hW f x c h)
  have O:x.funs[i]?=some (x.funs[i]'(by have:=T.1;omega)):=List.getElem?_eq_getElem _
  have N:y.funs[i]?=some (y.funs[i]'(by have:=f2.1;omega)):=List.getElem?_eq_getElem _
  obtain ⟨bb,o,c,e1,L,-,-,hp,I⟩:=k1.2.2.2 i _ O;obtain ⟨Q,o',c',R,D,-,-,K,s⟩:=k2.2.2.2 i _ N;obtain ⟨V,mf,cf,bg,mg,cg,rfl,-,-,hf,hg⟩:=hp;obtain ⟨z,G,A,aa,Y,ab,rfl,-,-,H,ag⟩:=K;obtain ⟨n1,n2,n3,n4⟩:=hs.f i _ _ O N;refine ⟨bb,o,_,V,mf,cf,_,bg,mg,cg,_,Q,o',z,G,A,aa,Y,ab,_,e1,R,L,D,I 0 _ rfl,I 1 _ rfl,I 2 _ rfl,I 3 _ rfl,I 4 _ rfl,?_,s 1 _ rfl,?_,s 3 _ rfl,s 4 _ rfl,fun wx hwx=>?_,fun wx hwx=>?_⟩
  ·rw [n1];exact s 0 _ rfl
  ·rw [n2];exact s 2 _ rfl
  ·rw [←n3] at H
   exact XO _ V z mf G cf A wx (hf.near hwx fun _ _ h=>h) (H.near hwx fun _ _ h=>h)
  ·exact UJ f _ _ bg aa mg Y cg ab wx (hg.near hwx fun x c h=>ZN.wide hwx.size f x c (ZN.kept hwx f x c h)) (ag.near hwx fun x c h=>ZN.wide hwx.size f x c (ZN.kept hwx f x c h)) n4
mutual
def V8:Sz→List Int
 | .mk _ _ es body els line=>line::(yv es++(Zi body++Zi els))
def Zi:List Sz→List Int
 | []=>[]
 | x::xs=>V8 x++Zi xs
end
theorem Uk (l:List Sz):∀i y,l[i]?=some y→Zi (l.take (i+1))=Zi (l.take i)++V8 y:=by
 induction l with
 | nil=>intro i y h;simp at h
 | cons x xs ih =>
  intro i y h;cases i with
  | zero =>
   simp only [List.getElem?_cons_zero,Option.some.injEq] at h;subst h
   simp [Zi]
  | succ i =>
   have:=ih i y (by simpa using h)
   rw [List.take_succ_cons,List.take_succ_cons,Zi,Zi,this,List.append_assoc]
theorem vh (l:List Sz):∀i,(Zi (l.take i)).length≤(Zi l).length:=by
 induction l with
 | nil=>intro i;simp [Zi]
 | cons x xs ih =>
  intro i;cases i with
  | zero=>simp [Zi]
  | succ i =>
   rw [List.take_succ_cons,Zi,Zi,List.length_append,List.length_append]
   have:=ih i
   omega
theorem yU {ops:Array Oper} {rest:List Oper} {o:Oper} {a:Act} {Q:Exit→Act→World→Prop} {w:World} (hgd:o.guard=none) (s x:Operand)
  (ho:o.op=.call { callee:=.builtin .append,args:=#[s,x],argTypes:=#[33,33] })
  (base B':Nat) (v u:Value) (L Y:List Int) (hs:a.eval s=v) (hown:w.ownsRow base 3 1 v L.length (ZP L)) (hx:a.eval x=u) (hn:Y=[]→u=.slice none 0 0) (hu:w.ownsRow B' 3 1 u Y.length (ZP Y))
  (hln:L.length+Y.length≤1099511627776) (hbase:base≤w.heap.size)
  (h:∀H w',w'.ownsRow base 3 1 H (L++Y).length (ZP (L++Y))→Below base w w'→wpList Tryz.prog ops Q rest (a.put o.dst H) w'):wpList Tryz.prog ops Q (o::rest) a w:=by
 obtain ⟨O,G,K,D,I⟩:=info_parts zbN
 by_cases hY:Y=[]
 ·obtain rfl:=hn hY
  subst hY;refine vP hgd s x 33 ho base 3 O 1 Tryz.underlying33 G D v _ _ hs hown hx ?_;exact h v w (by rw [List.append_nil];exact hown) (Below.refl _ _)
 ·have N:1≤Y.length:=by cases Y with | nil=>exact absurd rfl hY | cons _ _=>simp
  obtain ⟨J,cp2,rfl,T,R,aa,V,y⟩:=Va hu N;refine wpList_append_own_at w hgd s x 33 ho base 3 O _ 1 8 Tryz.underlying33 G K D I rfl (by decide) v _ _ hs hown ⟨J,0,none⟩ Y.length cp2 (ZP Y) hx (by simp) (fun j v h=>?_) (by simp [Value.oneCell']) (by unfold maxLen;omega) (by omega) hbase ?_
  ·have:=y j v h
   rw [show (⟨J,0,none⟩:Addr).add j=⟨J,j,none⟩ by simp [Addr.add];try omega]
   exact this
  ·intro H w' A z _ W
   refine h H w' ?_ ((Below.refl base w).grown z hbase fun q hq=>(hown.lt q hq).1)
   have Z:(L++Y).length=L.length+Y.length:=List.length_append;have U:ZP (L++Y)=ZP L++ZP Y:=by simp
   rw [Z,U];exact A
def LnP (w:World) (L:List Int) (e:Ending) (w':World):Prop:=∃u,e=.returned u∧(L=[]→u=.slice none 0 0)∧w'.ownsRow w.heap.size 3 1 u L.length (ZP L)∧Below w.heap.size w w'
def zgU (base:Option Addr) (w:World) (i:Nat) (y:Sz):Prop:=∃(b o:Nat) (be:Option Addr) (me ce:Nat) (bb:Option Addr) (mb cb:Nat) (bl:Option Addr) (ml cl:Nat) (line:Int) (es:List Ez) (body els:List Sz) (k:Int) (s:List UInt8),y=.mk k s es body els line∧base=some ⟨b,o,none⟩∧b<w.heap.size∧me=es.length∧me≤9223372036854775807∧Ya w es be ∧
 w.cell? ⟨b,o+i*6+2,none⟩=some (.slice be me ce)∧w.cell? ⟨b,o+i*6+3,none⟩=some (.slice bb mb cb)∧w.cell? ⟨b,o+i*6+4,none⟩=some (.slice bl ml cl)∧w.cell? ⟨b,o+i*6+5,none⟩=some (.int .i64 line) ∧
 Hid (∀wx,Below w.heap.size w wx→Calls Tryz.prog 30 #[.slice bb mb cb] wx (LnP wx (Zi body))) ∧
 Hid (∀wx,Below w.heap.size w wx→Calls Tryz.prog 30 #[.slice bl ml cl] wx (LnP wx (Zi els)))
theorem vj (l:List Sz) (base:Option Addr) (m cap:Nat) (w:World) (hm:m=l.length) (hmx:m≤9223372036854775807) (ai:(Zi l).length≤1099511627776) (ah:∀i y,l[i]?=some y→zgU base w i y) :
  Calls Tryz.prog 30 #[.slice base m cap] w (LnP w (Zi l)):=by
 obtain ⟨i0,aV,a9,aR,aS⟩:=info_parts zbN;have aN:Hid (∀i y,l[i]?=some y→zgU base w i y):=ah;have HM:Hid (m=l.length):=hm;have aH:Hid ((Zi l).length≤1099511627776):=ai;have aD:Hid (w.ownsRow w.heap.size 3 1 (.slice none 0 0) 0 []∧Below w.heap.size w w):=⟨World.ownsRow_nil w _ _ _,Below.refl _ _⟩;clear ah hm ai
 go_enter Tryz.func30,Tryz.ntmps30
 go_wp2_with fail
 go_loopw [3,4] (fun vo vi wr=>∃(i:Nat) (L:List Int),i≤m∧vi=.int .i64 (i:Int)∧L=Zi (l.take i)∧(L=[]→vo=.slice none 0 0)∧wr.ownsRow w.heap.size 3 1 vo L.length (ZP L)∧Below w.heap.size w wr) (fun _ vi _=>m-(intOf vi).toNat)
 case atStart=>exact ⟨0,[],Nat.zero_le _,rfl,by simp [Zi],fun _=>rfl,aD.out⟩
 case round =>
  obtain ⟨i,L,hi,rfl,hL,al,O,T⟩:=hrel;have R:Hid (Below w.heap.size w wr):=T;have G:Hid (L=Zi (l.take i)):=hL;have aA:Hid (L=[]→_=Value.slice none 0 0):=al;have J:Hid (wr.ownsRow w.heap.size 3 1 _ L.length (ZP L)):=O;have bd:w.heap.size≤wr.heap.size:=T.size;clear T hL al O aD
  by_cases hlt:i<m
  ·have aU:(i:Int)<m:=by omega
   obtain ⟨y,hy⟩:∃y,l[i]?=some y:=⟨l[i]'(by rw [←HM.out];exact hlt),List.getElem?_eq_getElem (by rw [←HM.out];exact hlt)⟩
   obtain ⟨b,o,be,me,ce,bb,mb,cb,bl,ml,cl,line,W,body,els,k,s,rfl,rfl,hb,aF,ba,hk,c2,c3,c4,c5,av,az⟩:=aN.out i y hy;have HC:Hid (b<w.heap.size∧w.cell? ⟨b,o+i*6+2,none⟩=some (.slice be me ce)∧w.cell? ⟨b,o+i*6+3,none⟩=some (.slice bb mb cb)∧w.cell? ⟨b,o+i*6+4,none⟩=some (.slice bl ml cl)∧w.cell? ⟨b,o+i*6+5,none⟩=some (.int .i64 line)):=⟨hb,c2,c3,c4,c5⟩;have aC:Hid (Ya w W be):=hk;have aa:Hid (me=W.length):=aF;have ak:Hid (L++(line::(yv W++(Zi body++Zi els)))=Zi (l.take (i+1))):=show _=_ by rw [Uk l i _ hy,G.out,V8]
   have aT:L.length+(yv W).length+(Zi body).length+(Zi els).length+1≤1099511627776:=by
    have h1:=vh l (i+1);have h2:=aH.out;rw [←ak.out] at h1;simp only [List.length_append,List.length_cons] at h1;omega
   have d5:=zj ((R.out.cell (p:=⟨b,o+i*6+5,none⟩) hb).trans c5) (.cells #[.int .i64 line] 3);have aW:=(R.out.cell (p:=⟨b,o+i*6+5,none⟩) hb).trans c5;obtain ⟨w1,af⟩:∃w1,w1=wr.alloc (.cells #[.int .i64 line] 3):=⟨_,rfl⟩;have ae:Below wr.heap.size wr w1:=by rw [af];exact (Below.refl _ wr).alloc (Nat.le_refl _) _
   have au:w.heap.size≤w1.heap.size:=by have:=ae.size;omega
   have ad:Hid (w1.ownsRow w.heap.size 3 1 _ L.length (ZP L)):=yi J.out ae (Nat.le_refl _);have aO:Hid (Below w.heap.size w w1):=zl R.out ae
   have aL:Hid (∀j v,[Value.int .i64 line][j]?=some v→w1.cell? ((⟨wr.heap.size,0,none⟩:Addr).add j)=some v):=fun j v h=>by
    have h3:w1.heap[wr.heap.size]?=some (.cells #[.int .i64 line] 3):=by rw [af];exact World.alloc_heap_new wr _
    cases j with
    | zero=>simp only [List.getElem?_cons_zero,Option.some.injEq] at h;subst h;simp [World.cell?,Addr.add,h3]
    | succ j=>simp at h
   have ao:=af.symm;rw [ao] at d5;clear af ae hk aF hy c2 c3 c4 c5 hb J R aA G
   go_wp2_with (at_builtin;refine wpList_append_own_at _ rfl _ _ 33 rfl w.heap.size 3 i0 _ 1 8 Tryz.underlying33 aV a9 aR aS rfl (by decide) _ _ _ rfl ad.out ⟨wr.heap.size,0,none⟩ 1 1 [.int .i64 line] rfl (by simp) aL.out (by simp [Value.oneCell']) (by unfold maxLen;omega) (by omega) au ?_;intro v' wz z ab _ ah)
   have aP:Hid (Below w.heap.size w wz):=aO.out.grown ab au fun q hq=>(ad.out.lt q hq).1
   have aG:Hid (wz.ownsRow w.heap.size 3 1 v' (L++[line]).length (ZP (L++[line]))):=show wz.ownsRow _ _ _ _ _ _ by
    have e1:(L++[line]).length=L.length+1:=by simp
    have e2:ZP (L++[line])=ZP L++[.int .i64 line]:=by simp
    rw [e1,e2];exact z
   clear z ab ah ad aO aL ao d5 aW au;go_wp2_with fail
   go_loopw [3,5] (fun vo vk wr=>∃(j:Nat) (A:List Int),j≤me∧vk=.int .i64 (j:Int)∧A=L++[line]++yv (W.take j)∧wr.ownsRow w.heap.size 3 1 vo A.length (ZP A)∧Below w.heap.size w wr) (fun _ vk _=>me-(intOf vk).toNat)
   case atStart=>exact ⟨0,L++[line],Nat.zero_le _,rfl,by simp [yv],aG.out,aP.out⟩
   case round =>
    obtain ⟨j,A,hj,rfl,aE,O,T⟩:=hrel;clear aG aP;have G:Hid (A=L++[line]++yv (W.take j)):=aE;have J:Hid (wr.ownsRow w.heap.size 3 1 _ A.length (ZP A)):=O;have R:Hid (Below w.heap.size w wr):=T;have bc:w.heap.size≤wr.heap.size:=T.size;obtain ⟨hb,c2,c3,c4,c5⟩:=HC.out;have e2:=(R.out.cell (p:=⟨b,o+i*6+2,none⟩) hb).trans c2;clear aE O T c2 c3 c4 c5
    by_cases hlt2:j<me
    ·have a0:(j:Int)<me:=by omega
     obtain ⟨q,hq⟩:∃q,W[j]?=some q:=⟨W[j]'(by rw [←aa.out];exact hlt2),List.getElem?_eq_getElem (by rw [←aa.out];exact hlt2)⟩
     have ai:=G.out;obtain ⟨kb,ko,a1,a2,a3,a4,a5,a6,a7,rfl,a8,aM,m0,m1,m2,m3,m4⟩:=(aC.out.below R.out) j q hq;have aY:=zaf hq;have aK:=Xm W (j+1);have ck:=Uj (dpE q) q _ wr (Nat.le_refl _) (by omega) aM
     have V:Hid (A++Yb q=L++[line]++yv (W.take (j+1))):=show _=_ by rw [VJ W j q hq,G.out,List.append_assoc]
     have aj:A.length+(Yb q).length≤1099511627776:=by
      have h1:=congrArg List.length V.out;simp only [List.length_append,List.length_cons,List.length_nil] at h1;omega
     have aQ:Yb q≠[]:=by have:=zbM q;intro h;rw [h] at this;simp at this
     obtain ⟨Y,hY⟩:∃Y,Y=Yb q:=⟨_,rfl⟩;rw [←hY] at ck V aj aQ;clear hq ai aM a8 aY aK hY G;go_wp2_with fail
     refine ck.mono ?_;clear ck m0 m1 m2 m3 m4 e2;rintro e w2 ⟨u,rfl,N,I⟩;have D:Hid (w2.ownsRow w.heap.size 3 1 _ A.length (ZP A)):=yi J.out I (Nat.le_refl _);have H:Hid (Below w.heap.size w w2):=zl R.out I;have K:Hid (w2.ownsRow wr.heap.size 3 1 u Y.length (ZP Y)):=N;have ay:w.heap.size≤w2.heap.size:=H.out.size;clear N I J R
     go_wp2_with (at_builtin;refine yU rfl _ _ rfl w.heap.size wr.heap.size _ u A Y rfl D.out rfl (fun h=>absurd h aQ) K.out aj ay ?_;intro v' wz z Q)
     have aq:Hid (Below w.heap.size w wz):=H.out.trans Q;have ar:Hid (wz.ownsRow w.heap.size 3 1 v' (A++Y).length (ZP (A++Y))):=z;clear z Q D H K;go_wp2
     exact ⟨⟨j+1,A++Y,by omega,by go_num,V.out,ar.out,aq.out⟩,by simp [intOf];omega⟩
    ·obtain rfl:j=me:=by omega
     have a0:¬ (j:Int)<j:=by omega
     obtain ⟨Y1,ap⟩:∃Y1,Y1=Zi body:=⟨_,rfl⟩;obtain ⟨U,aB⟩:∃U,U=Zi els:=⟨_,rfl⟩;rw [←ap,←aB] at ak aT;rw [←ap] at av;rw [←aB] at az;have V:Hid (A++Y1++U=Zi (l.take (i+1))):=show _=_ by rw [←ak.out,G.out,aa.out,List.take_length];simp
     have aj:A.length+Y1.length+U.length≤1099511627776:=by
      have h1:=congrArg List.length G.out;rw [aa.out,List.take_length] at h1;simp only [List.length_append,List.length_cons,List.length_nil] at h1;omega
     have aX:A≠[]:=by
      intro h;have h1:=congrArg List.length G.out;rw [h] at h1
      simp at h1
     obtain ⟨aw,c2,c3,c4,c5⟩:=HC.out;have e3:=(R.out.cell (p:=⟨b,o+i*6+3,none⟩) hb).trans c3;have ck:=av.out wr R.out;clear c2 c3 c4 c5 aw ap aB G aa aC ak av;go_wp2_with fail
     refine ck.mono ?_;clear ck e2 e3;rintro e w2 ⟨u,rfl,hn,N,I⟩;have D:Hid (w2.ownsRow w.heap.size 3 1 _ A.length (ZP A)):=yi J.out I (Nat.le_refl _);have H:Hid (Below w.heap.size w w2):=zl R.out I;have K:Hid (w2.ownsRow wr.heap.size 3 1 u Y1.length (ZP Y1)):=N;have Z:Hid (Y1=[]→u=.slice none 0 0):=hn;have ay:w.heap.size≤w2.heap.size:=H.out.size;clear N I J R hn
     go_upto_region 11 with (at_builtin;refine yU rfl _ _ rfl w.heap.size wr.heap.size _ u A Y1 rfl D.out rfl Z.out K.out (by omega) ay ?_;intro v2 wy z Q)
     have ag:Hid (Below w.heap.size w wy):=H.out.trans Q;have ax:Hid (wy.ownsRow w.heap.size 3 1 v2 (A++Y1).length (ZP (A++Y1))):=z;have aI:(A++Y1).length+U.length≤1099511627776:=by rw [List.length_append];omega
     have am:A++Y1++U≠[]:=by simp [aX]
     obtain ⟨L3,an⟩:∃L3,L3=A++Y1:=⟨_,rfl⟩;rw [←an] at ax aI am V;obtain ⟨aw,c2,c3,c4,c5⟩:=HC.out;have e4:=(ag.out.cell (p:=⟨b,o+i*6+4,none⟩) hb).trans c4;have ck:=az.out wy ag.out;clear z Q D H K Z c2 c3 c4 c5 aw HC az an aj;go_wp2_with fail
     refine ck.mono ?_;clear ck e4;rintro e w4 ⟨u4,rfl,hn,N,I⟩;have D:Hid (w4.ownsRow w.heap.size 3 1 _ L3.length (ZP L3)):=yi ax.out I (Nat.le_refl _);have H:Hid (Below w.heap.size w w4):=zl ag.out I;have K:Hid (w4.ownsRow wy.heap.size 3 1 u4 U.length (ZP U)):=N;have Z:Hid (U=[]→u4=.slice none 0 0):=hn;have aZ:w.heap.size≤w4.heap.size:=H.out.size;clear N I ax ag hn;go_wp2_with (at_builtin;refine yU rfl _ _ rfl w.heap.size wy.heap.size _ u4 L3 U rfl D.out rfl Z.out K.out aI aZ ?_;intro v3 wx z Q)
     have aq:Hid (Below w.heap.size w wx):=H.out.trans Q;have ar:Hid (wx.ownsRow w.heap.size 3 1 v3 (L3++U).length (ZP (L3++U))):=z;clear z Q D H K Z;go_wp2
     exact ⟨⟨i+1,L3++U,by omega,by go_num,V.out,fun h=>absurd h am,ar.out,aq.out⟩,by simp [intOf];omega⟩
  ·obtain rfl:i=m:=by omega
   have aU:¬ (i:Int)<i:=by omega
   have aJ:L=Zi l:=by rw [G.out,HM.out,List.take_length]
   have HP:=(show Hid (_∧_∧_) from ⟨aA.out,J.out,R.out⟩)
   rw [aJ] at HP;clear aN HM aH G aA J R aJ;go_wp2
   exact bodyPost_ret (v:=_) (by simp [results,Tryz.results30,go_sem]) rfl ⟨_,rfl,HP.out⟩
end Go.Proofs.YtpejpbbdgblbeaaGreatDoor
