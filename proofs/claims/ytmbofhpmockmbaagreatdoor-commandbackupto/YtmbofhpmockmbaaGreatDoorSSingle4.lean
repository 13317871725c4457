import Derived.Test.YtmbofhpmockmbaaGreatDoorSSingle3
namespace Go.Proofs.YtmbofhpmockmbaaGreatDoor
open Go.RowKit Go.Shelf
set_option maxHeartbeats 16000000
set_option maxRecDepth 100000
def xo (t t6:Tk) (res:PR (List Ex)):PR Ex :=
 if t6.k=1 then
  match res with
  | .error a=>.error a
  | .ok (l,us)=>.ok (.mk 11 t6.s 0 l t.line,us)
 else .error t6.at0
theorem yZ (r g o cap:Nat) (t t6:Tk) (ts6:List Tk) (w:World) (res:PR (List Ex)) (hi:zn t [110,101,119]=true) (hbr:t6.k=1→∀T o1 cap1,zc r g o1 cap1 ts6 T→zb r w T→Calls Tryz.prog 177 #[.pointer (some ⟨r,0,none⟩),.func (.func 74) #[.pointer (some ⟨r,0,none⟩)] #[]] T (yx r g T res)) (h:zc r g o cap (t::t6::ts6) w) (hE:zh (t::t6::ts6)) (hk1:t.k≠1) (hk2:t.k≠2) (hk3:t.k≠3) (hiT:zn t [116,114,117,101]=false) (hiF:zn t [102,97,108,115,101]=false) :
  Calls Tryz.prog 168 #[.pointer (some ⟨r,0,none⟩)] w (zi r g w (xo t t6 res)):=by
 generalize hres:xo t t6 res=R;have aP:∀(fn:Fn) (first cap:Array Value) (w:World),(Instr.makeFunc fn first cap).run Tryz.prog w=.ok (.func fn first cap) w:=fun _ _ _ _=>rfl
 obtain ⟨ts,an⟩:∃ts,ts=t6::ts6:=⟨_,rfl⟩;rw [←an] at h hE;have hr:=h.lt.1;have ay:=h.lt.2;have h0:=h.alloc zA;have ch:=zZ r g o cap t ts _ h0;obtain ⟨w2,M⟩:∃w2,w2=((w.alloc zA).alloc (zE t)).alloc (zE t):=⟨_,rfl⟩;have h2:zc r g o cap (t::ts) w2:=by rw [M];exact (h0.alloc _).alloc _
 have k2:zb r w w2:=by rw [M];exact (((zb.refl r w).alloc _).alloc _).alloc _
 have n0:w2.heap[w.heap.size]?=some zA:=by
  rw [M,Below.heap_alloc _ _ _ (by simp;omega),Below.heap_alloc _ _ _ (by simp)]
  exact World.alloc_heap_new _ _
 have n2:w2.heap[w.heap.size+1+1]?=some (zE t):=by
  have hx:=World.alloc_heap_new ((w.alloc zA).alloc (zE t)) (zE t);rw [←M,show ((w.alloc zA).alloc (zE t)).heap.size=w.heap.size+1+1 by simp] at hx
  exact hx
 have aw:w.heap.size+1+1<w2.heap.size:=(Array.getElem?_eq_some_iff.1 n2).1;have al:Hid (w2=((w.alloc zA).alloc (zE t)).alloc (zE t)):=M;have U:Hid (zb r w w2):=k2;have aE:Hid (w2.heap[w.heap.size]?=some zA):=n0;have az:Hid (w2.heap[w.heap.size+1+1]?=some (zE t)):=n2;have aJ:¬(t.k:Int)=1:=by omega
 have aG:¬(t.k:Int)=2:=by omega
 have aH:¬(t.k:Int)=3:=by omega
 clear h h0 M k2 n0 n2
 go_enter Tryz.func168,Tryz.ntmps168
 go_wp2_with fail
 refine ch.mono ?_;clear ch;rintro e T ⟨rfl,rfl⟩;simp only [YA];have ab:Hid (zb r w2 w2):=zb.refl r w2;have ai:Hid (zc r g o cap (t::ts) w2):=h2;clear h2;have Q:=zX r g o cap t ts [116,114,117,101] w2 ai.out (fun hi=>(hE.tail (zf hi)).ne)
 rw [hiT] at Q;go_wp2_with fail
 rw [←al.out];refine Q.mono ?_;clear Q;rintro e w3 ⟨rfl,E,G⟩;have ah:Hid (zb r w2 w3):=ab.out.trans E;have ad:Hid (zc r g o cap (t::ts) w3):=show zc _ _ _ _ _ _ by simpa using G
 clear E G ab ai;clear al;have Q:=zX r g o cap t ts [102,97,108,115,101] w3 ad.out (fun hi=>(hE.tail (zf hi)).ne)
 rw [hiF] at Q;go_wp2_with fail
 refine Q.mono ?_;clear Q;rintro e w4 ⟨rfl,E,G⟩;have af:Hid (zb r w2 w4):=ah.out.trans E;have ag:Hid (zc r g o cap (t::ts) w4):=show zc _ _ _ _ _ _ by simpa using G
 clear E G ah ad;have Q:=zX r g o cap t ts [110,101,119] w4 ag.out (fun hi=>(hE.tail (zf hi)).ne)
 rw [hi] at Q;go_wp2_with fail
 refine Q.mono ?_;clear Q;rintro e w5 ⟨rfl,E,G⟩;have Y:zb r w2 w5:=af.out.trans E;have ak:zc r g (o+5) (cap-1) ts w5:=by simpa using G
 have aq:=hE.tail (zf hi);subst an;have p2:=(Y.block _ aw (by omega)).trans az.out
 obtain ⟨-,-,-,c3,-,-⟩:=zr p2;have aN:=ze c3;have aL:=Y.size;have am:Hid (zb r w2 w5):=Y
 have cb:∀W:World,zb r w5 W→zc r g (o+5) (cap-1) (t6::ts6) W→Calls Tryz.prog 171 #[.pointer (some ⟨r,0,none⟩)] W fun e w'=>zb r W w'∧if t6.k=1 then e=.returned (.string (za t6.s))∧zc r g (o+5+5) (cap-1-1) ts6 w' else e=Ze t6.at0:=fun W hK hR =>
  xj r g _ _ t6 ts6 W hR (fun hk=>(aq.tail (by omega)).ne)
 have aa:Hid (zc r g (o+5) (cap-1) (t6::ts6) w5):=ak;clear E G Y ak p2 af ag
 by_cases h6:t6.k=1
 ·have aB:=aq.tail (by omega:t6.k≠0)
  obtain ⟨t7,N,rfl⟩:=aB.cons
  have L:∀W:World,zb r w5 W→zc r g (o+5) (cap-1) (t6::t7::N) W→Calls Tryz.prog 171 #[.pointer (some ⟨r,0,none⟩)] W fun e w'=>e=.returned (.string (za t6.s))∧w'.cell? ⟨w.heap.size+1+1,3,none⟩=some (.int .i64 t.line)∧W.heap.size≤w'.heap.size∧(W.heap[w5.heap.size]?=some zA→w'.heap[w5.heap.size]?=some zA) ∧
    Hid (zb r w2 W∧zb r W w'∧zc r g (o+5+5) (cap-1-1) (t7::N) w'):=fun W hK hR=>(cb W hK hR).mono fun e w' h=>by
   obtain ⟨D,x⟩:=h;rw [if_pos h6] at x;obtain ⟨rfl,H⟩:=x;refine ⟨rfl,D.cell (p:=⟨w.heap.size+1+1,3,none⟩) (by simp;omega) (hK.cell (p:=⟨w.heap.size+1+1,3,none⟩) (by simp;omega) c3),D.size,fun hz=>?_,am.out.trans hK,D,H⟩
   exact (D.block _ (Array.getElem?_eq_some_iff.1 hz).1 (by omega)).trans hz
  have au:Hid (∀T o1 cap1,zc r g o1 cap1 (t7::N) T→zb r w T→Calls Tryz.prog 177 #[.pointer (some ⟨r,0,none⟩),.func (.func 74) #[.pointer (some ⟨r,0,none⟩)] #[]] T (yx r g T res)):=hbr h6;clear cb hbr;go_wp2_with fail
  go_cut [4] (fun v wx=>Zq r g w2 [] (t7::N) (.int .i64 11) (.string (za t6.s)) (.int .i64 0) (.int .i64 t.line) v wx)
  case first =>
   go_region_held3 (fun W=>W.cell? ⟨w.heap.size+1+1,3,none⟩=some (.int .i64 t.line)) (first | go_keep | exact Z5 _ _ _ _ _ (by omega) m3 | exact Z5 _ _ _ _ _ (by omega) (aD _)) (first | (go_at_call 171;refine (L _ (by first | exact zb.drew r w5 | exact ((zb.refl r w5).alloc _).trans (zb.drew _ _)) (by first | exact aa.out.keep rfl rfl | exact (aa.out.alloc _).keep rfl rfl)).mono ?_;rintro e' w7 ⟨rfl,m3,aM,aj,H7⟩;have aD:=ze m3;first | (have p6:=aj (World.alloc_heap_new w5 _);obtain ⟨q0,q1,q2,q3,q4,qf⟩:=zr p6) | skip))
   all_goals (obtain ⟨X,Z,J⟩:=H7.out)
   all_goals first
    | (have HN:Hid (Zq r g w2 [] (t7::N) (.int .i64 11) (.string (za t6.s)) (.int .i64 0) (.int .i64 t.line) (.pointer (some ⟨w5.heap.size,0,none⟩)) (set5 w7 w5.heap.size (.int .i64 11) (.string (za t6.s)) (.int .i64 0) (.slice none 0 0) (.int .i64 t.line))):=Zq.set _ _ _ _ X Z (.inl ⟨rfl,rfl⟩) ⟨_,_,J⟩ (by omega) (by omega) (by omega) (by simp) p6
       clear L H7 X Z J aj;go_wp2_with fail
       go_meet
       exact HN.out)
    | (have HN:Hid (Zq r g w2 [] (t7::N) (.int .i64 11) (.string (za t6.s)) (.int .i64 0) (.int .i64 t.line) (.pointer (some ⟨w7.heap.size,0,none⟩)) (w7.alloc (.cells #[.int .i64 11,.string (za t6.s),.int .i64 0,.slice none 0 0,.int .i64 t.line] 90))):=Zq.alloc _ _ _ _ X Z (.inl ⟨rfl,rfl⟩) ⟨_,_,J⟩
       clear L H7 X Z J aj;go_wp2_with fail
       go_meet
       exact HN.out)
  case rest =>
   obtain ⟨P,d0,d1,d2,rfl,hP,z,⟨o3,aF,H⟩,hk,aO⟩:=hcut
   obtain ⟨rfl,rfl,rfl⟩:d0=none∧d1=0∧d2=0:=by
    rcases z with ⟨-,hv⟩ | ⟨_,_,_,_,ax,_⟩
    ·cases hv;exact ⟨rfl,rfl,rfl⟩
    ·exact absurd rfl ax
   have hs:w2.heap.size≤wc.heap.size:=hk.size;have ao:P<wc.heap.size:=(Array.getElem?_eq_some_iff.1 hP).1;have cn:=au.out wc _ _ H (U.out.trans hk);have aA:Hid (zb r w2 wc):=hk;have av:Hid (wc.heap[P]?=some (.cells #[.int .i64 11,.string (za t6.s),.int .i64 0,.slice none 0 0,.int .i64 t.line] 90 (0,0))):=hP;clear hP z H hk L au;go_wp2_with fail
   refine cn.mono ?_;clear cn;rintro e V ⟨K,x⟩;have O:Hid (zb r w2 V):=aA.out.trans K;rcases res with a | ⟨l,us⟩
   ·obtain rfl:=x
    obtain rfl:R=.error a:=by rw [←hres];unfold xo;rw [if_pos h6]
    exact ⟨rfl,U.out.trans O.out,rfl⟩
   ·obtain ⟨v,o4,ap,rfl,z,H⟩:=x
    obtain rfl:R=.ok (.mk 11 t6.s 0 l t.line,us):=by rw [←hres];unfold xo;rw [if_pos h6]
    obtain ⟨e0,e1,e2,rfl⟩:∃e0 e1 e2,v=.slice e0 e1 e2:=by
     rcases z with ⟨-,rfl⟩ | ⟨_,_,_,rfl,_⟩
     ·exact ⟨_,_,_,rfl⟩
     ·exact ⟨_,_,_,rfl⟩
    have pB:=(K.block _ ao (by omega)).trans av.out
    obtain ⟨-,-,-,g3,-,gf⟩:=zr pB;have aK:=gf 3;obtain ⟨w13,A⟩:∃w13,w13=V.setCell ⟨P,3,none⟩ (.slice e0 e1 e2):=⟨_,rfl⟩;have aC:=A.symm;have y:∀k,k≠P→w13.heap[k]?=V.heap[k]?:=fun k hk=>by rw [A];exact Below.heap_setCell _ _ _ _ (by simpa using hk)
    have pC:w13.heap[P]?=some (.cells #[.int .i64 11,.string (za t6.s),.int .i64 0,.slice e0 e1 e2,.int .i64 t.line] 90 (0,0)):=by rw [A];exact z7 _ pB
    have p0:=(y w.heap.size (by omega)).trans ((O.out.block _ (by omega) (by omega)).trans aE.out)
    have aI:=K.size;have ar:V.heap.size≤w13.heap.size:=by rw [A];simp
    have ae:zb r w w13:=by rw [A];exact (U.out.trans O.out).setOther (by simp;omega) _
    have I:Zg wc.heap.size w13 l (.slice e0 e1 e2):=Zg.kept z ar fun k hB _=>y k (by omega)
    have S:zc r g o4 ap us w13:=H.keep (y r (by omega)) (y g (by omega))
    obtain ⟨f0,f1,f2,f3,f4,-⟩:=zr pC;obtain ⟨q0,q1,q2,q3,q4,qf⟩:=zr p0;obtain ⟨z0,z1,z2,z3,z4⟩:=zo p0 (.int .i64 11) (.string (za t6.s)) (.int .i64 0) (.slice e0 e1 e2) (.int .i64 t.line)
    have HP:Hid (zi r g w (.ok (.mk 11 t6.s 0 l t.line,us)) (.returned (.agg #[.int .i64 11,.string (za t6.s),.int .i64 0,.slice e0 e1 e2,.int .i64 t.line])) (set5 w13 w.heap.size (.int .i64 11) (.string (za t6.s)) (.int .i64 0) (.slice e0 e1 e2) (.int .i64 t.line))) :=
     zi.of_set5 (B:=wc.heap.size) 11 t6.s 0 t.line ae (Nat.le_refl _) hr ay I (by omega) S
    clear K p0 pB pC z H I S ae y A gf;go_wp2
    exact bodyPost_ret (v:=.agg #[.int .i64 11,.string (za t6.s),.int .i64 0,.slice e0 e1 e2,.int .i64 t.line]) (by simp [results,Tryz.results168,go_sem,z0,z1,z2,z3,z4]) rfl HP.out
 ·obtain rfl:R=.error t6.at0:=by rw [←hres];unfold xo;rw [if_neg h6]
  have L:∀W:World,zb r w5 W→zc r g (o+5) (cap-1) (t6::ts6) W→Calls Tryz.prog 171 #[.pointer (some ⟨r,0,none⟩)] W fun e w'=>e=Ze t6.at0∧zb r w w':=fun W hK hR=>(cb W hK hR).mono fun e w' h=>by
   obtain ⟨D,x⟩:=h;rw [if_neg h6] at x;exact ⟨x,U.out.trans (am.out.trans (hK.trans D))⟩
  clear cb hbr;go_wp2_with fail
  go_region_dies
  all_goals
   go_wp2_with fail
   refine (L _ ?_ ?_).mono ?_
   ·first | exact zb.drew r w5 | exact ((zb.refl r w5).alloc _).trans (zb.drew _ _)
   ·first | exact aa.out.keep rfl rfl | exact (aa.out.alloc _).keep rfl rfl
   ·rintro e w4 ⟨rfl,D⟩;exact ⟨rfl,D,rfl⟩
end Go.Proofs.YtmbofhpmockmbaaGreatDoor
