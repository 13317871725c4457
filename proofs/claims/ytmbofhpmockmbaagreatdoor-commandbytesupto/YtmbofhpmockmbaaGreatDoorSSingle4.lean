import Derived.Test.YtmbofhpmockmbaaGreatDoorSSingle3
namespace Go.Proofs.YtmbofhpmockmbaaGreatDoor
open Go.RowKit Go.Shelf
set_option maxHeartbeats 16000000
set_option maxRecDepth 100000
def Xl (t t6:Tk) (res:PR (List Ex)):PR Ex :=
 if t6.k=1 then
  match res with
  | .error a=>.error a
  | .ok (l,us)=>.ok (.mk 11 t6.s 0 l t.line,us)
 else .error t6.at0
theorem YB (r g o cap:Nat) (t t6:Tk) (ts6:List Tk) (w:World) (res:PR (List Ex)) (hi:zp t [110,101,119]=true) (hbr:t6.k=1→∀V o1 cap1,zc r g o1 cap1 ts6 V→zb r w V→Calls Tryz.prog 177 #[.pointer (some ⟨r,0,none⟩),.func (.func 74) #[.pointer (some ⟨r,0,none⟩)] #[]] V (y3 r g V res)) (h:zc r g o cap (t::t6::ts6) w) (hE:zj (t::t6::ts6)) (hk1:t.k≠1) (hk2:t.k≠2) (hk3:t.k≠3) (hiT:zp t [116,114,117,101]=false) (hiF:zp t [102,97,108,115,101]=false) :
  Calls Tryz.prog 168 #[.pointer (some ⟨r,0,none⟩)] w (zk r g w (Xl t t6 res)):=by
 generalize hres:Xl t t6 res=R;have aR:∀(fn:Fn) (first cap:Array Value) (w:World),(Instr.makeFunc fn first cap).run Tryz.prog w=.ok (.func fn first cap) w:=fun _ _ _ _=>rfl
 obtain ⟨ts,av⟩:∃ts,ts=t6::ts6:=⟨_,rfl⟩;rw [←av] at h hE;have hr:=h.lt.1;have aF:=h.lt.2;have h0:=h.alloc zD;have ch:=Zd r g o cap t ts _ h0;obtain ⟨w2,O⟩:∃w2,w2=((w.alloc zD).alloc (zH t)).alloc (zH t):=⟨_,rfl⟩;have h2:zc r g o cap (t::ts) w2:=by rw [O];exact (h0.alloc _).alloc _
 have k2:zb r w w2:=by rw [O];exact (((zb.refl r w).alloc _).alloc _).alloc _
 have n0:w2.heap[w.heap.size]?=some zD:=by
  rw [O,Below.heap_alloc _ _ _ (by simp;omega),Below.heap_alloc _ _ _ (by simp)]
  exact World.alloc_heap_new _ _
 have n2:w2.heap[w.heap.size+1+1]?=some (zH t):=by
  have hx:=World.alloc_heap_new ((w.alloc zD).alloc (zH t)) (zH t);rw [←O,show ((w.alloc zD).alloc (zH t)).heap.size=w.heap.size+1+1 by simp] at hx
  exact hx
 have aH:w.heap.size+1+1<w2.heap.size:=(Array.getElem?_eq_some_iff.1 n2).1;have ax:Hid (w2=((w.alloc zD).alloc (zH t)).alloc (zH t)):=O;have Y:Hid (zb r w w2):=k2;have ay:Hid (w2.heap[w.heap.size]?=some zD):=n0;have aE:Hid (w2.heap[w.heap.size+1+1]?=some (zH t)):=n2;have aK:¬(t.k:Int)=1:=by omega
 have aI:¬(t.k:Int)=2:=by omega
 have aL:¬(t.k:Int)=3:=by omega
 clear h h0 O k2 n0 n2
 go_enter Tryz.func168,Tryz.ntmps168
 go_wp2_with fail
 refine ch.mono ?_;clear ch;rintro e V ⟨rfl,rfl⟩;simp only [xq];have af:Hid (zb r w2 w2):=zb.refl r w2;have ak:Hid (zc r g o cap (t::ts) w2):=h2;clear h2;have T:=Zb r g o cap t ts [116,114,117,101] w2 ak.out (fun hi=>(hE.tail (zf hi)).ne)
 rw [hiT] at T;go_wp2_with fail
 rw [←ax.out];refine T.mono ?_;clear T;rintro e w3 ⟨rfl,H,G⟩;have al:Hid (zb r w2 w3):=af.out.trans H;have aj:Hid (zc r g o cap (t::ts) w3):=show zc _ _ _ _ _ _ by simpa using G
 clear H G af ak;clear ax;have T:=Zb r g o cap t ts [102,97,108,115,101] w3 aj.out (fun hi=>(hE.tail (zf hi)).ne)
 rw [hiF] at T;go_wp2_with fail
 refine T.mono ?_;clear T;rintro e w4 ⟨rfl,H,G⟩;have ah:Hid (zb r w2 w4):=al.out.trans H;have ai:Hid (zc r g o cap (t::ts) w4):=show zc _ _ _ _ _ _ by simpa using G
 clear H G al aj;have T:=Zb r g o cap t ts [110,101,119] w4 ai.out (fun hi=>(hE.tail (zf hi)).ne)
 rw [hi] at T;go_wp2_with fail
 refine T.mono ?_;clear T;rintro e w5 ⟨rfl,H,G⟩;have ab:zb r w2 w5:=ah.out.trans H;have ap:zc r g (o+5) (cap-1) ts w5:=by simpa using G
 have ao:=hE.tail (zf hi);subst av;have p2:=(ab.block _ aH (by omega)).trans aE.out
 obtain ⟨-,-,-,c3,-,-⟩:=zt p2;have aS:=ze c3;have aQ:=ab.size;have ar:Hid (zb r w2 w5):=ab
 have cb:∀W:World,zb r w5 W→zc r g (o+5) (cap-1) (t6::ts6) W→Calls Tryz.prog 171 #[.pointer (some ⟨r,0,none⟩)] W fun e w'=>zb r W w'∧if t6.k=1 then e=.returned (.string (za t6.s))∧zc r g (o+5+5) (cap-1-1) ts6 w' else e=Zn t6.at0:=fun W hK hR =>
  Xh r g _ _ t6 ts6 W hR (fun hk=>(ao.tail (by omega)).ne)
 have X:Hid (zc r g (o+5) (cap-1) (t6::ts6) w5):=ap;clear H G ab ap p2 ah ai
 by_cases h6:t6.k=1
 ·have aB:=ao.tail (by omega:t6.k≠0)
  obtain ⟨t7,N,rfl⟩:=aB.cons
  have M:∀W:World,zb r w5 W→zc r g (o+5) (cap-1) (t6::t7::N) W→Calls Tryz.prog 171 #[.pointer (some ⟨r,0,none⟩)] W fun e w'=>e=.returned (.string (za t6.s))∧w'.cell? ⟨w.heap.size+1+1,3,none⟩=some (.int .i64 t.line)∧W.heap.size≤w'.heap.size∧(W.heap[w5.heap.size]?=some zD→w'.heap[w5.heap.size]?=some zD) ∧
    Hid (zb r w2 W∧zb r W w'∧zc r g (o+5+5) (cap-1-1) (t7::N) w'):=fun W hK hR=>(cb W hK hR).mono fun e w' h=>by
   obtain ⟨E,y⟩:=h;rw [if_pos h6] at y;obtain ⟨rfl,I⟩:=y;refine ⟨rfl,E.cell (p:=⟨w.heap.size+1+1,3,none⟩) (by simp;omega) (hK.cell (p:=⟨w.heap.size+1+1,3,none⟩) (by simp;omega) c3),E.size,fun hz=>?_,ar.out.trans hK,E,I⟩
   exact (E.block _ (Array.getElem?_eq_some_iff.1 hz).1 (by omega)).trans hz
  have au:Hid (∀V o1 cap1,zc r g o1 cap1 (t7::N) V→zb r w V→Calls Tryz.prog 177 #[.pointer (some ⟨r,0,none⟩),.func (.func 74) #[.pointer (some ⟨r,0,none⟩)] #[]] V (y3 r g V res)):=hbr h6;clear cb hbr;go_wp2_with fail
  go_cut [4] (fun v wx=>ZE r g w2 [] (t7::N) (.int .i64 11) (.string (za t6.s)) (.int .i64 0) (.int .i64 t.line) v wx)
  case first =>
   go_region_held3 (fun W=>W.cell? ⟨w.heap.size+1+1,3,none⟩=some (.int .i64 t.line)) (first | go_keep | exact yr _ _ _ _ _ (by omega) m3 | exact yr _ _ _ _ _ (by omega) (aD _)) (first | (go_at_call 171;refine (M _ (by first | exact zb.drew r w5 | exact ((zb.refl r w5).alloc _).trans (zb.drew _ _)) (by first | exact X.out.keep rfl rfl | exact (X.out.alloc _).keep rfl rfl)).mono ?_;rintro e' w7 ⟨rfl,m3,aO,am,H7⟩;have aD:=ze m3;first | (have p6:=am (World.alloc_heap_new w5 _);obtain ⟨q0,q1,q2,q3,q4,qf⟩:=zt p6) | skip))
   all_goals (obtain ⟨aa,ae,J⟩:=H7.out)
   all_goals first
    | (have HN:Hid (ZE r g w2 [] (t7::N) (.int .i64 11) (.string (za t6.s)) (.int .i64 0) (.int .i64 t.line) (.pointer (some ⟨w5.heap.size,0,none⟩)) (set5 w7 w5.heap.size (.int .i64 11) (.string (za t6.s)) (.int .i64 0) (.slice none 0 0) (.int .i64 t.line))):=ZE.set _ _ _ _ aa ae (.inl ⟨rfl,rfl⟩) ⟨_,_,J⟩ (by omega) (by omega) (by omega) (by simp) p6
       clear M H7 aa ae J am;go_wp2_with fail
       go_meet
       exact HN.out)
    | (have HN:Hid (ZE r g w2 [] (t7::N) (.int .i64 11) (.string (za t6.s)) (.int .i64 0) (.int .i64 t.line) (.pointer (some ⟨w7.heap.size,0,none⟩)) (w7.alloc (.cells #[.int .i64 11,.string (za t6.s),.int .i64 0,.slice none 0 0,.int .i64 t.line] 90))):=ZE.alloc _ _ _ _ aa ae (.inl ⟨rfl,rfl⟩) ⟨_,_,J⟩
       clear M H7 aa ae J am;go_wp2_with fail
       go_meet
       exact HN.out)
  case rest =>
   obtain ⟨P,d0,d1,d2,rfl,hP,A,⟨o3,aM,I⟩,hk,aP⟩:=hcut
   obtain ⟨rfl,rfl,rfl⟩:d0=none∧d1=0∧d2=0:=by
    rcases A with ⟨-,hv⟩ | ⟨_,_,_,_,az,_⟩
    ·cases hv;exact ⟨rfl,rfl,rfl⟩
    ·exact absurd rfl az
   have hs:w2.heap.size≤wc.heap.size:=hk.size;have an:P<wc.heap.size:=(Array.getElem?_eq_some_iff.1 hP).1;have cn:=au.out wc _ _ I (Y.out.trans hk);have aC:Hid (zb r w2 wc):=hk;have aG:Hid (wc.heap[P]?=some (.cells #[.int .i64 11,.string (za t6.s),.int .i64 0,.slice none 0 0,.int .i64 t.line] 90 (0,0))):=hP;clear hP A I hk M au;go_wp2_with fail
   refine cn.mono ?_;clear cn;rintro e ad ⟨K,y⟩;have Q:Hid (zb r w2 ad):=aC.out.trans K;rcases res with a | ⟨l,us⟩
   ·obtain rfl:=y
    obtain rfl:R=.error a:=by rw [←hres];unfold Xl;rw [if_pos h6]
    exact ⟨rfl,Y.out.trans Q.out,rfl⟩
   ·obtain ⟨v,o4,aq,rfl,A,I⟩:=y
    obtain rfl:R=.ok (.mk 11 t6.s 0 l t.line,us):=by rw [←hres];unfold Xl;rw [if_pos h6]
    obtain ⟨e0,Z,e2,rfl⟩:∃e0 Z e2,v=.slice e0 Z e2:=by
     rcases A with ⟨-,rfl⟩ | ⟨_,_,_,rfl,_⟩
     ·exact ⟨_,_,_,rfl⟩
     ·exact ⟨_,_,_,rfl⟩
    have pB:=(K.block _ an (by omega)).trans aG.out
    obtain ⟨-,-,-,g3,-,gf⟩:=zt pB;have aN:=gf 3;obtain ⟨w13,D⟩:∃w13,w13=ad.setCell ⟨P,3,none⟩ (.slice e0 Z e2):=⟨_,rfl⟩;have aA:=D.symm;have z:∀k,k≠P→w13.heap[k]?=ad.heap[k]?:=fun k hk=>by rw [D];exact Below.heap_setCell _ _ _ _ (by simpa using hk)
    have pC:w13.heap[P]?=some (.cells #[.int .i64 11,.string (za t6.s),.int .i64 0,.slice e0 Z e2,.int .i64 t.line] 90 (0,0)):=by rw [D];exact Zf _ pB
    have p0:=(z w.heap.size (by omega)).trans ((Q.out.block _ (by omega) (by omega)).trans ay.out)
    have aJ:=K.size;have aw:ad.heap.size≤w13.heap.size:=by rw [D];simp
    have ag:zb r w w13:=by rw [D];exact (Y.out.trans Q.out).setOther (by simp;omega) _
    have L:Zr wc.heap.size w13 l (.slice e0 Z e2):=Zr.kept A aw fun k hB _=>z k (by omega)
    have U:zc r g o4 aq us w13:=I.keep (z r (by omega)) (z g (by omega))
    obtain ⟨f0,f1,f2,f3,f4,-⟩:=zt pC;obtain ⟨q0,q1,q2,q3,q4,qf⟩:=zt p0;obtain ⟨z0,z1,z2,z3,z4⟩:=zq p0 (.int .i64 11) (.string (za t6.s)) (.int .i64 0) (.slice e0 Z e2) (.int .i64 t.line)
    have HP:Hid (zk r g w (.ok (.mk 11 t6.s 0 l t.line,us)) (.returned (.agg #[.int .i64 11,.string (za t6.s),.int .i64 0,.slice e0 Z e2,.int .i64 t.line])) (set5 w13 w.heap.size (.int .i64 11) (.string (za t6.s)) (.int .i64 0) (.slice e0 Z e2) (.int .i64 t.line))) :=
     zk.of_set5 (B:=wc.heap.size) 11 t6.s 0 t.line ag (Nat.le_refl _) hr aF L (by omega) U
    clear K p0 pB pC A I L U ag z D gf;go_wp2
    exact bodyPost_ret (v:=.agg #[.int .i64 11,.string (za t6.s),.int .i64 0,.slice e0 Z e2,.int .i64 t.line]) (by simp [results,Tryz.results168,go_sem,z0,z1,z2,z3,z4]) rfl HP.out
 ·obtain rfl:R=.error t6.at0:=by rw [←hres];unfold Xl;rw [if_neg h6]
  have M:∀W:World,zb r w5 W→zc r g (o+5) (cap-1) (t6::ts6) W→Calls Tryz.prog 171 #[.pointer (some ⟨r,0,none⟩)] W fun e w'=>e=Zn t6.at0∧zb r w w':=fun W hK hR=>(cb W hK hR).mono fun e w' h=>by
   obtain ⟨E,y⟩:=h;rw [if_neg h6] at y;exact ⟨y,Y.out.trans (ar.out.trans (hK.trans E))⟩
  clear cb hbr;go_wp2_with fail
  go_region_dies
  all_goals
   go_wp2_with fail
   refine (M _ ?_ ?_).mono ?_
   ·first | exact zb.drew r w5 | exact ((zb.refl r w5).alloc _).trans (zb.drew _ _)
   ·first | exact X.out.keep rfl rfl | exact (X.out.alloc _).keep rfl rfl
   ·rintro e w4 ⟨rfl,E⟩;exact ⟨rfl,E,rfl⟩
end Go.Proofs.YtmbofhpmockmbaaGreatDoor
