import Derived.Test.YtmbofhpmockmbaaGreatDoorSSingle3
namespace Go.Proofs.YtmbofhpmockmbaaGreatDoor
open Go.RowKit Go.Shelf
set_option maxHeartbeats 16000000
set_option maxRecDepth 100000
def Xl (t t6:Tk) (res:PR (List Ex)):PR Ex :=
 if t6.k=1 then
  match res with
  | .error a=>.error a
  | .ok (l,us)=>.ok (.mk 11 t6.s 0 l t.line,us)
 else .error t6.at0
theorem YB (r g o cap:Nat) (t t6:Tk) (ts6:List Tk) (w:World) (res:PR (List Ex)) (hi:zp t [110,101,119]=true) (hbr:t6.k=1→∀V o1 cap1,zc r g o1 cap1 ts6 V→zb r w V→Calls Tryz.prog 177 #[.pointer (some ⟨r,0,none⟩),.func (.func 74) #[.pointer (some ⟨r,0,none⟩)] #[]] V (y3 r g V res)) (h:zc r g o cap (t::t6::ts6) w) (hE:zj (t::t6::ts6)) (hk1:t.k≠1) (hk2:t.k≠2) (hk3:t.k≠3) (hiT:zp t [116,114,117,101]=false) (hiF:zp t [102,97,108,115,101]=false) :
  Calls Tryz.prog 168 #[.pointer (some ⟨r,0,none⟩)] w (zk r g w (Xl t t6 res)):=by
 generalize hres:Xl t t6 res=R;have aS:∀(fn:Fn) (first cap:Array Value) (w:World),(Instr.makeFunc fn first cap).run Tryz.prog w=.ok (.func fn first cap) w:=fun _ _ _ _=>rfl
 obtain ⟨ts,ap⟩:∃ts,ts=t6::ts6:=⟨_,rfl⟩;rw [←ap] at h hE;have hr:=h.lt.1;have aF:=h.lt.2;have h0:=h.alloc zD;have ch:=Zd r g o cap t ts _ h0;obtain ⟨w2,O⟩:∃w2,w2=((w.alloc zD).alloc (zH t)).alloc (zH t):=⟨_,rfl⟩;have h2:zc r g o cap (t::ts) w2:=by rw [O];exact (h0.alloc _).alloc _
 have k2:zb r w w2:=by rw [O];exact (((zb.refl r w).alloc _).alloc _).alloc _
 have n0:w2.heap[w.heap.size]?=some zD:=by
  rw [O,Below.heap_alloc _ _ _ (by simp;omega),Below.heap_alloc _ _ _ (by simp)]
  exact World.alloc_heap_new _ _
 have n2:w2.heap[w.heap.size+1+1]?=some (zH t):=by
  have hx:=World.alloc_heap_new ((w.alloc zD).alloc (zH t)) (zH t);rw [←O,show ((w.alloc zD).alloc (zH t)).heap.size=w.heap.size+1+1 by simp] at hx
  exact hx
 have az:w.heap.size+1+1<w2.heap.size:=(Array.getElem?_eq_some_iff.1 n2).1;have an:Hid (w2=((w.alloc zD).alloc (zH t)).alloc (zH t)):=O;have ab:Hid (zb r w w2):=k2;have aD:Hid (w2.heap[w.heap.size]?=some zD):=n0;have aA:Hid (w2.heap[w.heap.size+1+1]?=some (zH t)):=n2;have aL:¬(t.k:Int)=1:=by omega
 have aI:¬(t.k:Int)=2:=by omega
 have aK:¬(t.k:Int)=3:=by omega
 clear h h0 O k2 n0 n2
 go_enter Tryz.func168,Tryz.ntmps168
 go_wp2_with fail
 refine ch.mono ?_;clear ch;rintro e V ⟨rfl,rfl⟩;simp only [xq];have ak:Hid (zb r w2 w2):=zb.refl r w2;have ai:Hid (zc r g o cap (t::ts) w2):=h2;clear h2;have T:=Zb r g o cap t ts [116,114,117,101] w2 ai.out (fun hi=>(hE.tail (zf hi)).ne)
 rw [hiT] at T;go_wp2_with fail
 rw [←an.out];refine T.mono ?_;clear T;rintro e w3 ⟨rfl,E,H⟩;have af:Hid (zb r w2 w3):=ak.out.trans E;have ah:Hid (zc r g o cap (t::ts) w3):=show zc _ _ _ _ _ _ by simpa using H
 clear E H ak ai;clear an;have T:=Zb r g o cap t ts [102,97,108,115,101] w3 ah.out (fun hi=>(hE.tail (zf hi)).ne)
 rw [hiF] at T;go_wp2_with fail
 refine T.mono ?_;clear T;rintro e w4 ⟨rfl,E,H⟩;have al:Hid (zb r w2 w4):=af.out.trans E;have aj:Hid (zc r g o cap (t::ts) w4):=show zc _ _ _ _ _ _ by simpa using H
 clear E H af ah;have T:=Zb r g o cap t ts [110,101,119] w4 aj.out (fun hi=>(hE.tail (zf hi)).ne)
 rw [hi] at T;go_wp2_with fail
 refine T.mono ?_;clear T;rintro e w5 ⟨rfl,E,H⟩;have ad:zb r w2 w5:=al.out.trans E;have av:zc r g (o+5) (cap-1) ts w5:=by simpa using H
 have ax:=hE.tail (zf hi);subst ap;have p2:=(ad.block _ az (by omega)).trans aA.out
 obtain ⟨-,-,-,c3,-,-⟩:=zt p2;have aQ:=ze c3;have aO:=ad.size;have aq:Hid (zb r w2 w5):=ad
 have cb:∀W:World,zb r w5 W→zc r g (o+5) (cap-1) (t6::ts6) W→Calls Tryz.prog 171 #[.pointer (some ⟨r,0,none⟩)] W fun e w'=>zb r W w'∧if t6.k=1 then e=.returned (.string (za t6.s))∧zc r g (o+5+5) (cap-1-1) ts6 w' else e=Zn t6.at0:=fun W hK hR =>
  Xh r g _ _ t6 ts6 W hR (fun hk=>(ax.tail (by omega)).ne)
 have ae:Hid (zc r g (o+5) (cap-1) (t6::ts6) w5):=av;clear E H ad av p2 al aj
 by_cases h6:t6.k=1
 ·have aH:=ax.tail (by omega:t6.k≠0)
  obtain ⟨t7,M,rfl⟩:=aH.cons
  have N:∀W:World,zb r w5 W→zc r g (o+5) (cap-1) (t6::t7::M) W→Calls Tryz.prog 171 #[.pointer (some ⟨r,0,none⟩)] W fun e w'=>e=.returned (.string (za t6.s))∧w'.cell? ⟨w.heap.size+1+1,3,none⟩=some (.int .i64 t.line)∧W.heap.size≤w'.heap.size∧(W.heap[w5.heap.size]?=some zD→w'.heap[w5.heap.size]?=some zD) ∧
    Hid (zb r w2 W∧zb r W w'∧zc r g (o+5+5) (cap-1-1) (t7::M) w'):=fun W hK hR=>(cb W hK hR).mono fun e w' h=>by
   obtain ⟨G,y⟩:=h;rw [if_pos h6] at y;obtain ⟨rfl,I⟩:=y;refine ⟨rfl,G.cell (p:=⟨w.heap.size+1+1,3,none⟩) (by simp;omega) (hK.cell (p:=⟨w.heap.size+1+1,3,none⟩) (by simp;omega) c3),G.size,fun hz=>?_,aq.out.trans hK,G,I⟩
   exact (G.block _ (Array.getElem?_eq_some_iff.1 hz).1 (by omega)).trans hz
  have ar:Hid (∀V o1 cap1,zc r g o1 cap1 (t7::M) V→zb r w V→Calls Tryz.prog 177 #[.pointer (some ⟨r,0,none⟩),.func (.func 74) #[.pointer (some ⟨r,0,none⟩)] #[]] V (y3 r g V res)):=hbr h6;clear cb hbr;go_wp2_with fail
  go_cut [4] (fun v wx=>ZE r g w2 [] (t7::M) (.int .i64 11) (.string (za t6.s)) (.int .i64 0) (.int .i64 t.line) v wx)
  case first =>
   go_region_held3 (fun W=>W.cell? ⟨w.heap.size+1+1,3,none⟩=some (.int .i64 t.line)) (first | go_keep | exact yr _ _ _ _ _ (by omega) m3 | exact yr _ _ _ _ _ (by omega) (ay _)) (first | (go_at_call 171;refine (N _ (by first | exact zb.drew r w5 | exact ((zb.refl r w5).alloc _).trans (zb.drew _ _)) (by first | exact ae.out.keep rfl rfl | exact (ae.out.alloc _).keep rfl rfl)).mono ?_;rintro e' w7 ⟨rfl,m3,aP,am,H7⟩;have ay:=ze m3;first | (have p6:=am (World.alloc_heap_new w5 _);obtain ⟨q0,q1,q2,q3,q4,qf⟩:=zt p6) | skip))
   all_goals (obtain ⟨Y,aa,J⟩:=H7.out)
   all_goals first
    | (have HN:Hid (ZE r g w2 [] (t7::M) (.int .i64 11) (.string (za t6.s)) (.int .i64 0) (.int .i64 t.line) (.pointer (some ⟨w5.heap.size,0,none⟩)) (set5 w7 w5.heap.size (.int .i64 11) (.string (za t6.s)) (.int .i64 0) (.slice none 0 0) (.int .i64 t.line))):=ZE.set _ _ _ _ Y aa (.inl ⟨rfl,rfl⟩) ⟨_,_,J⟩ (by omega) (by omega) (by omega) (by simp) p6
       clear N H7 Y aa J am;go_wp2_with fail
       go_meet
       exact HN.out)
    | (have HN:Hid (ZE r g w2 [] (t7::M) (.int .i64 11) (.string (za t6.s)) (.int .i64 0) (.int .i64 t.line) (.pointer (some ⟨w7.heap.size,0,none⟩)) (w7.alloc (.cells #[.int .i64 11,.string (za t6.s),.int .i64 0,.slice none 0 0,.int .i64 t.line] 90))):=ZE.alloc _ _ _ _ Y aa (.inl ⟨rfl,rfl⟩) ⟨_,_,J⟩
       clear N H7 Y aa J am;go_wp2_with fail
       go_meet
       exact HN.out)
  case rest =>
   obtain ⟨P,d0,d1,d2,rfl,hP,A,⟨o3,aJ,I⟩,hk,aR⟩:=hcut
   obtain ⟨rfl,rfl,rfl⟩:d0=none∧d1=0∧d2=0:=by
    rcases A with ⟨-,hv⟩ | ⟨_,_,_,_,aG,_⟩
    ·cases hv;exact ⟨rfl,rfl,rfl⟩
    ·exact absurd rfl aG
   have hs:w2.heap.size≤wc.heap.size:=hk.size;have ao:P<wc.heap.size:=(Array.getElem?_eq_some_iff.1 hP).1;have cn:=ar.out wc _ _ I (ab.out.trans hk);have aB:Hid (zb r w2 wc):=hk;have aE:Hid (wc.heap[P]?=some (.cells #[.int .i64 11,.string (za t6.s),.int .i64 0,.slice none 0 0,.int .i64 t.line] 90 (0,0))):=hP;clear hP A I hk N ar;go_wp2_with fail
   refine cn.mono ?_;clear cn;rintro e X ⟨L,y⟩;have Q:Hid (zb r w2 X):=aB.out.trans L;rcases res with a | ⟨l,us⟩
   ·obtain rfl:=y
    obtain rfl:R=.error a:=by rw [←hres];unfold Xl;rw [if_pos h6]
    exact ⟨rfl,ab.out.trans Q.out,rfl⟩
   ·obtain ⟨v,o4,aw,rfl,A,I⟩:=y
    obtain rfl:R=.ok (.mk 11 t6.s 0 l t.line,us):=by rw [←hres];unfold Xl;rw [if_pos h6]
    obtain ⟨e0,Z,e2,rfl⟩:∃e0 Z e2,v=.slice e0 Z e2:=by
     rcases A with ⟨-,rfl⟩ | ⟨_,_,_,rfl,_⟩
     ·exact ⟨_,_,_,rfl⟩
     ·exact ⟨_,_,_,rfl⟩
    have pB:=(L.block _ ao (by omega)).trans aE.out
    obtain ⟨-,-,-,g3,-,gf⟩:=zt pB;have aN:=gf 3;obtain ⟨w13,D⟩:∃w13,w13=X.setCell ⟨P,3,none⟩ (.slice e0 Z e2):=⟨_,rfl⟩;have aC:=D.symm;have z:∀k,k≠P→w13.heap[k]?=X.heap[k]?:=fun k hk=>by rw [D];exact Below.heap_setCell _ _ _ _ (by simpa using hk)
    have pC:w13.heap[P]?=some (.cells #[.int .i64 11,.string (za t6.s),.int .i64 0,.slice e0 Z e2,.int .i64 t.line] 90 (0,0)):=by rw [D];exact Zf _ pB
    have p0:=(z w.heap.size (by omega)).trans ((Q.out.block _ (by omega) (by omega)).trans aD.out)
    have aM:=L.size;have au:X.heap.size≤w13.heap.size:=by rw [D];simp
    have ag:zb r w w13:=by rw [D];exact (ab.out.trans Q.out).setOther (by simp;omega) _
    have K:Zr wc.heap.size w13 l (.slice e0 Z e2):=Zr.kept A au fun k hB _=>z k (by omega)
    have U:zc r g o4 aw us w13:=I.keep (z r (by omega)) (z g (by omega))
    obtain ⟨f0,f1,f2,f3,f4,-⟩:=zt pC;obtain ⟨q0,q1,q2,q3,q4,qf⟩:=zt p0;obtain ⟨z0,z1,z2,z3,z4⟩:=zq p0 (.int .i64 11) (.string (za t6.s)) (.int .i64 0) (.slice e0 Z e2) (.int .i64 t.line)
    have HP:Hid (zk r g w (.ok (.mk 11 t6.s 0 l t.line,us)) (.returned (.agg #[.int .i64 11,.string (za t6.s),.int .i64 0,.slice e0 Z e2,.int .i64 t.line])) (set5 w13 w.heap.size (.int .i64 11) (.string (za t6.s)) (.int .i64 0) (.slice e0 Z e2) (.int .i64 t.line))) :=
     zk.of_set5 (B:=wc.heap.size) 11 t6.s 0 t.line ag (Nat.le_refl _) hr aF K (by omega) U
    clear L p0 pB pC A I K U ag z D gf;go_wp2
    exact bodyPost_ret (v:=.agg #[.int .i64 11,.string (za t6.s),.int .i64 0,.slice e0 Z e2,.int .i64 t.line]) (by simp [results,Tryz.results168,go_sem,z0,z1,z2,z3,z4]) rfl HP.out
 ·obtain rfl:R=.error t6.at0:=by rw [←hres];unfold Xl;rw [if_neg h6]
  have N:∀W:World,zb r w5 W→zc r g (o+5) (cap-1) (t6::ts6) W→Calls Tryz.prog 171 #[.pointer (some ⟨r,0,none⟩)] W fun e w'=>e=Zn t6.at0∧zb r w w':=fun W hK hR=>(cb W hK hR).mono fun e w' h=>by
   obtain ⟨G,y⟩:=h;rw [if_neg h6] at y;exact ⟨y,ab.out.trans (aq.out.trans (hK.trans G))⟩
  clear cb hbr;go_wp2_with fail
  go_region_dies
  all_goals
   go_wp2_with fail
   refine (N _ ?_ ?_).mono ?_
   ·first | exact zb.drew r w5 | exact ((zb.refl r w5).alloc _).trans (zb.drew _ _)
   ·first | exact ae.out.keep rfl rfl | exact (ae.out.alloc _).keep rfl rfl
   ·rintro e w4 ⟨rfl,G⟩;exact ⟨rfl,G,rfl⟩
end Go.Proofs.YtmbofhpmockmbaaGreatDoor
