import Derived.Test.YtmbofhpmockmbaaGreatDoorSSingle3
namespace Go.Proofs.YtmbofhpmockmbaaGreatDoor
open Go.RowKit Go.Shelf
set_option maxHeartbeats 16000000
set_option maxRecDepth 100000
def XT (t t6:Tk) (res:PR (List Ex)):PR Ex :=
 if t6.k=1 then
  match res with
  | .error a=>.error a
  | .ok (l,us)=>.ok (.mk 11 t6.s 0 l t.line,us)
 else .error t6.at0
theorem Y0 (r g o cap:Nat) (t t6:Tk) (ts6:List Tk) (w:World) (res:PR (List Ex)) (hi:zq t [110,101,119]=true) (hbr:t6.k=1→∀X o1 cap1,zc r g o1 cap1 ts6 X→zb r w X→Calls Tryz.prog 177 #[.pointer (some ⟨r,0,none⟩),.func (.func 74) #[.pointer (some ⟨r,0,none⟩)] #[]] X (Yl r g X res)) (h:zc r g o cap (t::t6::ts6) w) (hE:zk (t::t6::ts6)) (hk1:t.k≠1) (hk2:t.k≠2) (hk3:t.k≠3) (hiT:zq t [116,114,117,101]=false) (hiF:zq t [102,97,108,115,101]=false) :
  Calls Tryz.prog 168 #[.pointer (some ⟨r,0,none⟩)] w (zl r g w (XT t t6 res)):=by
 generalize hres:XT t t6 res=R;have aT:∀(fn:Fn) (first cap:Array Value) (w:World),(Instr.makeFunc fn first cap).run Tryz.prog w=.ok (.func fn first cap) w:=fun _ _ _ _=>rfl
 obtain ⟨ts,ap⟩:∃ts,ts=t6::ts6:=⟨_,rfl⟩;rw [←ap] at h hE;have hr:=h.lt.1;have aC:=h.lt.2;have h0:=h.alloc zE;have ch:=Zk r g o cap t ts _ h0;obtain ⟨w2,M⟩:∃w2,w2=((w.alloc zE).alloc (zJ t)).alloc (zJ t):=⟨_,rfl⟩;have h2:zc r g o cap (t::ts) w2:=by rw [M];exact (h0.alloc _).alloc _
 have k2:zb r w w2:=by rw [M];exact (((zb.refl r w).alloc _).alloc _).alloc _
 have n0:w2.heap[w.heap.size]?=some zE:=by
  rw [M,Below.heap_alloc _ _ _ (by simp;omega),Below.heap_alloc _ _ _ (by simp)]
  exact World.alloc_heap_new _ _
 have n2:w2.heap[w.heap.size+1+1]?=some (zJ t):=by
  have hx:=World.alloc_heap_new ((w.alloc zE).alloc (zJ t)) (zJ t);rw [←M,show ((w.alloc zE).alloc (zJ t)).heap.size=w.heap.size+1+1 by simp] at hx
  exact hx
 have aE:w.heap.size+1+1<w2.heap.size:=(Array.getElem?_eq_some_iff.1 n2).1;have av:Hid (w2=((w.alloc zE).alloc (zJ t)).alloc (zJ t)):=M;have ad:Hid (zb r w w2):=k2;have az:Hid (w2.heap[w.heap.size]?=some zE):=n0;have aG:Hid (w2.heap[w.heap.size+1+1]?=some (zJ t)):=n2;have aM:¬(t.k:Int)=1:=by omega
 have aK:¬(t.k:Int)=2:=by omega
 have aL:¬(t.k:Int)=3:=by omega
 clear h h0 M k2 n0 n2
 go_enter Tryz.func168,Tryz.ntmps168
 go_wp2_with fail
 refine ch.mono ?_;clear ch;rintro e X ⟨rfl,rfl⟩;simp only [xT];have aj:Hid (zb r w2 w2):=zb.refl r w2;have ah:Hid (zc r g o cap (t::ts) w2):=h2;clear h2;have U:=Zi r g o cap t ts [116,114,117,101] w2 ah.out (fun hi=>(hE.tail (zi hi)).ne)
 rw [hiT] at U;go_wp2_with fail
 rw [←av.out];refine U.mono ?_;clear U;rintro e w3 ⟨rfl,H,E⟩;have ag:Hid (zb r w2 w3):=aj.out.trans H;have ai:Hid (zc r g o cap (t::ts) w3):=show zc _ _ _ _ _ _ by simpa using E
 clear H E aj ah;clear av;have U:=Zi r g o cap t ts [102,97,108,115,101] w3 ai.out (fun hi=>(hE.tail (zi hi)).ne)
 rw [hiF] at U;go_wp2_with fail
 refine U.mono ?_;clear U;rintro e w4 ⟨rfl,H,E⟩;have am:Hid (zb r w2 w4):=ag.out.trans H;have al:Hid (zc r g o cap (t::ts) w4):=show zc _ _ _ _ _ _ by simpa using E
 clear H E ag ai;have U:=Zi r g o cap t ts [110,101,119] w4 al.out (fun hi=>(hE.tail (zi hi)).ne)
 rw [hi] at U;go_wp2_with fail
 refine U.mono ?_;clear U;rintro e w5 ⟨rfl,H,E⟩;have Z:zb r w2 w5:=am.out.trans H;have ar:zc r g (o+5) (cap-1) ts w5:=by simpa using E
 have au:=hE.tail (zi hi);subst ap;have p2:=(Z.block _ aE (by omega)).trans aG.out
 obtain ⟨-,-,-,c3,-,-⟩:=zv p2;have aS:=zg c3;have aR:=Z.size;have ay:Hid (zb r w2 w5):=Z
 have cb:∀W:World,zb r w5 W→zc r g (o+5) (cap-1) (t6::ts6) W→Calls Tryz.prog 171 #[.pointer (some ⟨r,0,none⟩)] W fun e w'=>zb r W w'∧if t6.k=1 then e=.returned (.string (za t6.s))∧zc r g (o+5+5) (cap-1-1) ts6 w' else e=Zv t6.at0:=fun W hK hR =>
  XP r g _ _ t6 ts6 W hR (fun hk=>(au.tail (by omega)).ne)
 have aa:Hid (zc r g (o+5) (cap-1) (t6::ts6) w5):=ar;clear H E Z ar p2 am al
 by_cases h6:t6.k=1
 ·have aI:=au.tail (by omega:t6.k≠0)
  obtain ⟨t7,O,rfl⟩:=aI.cons
  have Q:∀W:World,zb r w5 W→zc r g (o+5) (cap-1) (t6::t7::O) W→Calls Tryz.prog 171 #[.pointer (some ⟨r,0,none⟩)] W fun e w'=>e=.returned (.string (za t6.s))∧w'.cell? ⟨w.heap.size+1+1,3,none⟩=some (.int .i64 t.line)∧W.heap.size≤w'.heap.size∧(W.heap[w5.heap.size]?=some zE→w'.heap[w5.heap.size]?=some zE) ∧
    Hid (zb r w2 W∧zb r W w'∧zc r g (o+5+5) (cap-1-1) (t7::O) w'):=fun W hK hR=>(cb W hK hR).mono fun e w' h=>by
   obtain ⟨G,y⟩:=h;rw [if_pos h6] at y;obtain ⟨rfl,I⟩:=y;refine ⟨rfl,G.cell (p:=⟨w.heap.size+1+1,3,none⟩) (by simp;omega) (hK.cell (p:=⟨w.heap.size+1+1,3,none⟩) (by simp;omega) c3),G.size,fun hz=>?_,ay.out.trans hK,G,I⟩
   exact (G.block _ (Array.getElem?_eq_some_iff.1 hz).1 (by omega)).trans hz
  have ao:Hid (∀X o1 cap1,zc r g o1 cap1 (t7::O) X→zb r w X→Calls Tryz.prog 177 #[.pointer (some ⟨r,0,none⟩),.func (.func 74) #[.pointer (some ⟨r,0,none⟩)] #[]] X (Yl r g X res)):=hbr h6;clear cb hbr;go_wp2_with fail
  go_cut [4] (fun v wx=>ZL r g w2 [] (t7::O) (.int .i64 11) (.string (za t6.s)) (.int .i64 0) (.int .i64 t.line) v wx)
  case first =>
   go_region_held3 (fun W=>W.cell? ⟨w.heap.size+1+1,3,none⟩=some (.int .i64 t.line)) (first | go_keep | exact yB _ _ _ _ _ (by omega) m3 | exact yB _ _ _ _ _ (by omega) (aD _)) (first | (go_at_call 171;refine (Q _ (by first | exact zb.drew r w5 | exact ((zb.refl r w5).alloc _).trans (zb.drew _ _)) (by first | exact aa.out.keep rfl rfl | exact (aa.out.alloc _).keep rfl rfl)).mono ?_;rintro e' w7 ⟨rfl,m3,aQ,an,H7⟩;have aD:=zg m3;first | (have p6:=an (World.alloc_heap_new w5 _);obtain ⟨q0,q1,q2,q3,q4,qf⟩:=zv p6) | skip))
   all_goals (obtain ⟨af,ae,L⟩:=H7.out)
   all_goals first
    | (have HN:Hid (ZL r g w2 [] (t7::O) (.int .i64 11) (.string (za t6.s)) (.int .i64 0) (.int .i64 t.line) (.pointer (some ⟨w5.heap.size,0,none⟩)) (set5 w7 w5.heap.size (.int .i64 11) (.string (za t6.s)) (.int .i64 0) (.slice none 0 0) (.int .i64 t.line))):=ZL.set _ _ _ _ af ae (.inl ⟨rfl,rfl⟩) ⟨_,_,L⟩ (by omega) (by omega) (by omega) (by simp) p6
       clear Q H7 af ae L an;go_wp2_with fail
       go_meet
       exact HN.out)
    | (have HN:Hid (ZL r g w2 [] (t7::O) (.int .i64 11) (.string (za t6.s)) (.int .i64 0) (.int .i64 t.line) (.pointer (some ⟨w7.heap.size,0,none⟩)) (w7.alloc (.cells #[.int .i64 11,.string (za t6.s),.int .i64 0,.slice none 0 0,.int .i64 t.line] 90))):=ZL.alloc _ _ _ _ af ae (.inl ⟨rfl,rfl⟩) ⟨_,_,L⟩
       clear Q H7 af ae L an;go_wp2_with fail
       go_meet
       exact HN.out)
  case rest =>
   obtain ⟨P,d0,d1,d2,rfl,hP,A,⟨o3,aN,I⟩,hk,aO⟩:=hcut
   obtain ⟨rfl,rfl,rfl⟩:d0=none∧d1=0∧d2=0:=by
    rcases A with ⟨-,hv⟩ | ⟨_,_,_,_,aA,_⟩
    ·cases hv;exact ⟨rfl,rfl,rfl⟩
    ·exact absurd rfl aA
   have hs:w2.heap.size≤wc.heap.size:=hk.size;have aw:P<wc.heap.size:=(Array.getElem?_eq_some_iff.1 hP).1;have cn:=ao.out wc _ _ I (ad.out.trans hk);have aH:Hid (zb r w2 wc):=hk;have aF:Hid (wc.heap[P]?=some (.cells #[.int .i64 11,.string (za t6.s),.int .i64 0,.slice none 0 0,.int .i64 t.line] 90 (0,0))):=hP;clear hP A I hk Q ao;go_wp2_with fail
   refine cn.mono ?_;clear cn;rintro e ab ⟨J,y⟩;have V:Hid (zb r w2 ab):=aH.out.trans J;rcases res with a | ⟨l,us⟩
   ·obtain rfl:=y
    obtain rfl:R=.error a:=by rw [←hres];unfold XT;rw [if_pos h6]
    exact ⟨rfl,ad.out.trans V.out,rfl⟩
   ·obtain ⟨v,o4,ax,rfl,A,I⟩:=y
    obtain rfl:R=.ok (.mk 11 t6.s 0 l t.line,us):=by rw [←hres];unfold XT;rw [if_pos h6]
    obtain ⟨e0,Y,e2,rfl⟩:∃e0 Y e2,v=.slice e0 Y e2:=by
     rcases A with ⟨-,rfl⟩ | ⟨_,_,_,rfl,_⟩
     ·exact ⟨_,_,_,rfl⟩
     ·exact ⟨_,_,_,rfl⟩
    have pB:=(J.block _ aw (by omega)).trans aF.out
    obtain ⟨-,-,-,g3,-,gf⟩:=zv pB;have aP:=gf 3;obtain ⟨w13,D⟩:∃w13,w13=ab.setCell ⟨P,3,none⟩ (.slice e0 Y e2):=⟨_,rfl⟩;have aB:=D.symm;have z:∀k,k≠P→w13.heap[k]?=ab.heap[k]?:=fun k hk=>by rw [D];exact Below.heap_setCell _ _ _ _ (by simpa using hk)
    have pC:w13.heap[P]?=some (.cells #[.int .i64 11,.string (za t6.s),.int .i64 0,.slice e0 Y e2,.int .i64 t.line] 90 (0,0)):=by rw [D];exact Zn _ pB
    have p0:=(z w.heap.size (by omega)).trans ((V.out.block _ (by omega) (by omega)).trans az.out)
    have aJ:=J.size;have aq:ab.heap.size≤w13.heap.size:=by rw [D];simp
    have ak:zb r w w13:=by rw [D];exact (ad.out.trans V.out).setOther (by simp;omega) _
    have K:Zz wc.heap.size w13 l (.slice e0 Y e2):=Zz.kept A aq fun k hB _=>z k (by omega)
    have T:zc r g o4 ax us w13:=I.keep (z r (by omega)) (z g (by omega))
    obtain ⟨f0,f1,f2,f3,f4,-⟩:=zv pC;obtain ⟨q0,q1,q2,q3,q4,qf⟩:=zv p0;obtain ⟨z0,z1,z2,z3,z4⟩:=zr p0 (.int .i64 11) (.string (za t6.s)) (.int .i64 0) (.slice e0 Y e2) (.int .i64 t.line)
    have HP:Hid (zl r g w (.ok (.mk 11 t6.s 0 l t.line,us)) (.returned (.agg #[.int .i64 11,.string (za t6.s),.int .i64 0,.slice e0 Y e2,.int .i64 t.line])) (set5 w13 w.heap.size (.int .i64 11) (.string (za t6.s)) (.int .i64 0) (.slice e0 Y e2) (.int .i64 t.line))) :=
     zl.of_set5 (B:=wc.heap.size) 11 t6.s 0 t.line ak (Nat.le_refl _) hr aC K (by omega) T
    clear J p0 pB pC A I K T ak z D gf;go_wp2
    exact bodyPost_ret (v:=.agg #[.int .i64 11,.string (za t6.s),.int .i64 0,.slice e0 Y e2,.int .i64 t.line]) (by simp [results,Tryz.results168,go_sem,z0,z1,z2,z3,z4]) rfl HP.out
 ·obtain rfl:R=.error t6.at0:=by rw [←hres];unfold XT;rw [if_neg h6]
  have Q:∀W:World,zb r w5 W→zc r g (o+5) (cap-1) (t6::ts6) W→Calls Tryz.prog 171 #[.pointer (some ⟨r,0,none⟩)] W fun e w'=>e=Zv t6.at0∧zb r w w':=fun W hK hR=>(cb W hK hR).mono fun e w' h=>by
   obtain ⟨G,y⟩:=h;rw [if_neg h6] at y;exact ⟨y,ad.out.trans (ay.out.trans (hK.trans G))⟩
  clear cb hbr;go_wp2_with fail
  go_region_dies
  all_goals
   go_wp2_with fail
   refine (Q _ ?_ ?_).mono ?_
   ·first | exact zb.drew r w5 | exact ((zb.refl r w5).alloc _).trans (zb.drew _ _)
   ·first | exact aa.out.keep rfl rfl | exact (aa.out.alloc _).keep rfl rfl
   ·rintro e w4 ⟨rfl,G⟩;exact ⟨rfl,G,rfl⟩
end Go.Proofs.YtmbofhpmockmbaaGreatDoor
