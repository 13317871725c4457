import Derived.Test.YtbjndgachcdbcaaGreatDoorVAppS
import Derived.Test.YtbjndgachcdbcaaGreatDoorVTabs
namespace Go.Proofs.YtbjndgachcdbcaaGreatDoor
open Go.RowKit Go.Shelf
set_option maxHeartbeats 16000000
set_option maxRecDepth 100000
theorem Xn (w:World) (v:Vw) (vf vs:Value) (hv:zR (fun q=>q<w.heap.size) w v vf vs) (hs:yg v) (os:List Ob) (vo:Value) (ho:zD (fun _=>True) w vo os) (h1:∀o∈os,Ze o) (h2:∀o∈os,o.2.length≤1048576) (h3:os.length<1048576) (hfo:vo=.slice none 0 0∨∃ad n c,vo=.slice (some ad) n c) (o:Ob) (u:Value) (hu:zk (fun q=>q<w.heap.size) w u o.2) (hso:YK o) (ht:Yz w) :
  Calls Tryz.prog 5 #[uu vf vs v,vo,.agg #[.string (za o.1),u]] w fun e w'=>e=.returned (.bool true)∧Below w.heap.size w w':=by
 obtain ⟨bf,cf,rfl,-,-,bc⟩:=hv.frames.at
 obtain ⟨bs,cs,rfl,-⟩:=hv.stops.at
 obtain ⟨bo,co,rfl,-,-,bd⟩:=ho.at
 obtain ⟨X,V,rfl,-,-,-⟩:=hu.at
 have cR:Hid (∀W,Below w.heap.size w W→Calls Tryz.prog 11 #[.int .i64 4096,.slice bo os.length co] W (Vn 4096 os W)):=fun W hW =>
  XY (fun _=>True) 4096 os _ W (ho.kept hW.size fun q _ hq=>hW.block q hq) h1 h2 (by omega) (ht.below hW (Nat.le_refl _)).tabs
 have cg:Hid (∀W v8,Below w.heap.size w W→zD (fun _=>True) W v8 (os++[o])→Calls Tryz.prog 11 #[.int .i64 4096,v8] W (Vn 4096 (os++[o]) W)):=fun W v8 hW hO =>
  XY (fun _=>True) 4096 (os++[o]) _ W hO (fun x hx=>by
   rcases List.mem_append.1 hx with h | h
   ·exact h1 x h
   ·obtain rfl:x=o:=by simpa using h
    exact ⟨hso.1,fun y hy=>(hso.2.1 y hy).1⟩) (fun x hx=>by
   rcases List.mem_append.1 hx with h | h
   ·exact h2 x h
   ·obtain rfl:x=o:=by simpa using h
    exact hso.2.2) (by simp;omega) (ht.below hW (Nat.le_refl _)).tabs
 have cF:Hid (∀W,Below w.heap.size w W→Calls Tryz.prog 12 #[uu (.slice bf v.look.frames.length cf) (.slice bs v.stops.length cs) v,.slice bo os.length co] W fun e w'=>uE e∧Below W.heap.size W w'):=fun W hW =>
  Up v _ _ os _ W (hv.below hW) hs (ho.kept hW.size fun q _ hq=>hW.block q hq) (by omega) h2
 have au:Hid (∀W,Below w.heap.size w W→Calls Tryz.prog 10 #[] W fun e w'=>e=.returned (.bool true)∧Below W.heap.size W w'):=fun W hW=>XX W (ht.below hW (Nat.le_refl _))
 have HV:Hid (∀W,Below w.heap.size w W→zR (fun q=>q<w.heap.size) W v (.slice bf v.look.frames.length cf) (.slice bs v.stops.length cs)):=fun W hW=>hv.below hW
 have bJ:Hid (yg v):=hs;have HT:Hid (Yz w):=ht;have HO:Hid (∀W,Below w.heap.size w W→zD (fun _=>True) W (.slice bo os.length co) os):=fun W hW=>ho.kept hW.size fun q _ hq=>hW.block q hq
 have HU:Hid (∀W,Below w.heap.size w W→zk (fun _=>True) W (.slice X o.2.length V) o.2):=fun W hW=>(hu.kept hW.size fun q _ hq=>hW.block q hq).wide fun _ _=>trivial
 have bM:Hid (∀i (hi:i<v.look.frames.length),∃b o,bf=some ⟨b,o,none⟩∧(fun q=>q<w.heap.size) b∧b<w.heap.size∧UF (fun q=>q<w.heap.size) w b (o+i*3) v.look.frames[i]):=bc
 have aN:Hid (∀ad,bo=some ad→1≤os.length→∃b o,ad=⟨b,o,none⟩):=fun ad e h1=>by
  obtain ⟨b,o,u,e8,-⟩:=bd 0 (by omega)
  rw [e] at e8;exact ⟨b,o,Option.some.inj e8⟩
 have aU:Hid (Value.slice bo os.length co=.slice none 0 0∨∃ad n c,Value.slice bo os.length co=.slice (some ad) n c):=hfo;have c6:=hso.2.2;have q1:=hs.nframes;have q2:=hs.nstops;have cX:Hid (v.look.out.length≤1048576):=hs.out;obtain ⟨⟨ah,A,D,m,ae⟩,ag,B,⟨af,n,O⟩⟩:=v;obtain ⟨w1,bV,bl,cy,h0,cm⟩:=UO w (.cells (yS ah A D (.slice bf m.length cf) ae ag (.slice bs B.length cs) af n O) 35) (.cells #[.string (za o.1),.slice X o.2.length V] 49);have cP:Hid (w1=(w.alloc (.cells (yS ah A D (.slice bf m.length cf) ae ag (.slice bs B.length cs) af n O) 35)).alloc (.cells #[.string (za o.1),.slice X o.2.length V] 49)):=bV;have bU:Hid (Below w.heap.size w w1):=bl;have b2:Hid (w1.heap[w.heap.size]?=some (.cells (yS ah A D (.slice bf m.length cf) ae ag (.slice bs B.length cs) af n O) 35 (0,0))):=h0;have cr:Hid (w1.heap[w.heap.size+1]?=some (.cells #[.string (za o.1),.slice X o.2.length V] 49 (0,0))):=cm;have cl:=cR.out w1 bl;simp only at q1 q2;obtain ⟨i0,cY,c4,cZ,cW⟩:=info_parts Y8;clear hfo bV bl h0 cm cy bc bd hv hs ho h1 h2 ht hu hso
 go_enter Tryz.func5,Tryz.ntmps5
 go_wp2_with fail
 rw [←cP.out];refine cl.mono ?_;clear cl;intro e z bT;obtain ⟨p,er,rfl,a4,aB⟩:=Vo bT;have HC:Hid (p=none∨∃g vo vc,p=some ⟨g,0,none⟩∧zs (fun k=>w1.heap.size≤k) z (mostN 4096) os g vo vc):=aB
 have av:Hid (Below w.heap.size w z):=bU.out.trans (a4.mono bU.out.size);have ca:Hid _:=(a4.block _ (zc b2.out)).trans b2.out;have aT:Hid _:=(a4.block _ (zc cr.out)).trans cr.out;clear bT a4 aB;obtain ⟨y0,y1⟩:=xX aT.out;have bh:=zc aT.out;obtain ⟨us,ar,aD,a9⟩:=(HO.out z av.out).rowsV;have aZ:Hid (∀i (hi:i<os.length),∃u,us[i]?=some u∧zk (fun _=>True) z u (os[i]).2):=aD
 have a1:Hid (∀b o cap,Value.slice bo os.length co=.slice (some ⟨b,o,none⟩) os.length cap→∀j u,(obsC os us)[j]?=some u→b<z.heap.size∧z.cell? ⟨b,o+j,none⟩=some u):=a9
 have a5:Hid (∀u∈obsC os us,u.oneCell'=true):=uF ar fun u hu=>by
  obtain ⟨j,hj⟩:=List.getElem?_of_mem hu;have aC:j<os.length:=by rw [←ar];exact (List.getElem?_eq_some_iff.1 hj).1
  obtain ⟨u',e',cN⟩:=aD j aC;rw [hj] at e';cases e'
  exact yy cN
 have aq:Hid (us.length=os.length):=ar;clear ar aD a9;have ab:Hid (∀W,Below z.heap.size z W→W.cell? ⟨w.heap.size+1,0,none⟩=some (.string (za o.1))∧W.cell? ⟨w.heap.size+1,1,none⟩=some (.slice X o.2.length V)):=fun W hW=>⟨(zb hW bh).trans y0,(zb hW bh).trans y1⟩
 have aO:Hid (zk (fun _=>True) z (.slice X o.2.length V) o.2):=HU.out z av.out
 have aL:Hid (∀W v8,Below z.heap.size z W→zD (fun _=>True) W v8 (os++[o])→Calls Tryz.prog 11 #[.int .i64 4096,v8] W fun e w'=>∃p er,e=.returned (.tuple #[.pointer p,.int .i64 er])∧Below z.heap.size z w'∧(p=none∨∃g vo vc,p=some ⟨g,0,none⟩∧zs (fun k=>z.heap.size≤k) w' (mostN 4096) (os++[o]) g vo vc)):=fun W v8 hW hO=>(cg.out W v8 (av.out.trans (hW.mono av.out.size)) hO).mono fun e w' h=>by
  obtain ⟨p,er,rfl,hb,hc⟩:=Vo h;refine ⟨p,er,rfl,hW.trans (hb.mono hW.size),?_⟩;rcases hc with h | ⟨g,vo,vc,h,H⟩
  ·exact .inl h
  ·exact .inr ⟨g,vo,vc,h,H.wide fun k _ hk=>Nat.le_trans hW.size hk⟩
 go_upto_region 2 with fail
 go_cut [9,10] (fun xp xe wx=>∃p' ap,xp=.pointer p'∧xe=.int .i64 ap∧Below z.heap.size z wx∧(p'=none∨∃g vo vc,p'=some ⟨g,0,none⟩∧zs (fun k=>z.heap.size≤k) wx (mostN 4096) (os++[o]) g vo vc))
 case first =>
  haveI c0:Nonempty (zC fun W=>W.cell? ⟨w.heap.size+1,0,none⟩=some (.string (za o.1))∧W.cell? ⟨w.heap.size+1,1,none⟩=some (.slice X o.2.length V)):=⟨⟨z,y0,y1⟩⟩
  have X0:∀c:zC fun W=>W.cell? ⟨w.heap.size+1,0,none⟩=some (.string (za o.1))∧W.cell? ⟨w.heap.size+1,1,none⟩=some (.slice X o.2.length V),c.1.cell? ⟨w.heap.size+1,0,none⟩=some (.string (za o.1)):=fun c=>c.2.1
  have X1:∀c:zC fun W=>W.cell? ⟨w.heap.size+1,0,none⟩=some (.string (za o.1))∧W.cell? ⟨w.heap.size+1,1,none⟩=some (.slice X o.2.length V),c.1.cell? ⟨w.heap.size+1,1,none⟩=some (.slice X o.2.length V):=fun c=>c.2.2
  refine ZR (n:=12) (S:=fun w'=>∃c:zC fun W=>W.cell? ⟨w.heap.size+1,0,none⟩=some (.string (za o.1))∧W.cell? ⟨w.heap.size+1,1,none⟩=some (.slice X o.2.length V),w'=c.1) (by kernel_rfl) rfl rfl ?_
  refine zS (fuel:=10) (fuel':=12) (idx:=[1,3]) (by kernel_rfl) rfl rfl rfl (fun _ _ _ _ _ h=>h) ⟨⟨z.drew,y0,y1⟩,rfl⟩ ?_
  show wpQuiet _ _ _ _ [_,_] _
  iterate 2 (go_big_quiet_step (fail))
  refine wpQuiet_nil ?_;refine Vp (fuel:=9) (fuel':=10) (i1:=0) (i2:=4) rfl rfl (by kernel_rfl) rfl rfl rfl (by rfl) (by rfl) ?_ ?_
  ·intro K F
   go_simp
   have aE:Hid (Below z.heap.size z ((z.alloc (.cells #[] 49)).drew)):=by
    have h:Below z.heap.size z (z.alloc (.cells #[] 49)):=(Below.refl z.heap.size z).alloc (Nat.le_refl _) _;exact ⟨h.os,h.tape,h.output,h.size,h.block⟩
   have aP:Hid (((z.alloc (.cells #[] 49)).drew).ownsRow z.heap.size 49 2 (.slice (some ⟨z.heap.size,0,none⟩) 0 0) 0 []):=World.ownsRow_made z #[] 0 (Nat.le_refl _) (Nat.zero_le _) rfl;refine F.out _ _ ⟨⟨_,ab.out ((z.alloc (.cells #[] 49)).drew) aE.out⟩,rfl⟩ ?_;clear F K
   (try dsimp only)
   refine X4 (fuel:=8) (fuel':=9) (i1:=2) (i2:=4) rfl rfl (by kernel_rfl) rfl rfl rfl (by rfl) (by rfl) ?_ ?_
   ·intro K F
    refine Yg (.tmp 25) (.tmp 26) rfl (by rfl) z aE.out z.heap.size (Nat.le_refl _) _ rfl z.heap.size rfl aP.out aE.out.size bo co os us rfl aU.out aN.out aq.out a5.out a1.out (by omega) ?_
    intro v5 w5 Y aj aW bm;obtain ⟨b5,k5,rfl,-,-⟩:=zT Y;refine F.out _ _ ⟨⟨w5,ab.out w5 aj⟩,rfl⟩ ?_;clear F K
    (try simp only [Act.put,List.setIfInBounds_toArray,List.set_cons_zero,List.set_cons_succ])
    refine zB (fuel:=7) (fuel':=8) (i:=4) rfl (by kernel_rfl) rfl rfl (by rfl) ?_
    intro K F;go_simp;have U:Below z.heap.size z (w5.alloc (.cells #[.string (za o.1),.slice X o.2.length V] 49)):=aj.alloc aj.size _;refine F.out _ _ ⟨⟨_,ab.out (w5.alloc (.cells #[.string (za o.1),.slice X o.2.length V] 49)) U⟩,rfl⟩ ?_;clear F K
    (try simp only [Act.put,List.setIfInBounds_toArray,List.set_cons_zero,List.set_cons_succ])
    refine ZG (fuel:=6) (fuel':=7) (i:=5) rfl (by kernel_rfl) rfl rfl (by rfl) ?_
    intro K F;refine Yh (.tmp 27) (.tmp 29) rfl (by rfl) z U z.heap.size (Nat.le_refl _) U.size os us o (.slice X o.2.length V) _ rfl (Y.alloc _) w5.heap.size rfl (World.alloc_heap_new _ _) h3 aq.out aZ.out aO.out ?_
    intro v8 w8 ai M;have aw:Hid (Below z.heap.size z w8):=M;have c8:=aL.out w8 v8 M ai;obtain ⟨b8,k8,e8,-⟩:=ai.at;rw [List.length_append,List.length_singleton] at e8;subst e8;refine F.out _ _ ⟨⟨w8,ab.out w8 M⟩,rfl⟩ ?_;clear F K ai M
    (try simp only [Act.put,List.setIfInBounds_toArray,List.set_cons_zero,List.set_cons_succ])
    refine zB (fuel:=5) (fuel':=6) (i:=6) rfl (by kernel_rfl) rfl rfl (by rfl) ?_
    intro K F;go_simp;refine c8.mono ?_;clear c8;rintro e w9 ⟨p',ap,rfl,Z,am⟩;have ak:Hid (Below z.heap.size z w9):=Z;have aK:Hid (p'=none∨∃g vo vc,p'=some ⟨g,0,none⟩∧zs (fun k=>z.heap.size≤k) w9 (mostN 4096) (os++[o]) g vo vc):=am
    have al:Hid _:=ab.out w9 Z;clear Z am;show K _ _
    refine F.out _ _ ⟨⟨w9,al.out⟩,rfl⟩ ?_;clear F K
    (try simp only [Act.put,List.setIfInBounds_toArray,List.set_cons_zero,List.set_cons_succ])
    refine zS (fuel:=0) (fuel':=5) (idx:=[7,8,9,10,11]) (by kernel_rfl) rfl rfl rfl (fun _ _ _ _ _ h=>h) ⟨⟨w9,al.out⟩,rfl⟩ ?_
    show wpQuiet _ _ _ _ [_,_,_,_,_] _
    iterate 5 (go_big_quiet_step (fail))
    refine wpQuiet_nil ?_;refine Zv (by kernel_rfl) ?_
    go_wp2_with fail
    go_meet
    exact ⟨p',ap,rfl,rfl,ak.out,aK.out⟩
   ·intro K F
    go_simp;have U:Below z.heap.size z (((z.alloc (.cells #[] 49)).drew).alloc (.cells #[.string (za o.1),.slice X o.2.length V] 49)):=aE.out.alloc aE.out.size _;have bk:((z.alloc (.cells #[] 49)).drew).heap.size=z.heap.size+1:=by simp
    have bn:(((z.alloc (.cells #[] 49)).drew).alloc (.cells #[.string (za o.1),.slice X o.2.length V] 49)).heap[z.heap.size+1]?=some (.cells #[.string (za o.1),.slice X o.2.length V] 49 (0,0)):=by
     have h:=World.alloc_heap_new ((z.alloc (.cells #[] 49)).drew) (.cells #[.string (za o.1),.slice X o.2.length V] 49);rw [bk] at h;exact h
    refine F.out _ _ ⟨⟨_,ab.out (((z.alloc (.cells #[] 49)).drew).alloc (.cells #[.string (za o.1),.slice X o.2.length V] 49)) U⟩,rfl⟩ ?_;clear F K
    (try simp only [Act.put,List.setIfInBounds_toArray,List.set_cons_zero,List.set_cons_succ])
    refine ZG (fuel:=7) (fuel':=8) (i:=2) rfl (by kernel_rfl) rfl rfl (by rfl) ?_
    intro K F;refine Yg (.tmp 25) (.tmp 26) rfl (by rfl) z U z.heap.size (Nat.le_refl _) _ rfl z.heap.size rfl (aP.out.alloc _) U.size bo co os us rfl aU.out aN.out aq.out a5.out a1.out (by omega) ?_
    intro v5 w5 Y aj aW bm;obtain ⟨b5,k5,rfl,-,-⟩:=zT Y;refine F.out _ _ ⟨⟨w5,ab.out w5 aj⟩,rfl⟩ ?_;clear F K
    (try simp only [Act.put,List.setIfInBounds_toArray,List.set_cons_zero,List.set_cons_succ])
    have bt:=aW _ _ bn (by omega)
    refine ZG (fuel:=6) (fuel':=7) (i:=5) rfl (by kernel_rfl) rfl rfl (by rfl) ?_
    intro K F;refine Yh (.tmp 27) (.tmp 29) rfl (by rfl) z aj z.heap.size (Nat.le_refl _) aj.size os us o (.slice X o.2.length V) _ rfl Y _ rfl bt h3 aq.out aZ.out aO.out ?_
    intro v8 w8 ai M;have aw:Hid (Below z.heap.size z w8):=M;have c8:=aL.out w8 v8 M ai;obtain ⟨b8,k8,e8,-⟩:=ai.at;rw [List.length_append,List.length_singleton] at e8;subst e8;refine F.out _ _ ⟨⟨w8,ab.out w8 M⟩,rfl⟩ ?_;clear F K ai M
    (try simp only [Act.put,List.setIfInBounds_toArray,List.set_cons_zero,List.set_cons_succ])
    refine zB (fuel:=5) (fuel':=6) (i:=6) rfl (by kernel_rfl) rfl rfl (by rfl) ?_
    intro K F;go_simp;refine c8.mono ?_;clear c8;rintro e w9 ⟨p',ap,rfl,Z,am⟩;have ak:Hid (Below z.heap.size z w9):=Z;have aK:Hid (p'=none∨∃g vo vc,p'=some ⟨g,0,none⟩∧zs (fun k=>z.heap.size≤k) w9 (mostN 4096) (os++[o]) g vo vc):=am
    have al:Hid _:=ab.out w9 Z;clear Z am;show K _ _
    refine F.out _ _ ⟨⟨w9,al.out⟩,rfl⟩ ?_;clear F K
    (try simp only [Act.put,List.setIfInBounds_toArray,List.set_cons_zero,List.set_cons_succ])
    refine zS (fuel:=0) (fuel':=5) (idx:=[7,8,9,10,11]) (by kernel_rfl) rfl rfl rfl (fun _ _ _ _ _ h=>h) ⟨⟨w9,al.out⟩,rfl⟩ ?_
    show wpQuiet _ _ _ _ [_,_,_,_,_] _
    iterate 5 (go_big_quiet_step (fail))
    refine wpQuiet_nil ?_;refine Zv (by kernel_rfl) ?_
    go_wp2_with fail
    go_meet
    exact ⟨p',ap,rfl,rfl,ak.out,aK.out⟩
  ·intro K F
   go_simp
   have aa:Hid (Below z.heap.size z ((z.alloc (.cells #[.string (za o.1),.slice X o.2.length V] 49)).drew)):=by
    have h:Below z.heap.size z (z.alloc (.cells #[.string (za o.1),.slice X o.2.length V] 49)):=(Below.refl z.heap.size z).alloc (Nat.le_refl _) _;exact ⟨h.os,h.tape,h.output,h.size,h.block⟩
   have bn:((z.alloc (.cells #[.string (za o.1),.slice X o.2.length V] 49)).drew).heap[z.heap.size]?=some (.cells #[.string (za o.1),.slice X o.2.length V] 49 (0,0)):=World.alloc_heap_new z _;have bk:((z.alloc (.cells #[.string (za o.1),.slice X o.2.length V] 49)).drew).heap.size=z.heap.size+1:=by simp
   refine F.out _ _ ⟨⟨_,ab.out ((z.alloc (.cells #[.string (za o.1),.slice X o.2.length V] 49)).drew) aa.out⟩,rfl⟩ ?_;clear F K
   (try dsimp only)
   refine zB (fuel:=8) (fuel':=9) (i:=0) rfl (by kernel_rfl) rfl rfl (by rfl) ?_
   intro K F;go_simp;have U:Below z.heap.size z (((z.alloc (.cells #[.string (za o.1),.slice X o.2.length V] 49)).drew).alloc (.cells #[] 49)):=aa.out.alloc aa.out.size _
   have aP:Hid ((((z.alloc (.cells #[.string (za o.1),.slice X o.2.length V] 49)).drew).alloc (.cells #[] 49)).ownsRow (z.heap.size+1) 49 2 (.slice (some ⟨z.heap.size+1,0,none⟩) 0 0) 0 []):=by
    have h:(((z.alloc (.cells #[.string (za o.1),.slice X o.2.length V] 49)).drew).alloc (.cells #[] 49)).ownsRow ((z.alloc (.cells #[.string (za o.1),.slice X o.2.length V] 49)).drew).heap.size 49 2 (.slice (some ⟨((z.alloc (.cells #[.string (za o.1),.slice X o.2.length V] 49)).drew).heap.size,0,none⟩) 0 0) 0 []:=World.ownsRow_made ((z.alloc (.cells #[.string (za o.1),.slice X o.2.length V] 49)).drew) #[] 0 (Nat.le_refl _) (Nat.zero_le _) rfl;rw [bk] at h;exact h
   have cQ:(((z.alloc (.cells #[.string (za o.1),.slice X o.2.length V] 49)).drew).alloc (.cells #[] 49)).heap[z.heap.size]?=some (.cells #[.string (za o.1),.slice X o.2.length V] 49 (0,0)):=(Below.heap_alloc _ _ _ (by omega)).trans bn
   refine F.out _ _ ⟨⟨_,ab.out (((z.alloc (.cells #[.string (za o.1),.slice X o.2.length V] 49)).drew).alloc (.cells #[] 49)) U⟩,rfl⟩ ?_;clear F K
   (try simp only [Act.put,List.setIfInBounds_toArray,List.set_cons_zero,List.set_cons_succ])
   refine ZG (fuel:=7) (fuel':=8) (i:=2) rfl (by kernel_rfl) rfl rfl (by rfl) ?_
   intro K F;refine Yg (.tmp 25) (.tmp 26) rfl (by rfl) z U (z.heap.size+1) (Nat.le_succ _) _ rfl (z.heap.size+1) rfl aP.out (by simp) bo co os us rfl aU.out aN.out aq.out a5.out a1.out (by omega) ?_
   intro v5 w5 Y aj aW bm;obtain ⟨b5,k5,rfl,-,-⟩:=zT Y;refine F.out _ _ ⟨⟨w5,ab.out w5 aj⟩,rfl⟩ ?_;clear F K
   (try simp only [Act.put,List.setIfInBounds_toArray,List.set_cons_zero,List.set_cons_succ])
   have bt:=aW _ _ cQ (by omega)
   refine ZG (fuel:=6) (fuel':=7) (i:=5) rfl (by kernel_rfl) rfl rfl (by rfl) ?_
   intro K F;refine Yh (.tmp 27) (.tmp 29) rfl (by rfl) z aj (z.heap.size+1) (Nat.le_succ _) (Nat.le_trans (by simp) bm) os us o (.slice X o.2.length V) _ rfl Y _ rfl bt h3 aq.out aZ.out aO.out ?_
   intro v8 w8 ai M;have aw:Hid (Below z.heap.size z w8):=M;have c8:=aL.out w8 v8 M ai;obtain ⟨b8,k8,e8,-⟩:=ai.at;rw [List.length_append,List.length_singleton] at e8;subst e8;refine F.out _ _ ⟨⟨w8,ab.out w8 M⟩,rfl⟩ ?_;clear F K ai M
   (try simp only [Act.put,List.setIfInBounds_toArray,List.set_cons_zero,List.set_cons_succ])
   refine zB (fuel:=5) (fuel':=6) (i:=6) rfl (by kernel_rfl) rfl rfl (by rfl) ?_
   intro K F;go_simp;refine c8.mono ?_;clear c8;rintro e w9 ⟨p',ap,rfl,Z,am⟩;have ak:Hid (Below z.heap.size z w9):=Z;have aK:Hid (p'=none∨∃g vo vc,p'=some ⟨g,0,none⟩∧zs (fun k=>z.heap.size≤k) w9 (mostN 4096) (os++[o]) g vo vc):=am
   have al:Hid _:=ab.out w9 Z;clear Z am;show K _ _
   refine F.out _ _ ⟨⟨w9,al.out⟩,rfl⟩ ?_;clear F K
   (try simp only [Act.put,List.setIfInBounds_toArray,List.set_cons_zero,List.set_cons_succ])
   refine zS (fuel:=0) (fuel':=5) (idx:=[7,8,9,10,11]) (by kernel_rfl) rfl rfl rfl (fun _ _ _ _ _ h=>h) ⟨⟨w9,al.out⟩,rfl⟩ ?_
   show wpQuiet _ _ _ _ [_,_,_,_,_] _
   iterate 5 (go_big_quiet_step (fail))
   refine wpQuiet_nil ?_;refine Zv (by kernel_rfl) ?_
   go_wp2_with fail
   go_meet
   exact ⟨p',ap,rfl,rfl,ak.out,aK.out⟩
 case rest =>
  obtain ⟨p2,cU,rfl,rfl,aA,ch⟩:=hcut;have bz:Hid (Below w.heap.size w wc):=av.out.trans (aA.mono av.out.size);have bH:Hid _:=(aA.block _ (zc ca.out)).trans ca.out;have bO:Hid _:=(aA.block _ (zc aT.out)).trans aT.out;have cn:Hid (p2=none∨∃g vo vc,p2=some ⟨g,0,none⟩∧zs (fun k=>z.heap.size≤k) wc (mostN 4096) (os++[o]) g vo vc):=ch
  have bK:Hid (p=none∨∃g vo vc,p=some ⟨g,0,none⟩∧zs (fun k=>w1.heap.size≤k) wc (mostN 4096) os g vo vc):=by
   rcases HC.out with h | ⟨g,vo,vc,h,H⟩
   ·exact .inl h
   ·exact .inr ⟨g,vo,vc,h,H.below aA⟩
  clear aA ch HC y0 y1 aZ a1 a5 aq aU aN ab aO aL HO HU;have cw:=cF.out wc bz.out;obtain ⟨p0,p1,E,p3,p4,p5,p6,p7,p8,p9⟩:=zl bH.out;go_wp2_with fail
  refine cw.mono ?_;clear cw p0 p1 E p3 p4 p5 p6 p7 p8 p9;rintro e I ⟨⟨b,rfl⟩,aH⟩;have T:Hid (Below w.heap.size w I):=bz.out.trans (aH.mono bz.out.size);have aS:Hid _:=(aH.block _ (zc bH.out)).trans bH.out;have cz:Hid _:=(aH.block _ (zc bO.out)).trans bO.out;have aI:Hid (Below wc.heap.size wc I):=aH;clear aH;obtain ⟨m0,m1⟩:=xX cz.out;cases b
  ·have cv:=au.out I T.out
   go_wp2_with fail
   refine cv.mono ?_;clear cv;rintro e wl ⟨rfl,J⟩;have aa:Hid (Below w.heap.size w wl):=T.out.trans (J.mono T.out.size);clear J;go_wp2
   go_ret
   exact ⟨rfl,aa.out⟩
  by_cases hk1000:(1000:Int)<(o.2.length:Int)
  ·have cv:=au.out I T.out
   go_wp2_with fail
   refine cv.mono ?_;clear cv;rintro e wl ⟨rfl,J⟩;have aa:Hid (Below w.heap.size w wl):=T.out.trans (J.mono T.out.size);clear J;go_wp2
   go_ret
   exact ⟨rfl,aa.out⟩
  rcases bK.out with rfl | ⟨g,vo,vc,rfl,H⟩
  ·have cv:=au.out I T.out
   go_wp2_with fail
   refine cv.mono ?_;clear cv;rintro e wl ⟨rfl,J⟩;have aa:Hid (Below w.heap.size w wl):=T.out.trans (J.mono T.out.size);clear J;go_wp2
   go_ret
   exact ⟨rfl,aa.out⟩
  rcases cn.out with rfl | ⟨g2,cD,cG,rfl,G⟩
  ·have cv:=au.out I T.out
   go_wp2_with fail
   refine cv.mono ?_;clear cv;rintro e wl ⟨rfl,J⟩;have aa:Hid (Below w.heap.size w wl):=T.out.trans (J.mono T.out.size);clear J;go_wp2
   go_ret
   exact ⟨rfl,aa.out⟩
  have cH:Hid (zs (fun k=>w1.heap.size≤k) I (mostN 4096) os g vo vc):=H.below aI.out
  have b7:Hid (zs (fun k=>z.heap.size≤k) I (mostN 4096) (os++[o]) g2 cD cG):=G.below aI.out
  have cA:Hid (∀o∈os,xb o os.length=true):=fun x hx=>(H.ok x hx).1
  clear H G bK cn aI
  go_upto_region 6 with fail
  clear m0 m1 hk1000
  go_loopw [11] (fun vi wr=>∃i:Nat,i≤m.length∧vi=.int .i64 (i:Int)∧Hid (∀f∈m.take i,∀b∈f.vars,rightV b.val os.length=true)∧Below I.heap.size I wr) (fun vi _=>m.length-(intOf vi).toNat)
  case atStart=>exact ⟨0,Nat.zero_le _,rfl,(fun f hf=>by simp at hf),Below.refl _ _⟩
  case round =>
   obtain ⟨i,hi,rfl,cb,aX⟩:=hrel;have bA:Hid (Below I.heap.size I wr):=aX;have cV:Hid (Below w.heap.size w wr):=T.out.trans (aX.mono T.out.size);have aY:Hid _:=(aX.block _ (zc aS.out)).trans aS.out;clear aX;obtain ⟨p0,p1,E,p3,p4,p5,p6,p7,p8,p9⟩:=zl aY.out;clear p0 p1 E p4 p5 p6 p7 p8 p9
   by_cases hlt:i<m.length
   ·have b3:(i:Int)<m.length:=by omega
    obtain ⟨b,ob,rfl,-,J,e0,e1,u,e2,b0⟩:=bM.out i hlt;obtain ⟨bv,cv,rfl,bP,-,ay⟩:=b0.at;have a3:=bJ.out.frames _ (List.getElem_mem hlt);have bw:m.take (i+1)=m.take i++[m[i]]:=(List.take_append_getElem hlt).symm;obtain ⟨f,hf⟩:∃f,f=m[i]:=⟨_,rfl⟩;simp only [←hf] at e0 e1 e2 bP ay bw a3;have cd:Hid (m.take (i+1)=m.take i++[f]):=bw;have c5:=a3.nvars;have ct:Hid (∀b∈f.vars,b.name.length≤1048576∧zr b.val):=a3.vars;have b6:Hid (∀i (hi:i<f.vars.length),∃b o,bv=some ⟨b,o,none⟩∧(fun q=>q<w.heap.size) b∧b<w.heap.size∧UE w b (o+i*4) f.vars[i]):=ay
    have cL:Hid (∀W,Below w.heap.size w W→W.cell? ⟨b,ob+i*3+2,none⟩=some (.slice bv f.vars.length cv)):=fun W hW=>(zb hW J).trans e2
    clear bw a3 b0 ay hf e0 e1 e2
    go_upto_region 9 with fail
    clear p3
    go_loopw [12] (fun vj wr=>∃j:Nat,j≤f.vars.length∧vj=.int .i64 (j:Int)∧Hid (∀b∈f.vars.take j,rightV b.val os.length=true)∧Below I.heap.size I wr) (fun vj _=>f.vars.length-(intOf vj).toNat)
    case atStart=>exact ⟨0,Nat.zero_le _,rfl,(fun f hf=>by simp at hf),bA.out⟩
    case round =>
     obtain ⟨j,hj,rfl,bY,aV⟩:=hrel;have bD:Hid (Below I.heap.size I wr):=aV;have aG:Hid (Below w.heap.size w wr):=T.out.trans (aV.mono T.out.size);have cK:Hid _:=(aV.block _ (zc aS.out)).trans aS.out;clear aV;obtain ⟨p0,p1,E,p3,p4,p5,p6,p7,p8,p9⟩:=zl cK.out;clear p0 p1 E p4 p5 p6 p7 p8 p9;have e2:=cL.out wr aG.out
     by_cases aC:j<f.vars.length
     ·have cS:(j:Int)<f.vars.length:=by omega
      obtain ⟨b5,o5,rfl,-,bW,-,g1,aM,g3⟩:=b6.out j aC;rw [←zb aG.out bW] at g1 aM g3;have aQ:=(ct.out _ (List.getElem_mem aC)).2;have bF:f.vars.take (j+1)=f.vars.take j++[f.vars[j]]:=(List.take_append_getElem aC).symm;obtain ⟨x,hx⟩:∃x,x=f.vars[j]:=⟨_,rfl⟩;simp only [←hx] at g1 aM g3 aQ bF;have cO:Hid (f.vars.take (j+1)=f.vars.take j++[x]):=bF;obtain ⟨nm,⟨vk,vm,vt⟩⟩:=x;simp only at g1 aM g3 aQ;have ck:=yj ⟨vk,vm,vt⟩ os.length wr aQ (HT.out.below aG.out (Nat.le_refl _)).tabs;obtain ⟨R,hR⟩:∃R,R=rightV ⟨vk,vm,vt⟩ os.length:=⟨_,rfl⟩;rw [←hR] at ck;have HR:Hid (R=rightV ⟨vk,vm,vt⟩ os.length):=hR;clear hR bF hx aQ;go_wp2_with fail
      refine ck.mono ?_;clear ck p3 e2 g1 aM g3;rintro e w6 ⟨rfl,U⟩;have ax:Hid (Below w.heap.size w w6):=aG.out.trans (U.mono aG.out.size);have bR:Hid (Below I.heap.size I w6):=bD.out.trans (U.mono bD.out.size);clear U;cases R with
      | false =>
       have he:zI false=2:=rfl;rw [he];have cv:=au.out w6 ax.out;go_wp2_with fail
       refine cv.mono ?_;clear cv;rintro e wl ⟨rfl,J⟩;have aa:Hid (Below w.heap.size w wl):=ax.out.trans (J.mono ax.out.size);clear J;go_wp2
       go_ret
       exact ⟨rfl,aa.out⟩
      | true =>
       have he:zI true=0:=rfl;rw [he];clear he;go_wp2
       exact ⟨⟨j+1,by omega,by go_num,(by
        show ∀b∈_,_
        rw [cO.out];intro b hb;rcases List.mem_append.1 hb with h | h
        ·exact bY.out b h
        ·obtain rfl:b=_:=by simpa using h
         exact HR.out.symm),bR.out⟩,by simp [intOf];omega⟩
     ·have cS:¬ (j:Int)<f.vars.length:=by omega
      obtain rfl:j=f.vars.length:=by omega
      go_wp2
      exact ⟨⟨i+1,by omega,by go_num,(by
       show ∀f∈_,_
       rw [cd.out];intro f' cM;rcases List.mem_append.1 cM with h | h
       ·exact cb.out f' h
       ·obtain rfl:f'=f:=by simpa using h
        have:=bY.out
        rwa [List.take_length] at this),bD.out⟩,by simp [intOf];omega⟩
   ·have b3:¬ (i:Int)<m.length:=by omega
    obtain rfl:i=m.length:=by omega
    have bj:∀f∈m,∀b∈f.vars,rightV b.val os.length=true:=by
     have:=cb.out
     rwa [List.take_length] at this
    obtain ⟨bL,cc⟩:=X3 os o ⟨⟨ah,A,D,m,ae⟩,ag,B,⟨af,n,O⟩⟩ cA.out bj;obtain ⟨LL,a0⟩:∃LL,LL=(if Yy os.length ⟨⟨ah,A,D,m,ae⟩,ag,B,⟨af,n,O⟩⟩=true then ZC os ⟨⟨ah,A,D,m,ae⟩,ag,B,⟨af,n,O⟩⟩ else []):=⟨_,rfl⟩
    obtain ⟨E0,bG⟩:∃E0:Int,E0=(if Yy os.length ⟨⟨ah,A,D,m,ae⟩,ag,B,⟨af,n,O⟩⟩=true then 0 else 2):=⟨_,rfl⟩
    have cj:Hid (LL.length≤4194304):=by
     show _≤_
     rw [a0];have h1:=vM os ⟨⟨ah,A,D,m,ae⟩,ag,B,⟨af,n,O⟩⟩;have h2:=XV ae;simp only at h1
     split
     ·omega
     ·simp
    have an:Hid (∀W,Below I.heap.size I W→Below w.heap.size w W):=fun W hW=>T.out.trans (hW.mono T.out.size)
    have bS:Hid (∀W,Below I.heap.size I W→Calls Tryz.prog 13 #[uu (.slice bf m.length cf) (.slice bs B.length cs) ⟨⟨ah,A,D,m,ae⟩,ag,B,⟨af,n,O⟩⟩,.pointer (some ⟨g,0,none⟩)] W fun e w'=>∃r,e=.returned (.tuple #[r,.int .i64 E0])∧rowIn (fun _=>True) w' r 1 zY LL∧Below W.heap.size W w'):=fun W hW=>by
     have h:=Yf ⟨⟨ah,A,D,m,ae⟩,ag,B,⟨af,n,O⟩⟩ _ _ W (cH.out.below hW) (HV.out W (an.out W hW)) bJ.out (HT.out.below (an.out W hW) (Nat.le_refl _));rw [←a0,←bG] at h;exact h
    have cJ:Hid (∀W,Below I.heap.size I W→Calls Tryz.prog 13 #[uu (.slice bf m.length cf) (.slice bs B.length cs) ⟨⟨ah,A,D,m,ae⟩,ag,B,⟨af,n,O⟩⟩,.pointer (some ⟨g2,0,none⟩)] W fun e w'=>∃r,e=.returned (.tuple #[r,.int .i64 E0])∧rowIn (fun _=>True) w' r 1 zY LL∧Below W.heap.size W w'):=fun W hW=>by
     have h:=Yf ⟨⟨ah,A,D,m,ae⟩,ag,B,⟨af,n,O⟩⟩ _ _ W (b7.out.below hW) (HV.out W (an.out W hW)) bJ.out (HT.out.below (an.out W hW) (Nat.le_refl _));rw [bL,cc,←a0,←bG] at h;exact h
    have bN:Hid (∀W r1 r2,rowIn (fun _=>True) W r1 1 zY LL→rowIn (fun _=>True) W r2 1 zY LL→Calls Tryz.prog 17 #[r1,r2] W fun e w'=>e=.returned (.bool true)∧Below W.heap.size W w'):=fun W r1 r2 h1 h2=>by
     have h:=xt (fun _=>True) (fun _=>True) LL LL r1 r2 W h1 h2 cj.out
     rw [decide_eq_true rfl] at h;exact h
    have ao:Hid (∀(W W':World) (r:Value),rowIn (fun _=>True) W r 1 zY LL→Below W.heap.size W W'→rowIn (fun _=>True) W' r 1 zY LL):=fun W W' r h hb=>rowIn.kept h (vD _) hb.size fun q _ hq=>hb.block q hq
    clear a0 bG bL cc bj b3 p3;have cp:Hid (Below I.heap.size I wr):=bA.out;obtain ⟨p0,p1,E,p3,p4,p5,p6,p7,p8,p9⟩:=zl aY.out;have c1:=bS.out wr bA.out;go_wp2_with fail
    refine c1.mono ?_;clear c1 p0 p1 E p3 p4 p5 p6 p7 p8 p9;rintro e w6 ⟨r1,rfl,b9,U⟩;have ax:Hid (Below I.heap.size I w6):=cp.out.trans (U.mono cp.out.size);have bq:Hid _:=(U.block _ (zc aY.out)).trans aY.out;have ci:Hid (rowIn (fun _=>True) w6 r1 1 zY LL):=b9
    clear b9;clear U;obtain ⟨p0,p1,E,p3,p4,p5,p6,p7,p8,p9⟩:=zl bq.out;have ce:=Yv w6;go_wp2_with fail
    refine ce.mono ?_;clear ce p0 p1 E p3 p4 p5 p6 p7 p8 p9;rintro e w7 ⟨cC,cT,cB,cI,rfl,cq,aR⟩;have a2:Hid (Below I.heap.size I w7):=ax.out.trans (aR.mono ax.out.size);have bB:Hid _:=(aR.block _ (zc bq.out)).trans bq.out;have bi:Hid (rowIn (fun _=>True) w7 r1 1 zY LL):=ao.out _ _ _ ci.out aR
    have cx:=Yf Zg (.slice cC 2 cB) (.slice cT 1 cI) w7 (b7.out.below a2.out) cq Vm (HT.out.below (an.out w7 a2.out) (Nat.le_refl _));clear cq ci;obtain ⟨E8,bX⟩:∃E8:Int,E8=(if Yy (os++[o]).length Zg=true then 0 else 2):=⟨_,rfl⟩
    rw [←bX] at cx;clear bX;clear aR;obtain ⟨p0,p1,E,p3,p4,p5,p6,p7,p8,p9⟩:=zl bB.out;go_wp2_with fail
    refine cx.mono ?_;clear cx p0 p1 E p3 p4 p5 p6 p7 p8 p9;rintro e w8 ⟨r8,rfl,-,M⟩;have aw:Hid (Below I.heap.size I w8):=a2.out.trans (M.mono a2.out.size);have bE:Hid _:=(M.block _ (zc bB.out)).trans bB.out;have bg:Hid (rowIn (fun _=>True) w8 r1 1 zY LL):=ao.out _ _ _ bi.out M
    clear bi;clear M;obtain ⟨p0,p1,E,p3,p4,p5,p6,p7,p8,p9⟩:=zl bE.out;have c2:=cJ.out w8 aw.out;go_wp2_with fail
    refine c2.mono ?_;clear c2 p0 p1 E p3 p4 p5 p6 p7 p8 p9;rintro e w9 ⟨r2,rfl,b4,Z⟩;have ak:Hid (Below I.heap.size I w9):=aw.out.trans (Z.mono aw.out.size);have bp:Hid _:=(Z.block _ (zc bE.out)).trans bE.out;have bb:Hid (rowIn (fun _=>True) w9 r1 1 zY LL):=ao.out _ _ _ bg.out Z
    have ba:Hid (rowIn (fun _=>True) w9 r2 1 zY LL):=b4
    clear bg b4;clear Z;obtain ⟨p0,p1,E,p3,p4,p5,p6,p7,p8,p9⟩:=zl bp.out;have c3:=bS.out w9 ak.out;go_wp2_with fail
    refine c3.mono ?_;clear c3 p0 p1 E p3 p4 p5 p6 p7 p8 p9;rintro e wa ⟨r3,rfl,bZ,az⟩;have b1:Hid (Below I.heap.size I wa):=ak.out.trans (az.mono ak.out.size);have bI:Hid _:=(az.block _ (zc bp.out)).trans bp.out;have aJ:Hid (rowIn (fun _=>True) wa r1 1 zY LL):=ao.out _ _ _ bb.out az
    have a6:Hid (rowIn (fun _=>True) wa r2 1 zY LL):=ao.out _ _ _ ba.out az
    have be:Hid (rowIn (fun _=>True) wa r3 1 zY LL):=bZ
    clear bb ba bZ;clear az;obtain ⟨p0,p1,E,p3,p4,p5,p6,p7,p8,p9⟩:=zl bI.out;have d1:=bN.out wa r1 r2 aJ.out a6.out;go_wp2_with fail
    refine d1.mono ?_;clear d1 p0 p1 E p3 p4 p5 p6 p7 p8 p9;rintro e wb ⟨rfl,aF⟩;have bQ:Hid (Below I.heap.size I wb):=b1.out.trans (aF.mono b1.out.size);have bC:Hid _:=(aF.block _ (zc bI.out)).trans bI.out;have a8:Hid (rowIn (fun _=>True) wb r1 1 zY LL):=ao.out _ _ _ aJ.out aF
    have a7:Hid (rowIn (fun _=>True) wb r3 1 zY LL):=ao.out _ _ _ be.out aF
    clear aJ a6 be;clear aF;obtain ⟨p0,p1,E,p3,p4,p5,p6,p7,p8,p9⟩:=zl bC.out;have d2:=bN.out wb r1 r3 a8.out a7.out;go_wp2_with fail
    refine d2.mono ?_;clear d2 p0 p1 E p3 p4 p5 p6 p7 p8 p9;rintro e wd ⟨rfl,bx⟩;have br:Hid (Below I.heap.size I wd):=bQ.out.trans (bx.mono bQ.out.size);have cE:Hid _:=(bx.block _ (zc bC.out)).trans bC.out;clear a8 a7;clear bx;obtain ⟨p0,p1,E,p3,p4,p5,p6,p7,p8,p9⟩:=zl cE.out;have cv:=au.out wd (an.out wd br.out);go_wp2_with fail
    refine cv.mono ?_;clear cv p0 p1 E p3 p4 p5 p6 p7 p8 p9;rintro e wl ⟨rfl,J⟩;have aa:Hid (Below w.heap.size w wl):=(an.out wd br.out).trans (J.mono (an.out wd br.out).size);clear J;go_wp2
    go_ret
    exact ⟨rfl,aa.out⟩
end Go.Proofs.YtbjndgachcdbcaaGreatDoor
