import Derived.Test.YtbjndgachcdbcaaGreatDoorMC12
namespace Go.Proofs.YtbjndgachcdbcaaGreatDoor
open Go.RowKit Go.Shelf
set_option maxHeartbeats 16000000
set_option maxRecDepth 100000
structure yP (S:Nat→Prop) (w:World) (most:Nat) (os:List Ob) (h:Nat) (vo vc:Value):Prop where
 blk:w.heap[h]?=some (.cells #[.bool true,.int .i64 (most:Int),vo,vc] 70 (0,0))
 objs:w.ownsRow 0 92 3 vo os.length (Zo 0 os)
 cells:w.ownsRow 0 56 3 vc (zo os).length (vlC (zo os))
 sh:S h
 so:∀k,vo.ownBlock=some k→S k
 sc:∀k,vc.ownBlock=some k→S k
 use:os.length+(zo os).length≤most
 may:most≤4096
theorem zx.bare {S:Nat→Prop} {w:World} {most:Nat} {os:List Ob} {h:Nat} {vo vc:Value} (H:zx S w most os h vo vc):yP S w most os h vo vc:=⟨H.blk,H.objs,H.cells,H.sh,H.so,H.sc,H.use,H.may⟩
theorem yP.full {S:Nat→Prop} {w:World} {most:Nat} {os:List Ob} {h:Nat} {vo vc:Value} (H:yP S w most os h vo vc) (ok:∀o∈os,XQ o os.length=true∧Zj o):zx S w most os h vo vc:=⟨H.blk,H.objs,H.cells,H.sh,H.so,H.sc,ok,H.use,H.may⟩
theorem yP.lt {S:Nat→Prop} {w:World} {most:Nat} {os:List Ob} {h:Nat} {vo vc:Value} (H:yP S w most os h vo vc):h<w.heap.size:=(Array.getElem?_eq_some_iff.1 H.blk).1
theorem yP.wide {S S':Nat→Prop} {w:World} {most:Nat} {os:List Ob} {h:Nat} {vo vc:Value} (H:yP S w most os h vo vc) (hS:∀k,k<w.heap.size→S k→S' k):yP S' w most os h vo vc :=
 { H with sh:=hS h H.lt H.sh,so:=fun k hk=>hS k (H.objs.lt k hk).2 (H.so k hk),sc:=fun k hk=>hS k (H.cells.lt k hk).2 (H.sc k hk) }
theorem yP.kept {S:Nat→Prop} {w w':World} {most:Nat} {os:List Ob} {h:Nat} {vo vc:Value} (H:yP S w most os h vo vc) (hb:∀k,S k→k<w.heap.size→w'.heap[k]?=w.heap[k]?):yP S w' most os h vo vc :=
 { H with blk:=(hb h H.sh H.lt).trans H.blk,objs:=zh H.objs fun k hk hlt=>hb k (H.so k hk) hlt,cells:=zh H.cells fun k hk hlt=>hb k (H.sc k hk) hlt }
theorem yP.below {S:Nat→Prop} {w w':World} {most:Nat} {os:List Ob} {h:Nat} {vo vc:Value} (H:yP S w most os h vo vc) (hb:Below w.heap.size w w'):yP S w' most os h vo vc:=H.kept fun k _ hk=>hb.block k hk
theorem yP.apart {S:Nat→Prop} {w:World} {most:Nat} {os:List Ob} {h:Nat} {vo vc:Value} (H:yP S w most os h vo vc):vo.ownBlock≠some h∧vc.ownBlock≠some h∧∀k,vo.ownBlock=some k→vc.ownBlock≠some k:=by
 refine ⟨fun e=>?_,fun e=>?_,fun k e e'=>?_⟩
 ·obtain ⟨c,b⟩:=zj H.objs e
  rw [H.blk] at b
  simp at b
 ·obtain ⟨c,b⟩:=zj H.cells e
  rw [H.blk] at b
  simp at b
 ·obtain ⟨c,b⟩:=zj H.objs e
  obtain ⟨o,m⟩:=zj H.cells e';rw [b] at m
  simp at m
theorem X5 {S:Nat→Prop} {w w1 w2 w3:World} {most:Nat} {os:List Ob} {h:Nat} {vo vc vc':Value} {tag:List UInt8} {vl:Value} {l:List Vl} (hb1:Below w.heap.size w w1) (hz:w1.heap.size=w.heap.size+1) (hh:h<w.heap.size)
  (hblk1:w1.heap[w.heap.size]?=some (.cells #[.string (za tag),vl] 49 (0,0))) (H2:yP S w2 most os h vo vc) (hb2:Below w1.heap.size w1 w2) (hown:w3.ownsRow 0 56 3 vc' ((zo os).length+l.length) (vlC (zo os)++vlC l))
  (hg:w2.grownBy w3 vc.ownBlock) (hat:vc'.ownBlock=vc.ownBlock∨vc'.ownBlock=some w2.heap.size):ZX S w most os h vo tag vl l vc' (w3.setCell ⟨h,3,none⟩ vc'):=by
 have c:=H2.apart;have y:w1.heap.size≤w2.heap.size:=hb2.size;have u:zu S w w3:=(zu.of (hb1.trans (hb2.mono (by omega)))).grown hg fun k e _=>H2.sc k e
 have o:∀k,vc'.ownBlock=some k→k≠h:=fun k e m=>by
  subst m;rcases hat with b | b
  ·exact c.2.1 (b.symm.trans e)
  ·rw [e] at b
   have:=Option.some.inj b
   omega
 have z:w.heap.size≠h:=by omega
 refine ⟨?_,?_,?_,?_,u.set _ (fun _=>H2.sh),fun k e=>?_⟩
 ·exact zi _ ((hg.block h H2.lt fun e=>c.2.1 e.symm).trans H2.blk)
 ·refine zh (w:=w3) (zh H2.objs fun k e hk=>hg.block k hk fun m=>c.2.2 k e m.symm) fun k e _=>Below.heap_setCell _ _ _ _ (by intro m;simp only at m;subst m;exact c.1 e)
 ·exact zh hown fun k e _=>Below.heap_setCell _ _ _ _ (o k e)
 ·rw [Below.heap_setCell _ _ _ _ (by simpa using z),hg.block _ (by omega) (fun e=>?_),hb2.block _ (by omega)]
  ·exact hblk1
  ·obtain ⟨A,q⟩:=zj H2.cells e.symm
   rw [hb2.block _ (by omega),hblk1] at q
   simp at q
 ·rcases hat with b | b
  ·exact .inl (H2.sc k (b.symm.trans e))
  ·rw [e] at b
   have:=Option.some.inj b
   right;omega
theorem xP {S:Nat→Prop} {w wc w2 w3:World} {most:Nat} {os:List Ob} {h:Nat} {vo vo' vc:Value} {tag:List UInt8} {vl:Value} {l:List Vl} (hM:ZX S w most os h vo tag vl l vc wc) (hh:h<w.heap.size) (hSh:S h) (hso:∀k,vo.ownBlock=some k→S k) (hb2:Below wc.heap.size wc w2)
  (hown:(w3.ownsRow 0 92 3 vo' (os.length+1) (Zo 0 os++[.string (za tag),.int .i64 ((zo os).length:Int),.int .i64 ((zo os).length+l.length:Int)])))
  (o:Obj) (hg:(w2.alloc o).grownBy w3 vo.ownBlock) (hat:vo'.ownBlock=vo.ownBlock∨vo'.ownBlock=some (w2.alloc o).heap.size) (hu:os.length+(zo os).length+1+l.length≤most) (hmay:most≤4096) :
  zu S w (w3.setCell ⟨h,2,none⟩ vo')∧yP (fun k=>S k∨w.heap.size≤k) (w3.setCell ⟨h,2,none⟩ vo') most (os++[(tag,l)]) h vo' vc:=by
 obtain ⟨A,G,D,T,I,R⟩:=hM;have K:=I.size;have O:=hb2.size;have M:(w2.alloc o).heap.size=w2.heap.size+1:=by simp
 have E:h<wc.heap.size:=(Array.getElem?_eq_some_iff.1 A).1
 have u:vo.ownBlock≠some h:=fun e=>by
  obtain ⟨z,q⟩:=zj G e;rw [A] at q;simp at q
 have F:vc.ownBlock≠some h:=fun e=>by
  obtain ⟨z,q⟩:=zj D e;rw [A] at q;simp at q
 have B:∀k,vc.ownBlock=some k→vo.ownBlock≠some k:=fun k e e'=>by
  obtain ⟨z,q⟩:=zj G e';obtain ⟨H,y⟩:=zj D e;rw [q] at y;simp at y
 have m:∀k,vo'.ownBlock=some k→vo.ownBlock=some k∨wc.heap.size≤k:=fun k e=>by
  rcases hat with c | c
  ·exact .inl (c.symm.trans e)
  ·rw [e] at c
   have:=Option.some.inj c
   right;omega
 have b:∀k,k<wc.heap.size→vo.ownBlock≠some k→w3.heap[k]?=wc.heap[k]?:=fun k hk hne=>by
  rw [hg.block k (by omega) (fun e=>hne e.symm),Below.heap_alloc _ _ _ (by omega),hb2.block k hk]
 have J:zu S w w3:=(I.trans (zu.of (S:=S) hb2) fun _ _ h=>h).alloc o |>.grown hg fun k e _=>hso k e
 refine ⟨J.set _ (fun _=>hSh),?_⟩
 refine ⟨?_,?_,?_,.inl hSh,fun k e=>?_,fun k e=>R k e,?_,hmay⟩
 ·exact zi _ ((b h E u).trans A)
 ·rw [yV,List.length_append]
  refine zh (w:=w3) ?_ fun k e _=>Below.heap_setCell _ _ _ _ (fun e'=>?_)
  ·simpa using hown
  ·simp only at e'
   subst e';rcases m k e with c | c
   ·exact u c
   ·omega
 ·rw [Zs,List.length_append,xE]
  exact zh D fun k e hk=>(Below.heap_setCell _ _ _ _ (fun e'=>F (by simp only at e';rw [e,e']))).trans (b k hk (B k e))
 ·rcases m k e with c | c
  ·exact .inl (hso k c)
  ·right;omega
 ·rw [Zs,List.length_append,List.length_append,List.length_singleton];simp only;omega
theorem VZ (S T:Nat→Prop) (most:Nat) (os:List Ob) (h:Nat) (vo vc:Value) (o:Ob) (vl:Value) (w:World) (H:yP S w most os h vo vc) (hv:zp T w vl o.2) (ho:Zj o) (hu:os.length+(zo os).length+1+o.2.length≤most) :
  Calls Tryz.prog 21 #[.pointer (some ⟨h,0,none⟩),.agg #[.string (za o.1),vl]] w fun e w'=>e=.returned (.tuple #[])∧zu S w w'∧∃vo' vc',yP (fun k=>S k∨w.heap.size≤k) w' most (os++[o]) h vo' vc':=by
 obtain ⟨i0,aD,az,aE,ax⟩:=info_parts Xd;obtain ⟨j0,am,au,al,ar⟩:=info_parts VH;obtain ⟨q,l⟩:=o;obtain ⟨aC,ag⟩:=ho;simp only at aC ag hv hu;have aj:=H.may;obtain ⟨w1,F⟩:∃w1,w1=w.alloc (.cells #[.string (za q),vl] 49):=⟨_,rfl⟩;have G:Below w.heap.size w w1:=by rw [F];exact (Below.refl _ w).alloc (Nat.le_refl _) _
 have ab:w1.heap.size=w.heap.size+1:=by rw [F];simp
 have I:w1.heap[w.heap.size]?=some (.cells #[.string (za q),vl] 49 (0,0)):=by rw [F];exact World.alloc_heap_new _ _
 have V:yP S w1 most os h vo vc:=H.below G;obtain ⟨D,B,ao,aN,Z⟩:=Zp V.objs;obtain ⟨cb,cc,av,aO,aL⟩:=Zp V.cells;subst ao av;obtain ⟨c0,c1,c2,c3,cf⟩:=Zw V.blk;have aA:=cf 2;have ap:=cf 3;obtain ⟨q0,q1,-⟩:=yK I;have ae:zp T w1 vl l:=hv.kept G.size fun k _ hk=>G.block k hk
 have ah:=V.apart;have ai:=V.lt
 have ca:∀W:World,Below w1.heap.size w1 W→Calls Tryz.prog 34 #[vl] W fun e w2=>∃Y A,e=.returned (.slice (some ⟨Y,0,none⟩) l.length A)∧w2.cell? ⟨h,3,none⟩=some (.slice cb (zo os).length cc) ∧
   Hid (yP S w2 most os h (.slice D os.length B) (.slice cb (zo os).length cc))∧Hid (∀j u,(vlC l)[j]?=some u→w2.cell? ((⟨Y,0,none⟩:Addr).add j)=some u)∧Hid (Below w1.heap.size w1 w2):=fun W hW=>by
  refine (Xe T l vl W (ae.kept hW.size fun k _ hk=>hW.block k hk) ag (by omega)).mono ?_
  rintro e w2 ⟨Y,A,rfl,Z,X⟩;have J:Below w1.heap.size w1 w2:=hW.trans (X.mono hW.size);exact ⟨Y,A,rfl,(zb J ai).trans c3,V.below J,Z.cells rfl,J⟩
 have an:Hid (Below w.heap.size w w1):=G;have M:Below w1.heap.size w1 w1.drew:=(Below.refl _ _).drew;have aa:Hid ((Value.slice cb (zo os).length cc).ownBlock≠some h):=ah.2.1;have aG:=F.symm;have af:h<w.heap.size:=H.lt;have aq:Hid (S h):=H.sh;have aB:Hid (∀k,(Value.slice D os.length B).ownBlock=some k→S k):=H.so;clear hv ae G H V ah F
 go_enter Tryz.func21,Tryz.ntmps21
 go_upto_region 2 with fail
 go_cut [0] (fun p wx=>p=.pointer (some ⟨h,0,none⟩)∧∃c m,ZX S w most os h (.slice D os.length B) q vl l (.slice c ((zo os).length+l.length) m) wx)
 case first =>
  go_region_law (first
   | (refine Z5 (.tmp 14) (.tmp 17) 47 rfl (by rfl) 0 56 i0 _ 3 32 Tryz.underlying47 aD az aE ax rfl (by decide) _ (zo os).length _ rfl O.out.cells ⟨Y,0,none⟩ l.length A (vlC l) rfl (by rw [Yx]) ak.out (Ua l) (by unfold maxLen;omega) (by omega) (Nat.zero_le _) ?_
      intro v3 U b y z;obtain ⟨c,m,rfl,aF,aH⟩:=Zp b;have f3:U.frozen? ⟨h,3,none⟩=false:=(World.frozen?_of_block (y.block h O.out.lt (fun e=>aa.out e.symm))).trans ((Zw O.out.blk).2.2.2.2 3)
      have d3:U.cell? ⟨h,3,none⟩=some (.slice cb (zo os).length cc):=(World.cell?_of_block (y.block h O.out.lt (fun e=>aa.out e.symm))).trans e3
      have HM:Hid (ZX S w most os h (.slice D os.length B) q vl l (.slice c ((zo os).length+l.length) m) (U.setCell ⟨h,3,none⟩ (.slice c ((zo os).length+l.length) m))):=X5 an.out ab af I O.out E.out b y z
      clear b y z)
   | (go_simp
      go_at_call 34
      refine (ca _ M).mono ?_
      rintro e w2 ⟨Y,A,rfl,e3,O,ak,E⟩))
  all_goals (go_wp2_with fail;go_meet)
  all_goals exact ⟨rfl,c,m,HM.out⟩
 case rest =>
  obtain ⟨rfl,c,m,hM⟩:=hcut;have HM:Hid (ZX S w most os h (.slice D os.length B) q vl l (.slice c ((zo os).length+l.length) m) wc):=hM;obtain ⟨m1,m2,-,m4,-,-⟩:=hM;clear c0 c1 c2 c3 cf aA ap q0 q1 ca M;obtain ⟨-,-,c2,c3,cf⟩:=Zw m1;obtain ⟨q0,q1,-⟩:=yK m4;have K:h<wc.heap.size:=(Array.getElem?_eq_some_iff.1 m1).1
  have ad:(Value.slice D os.length B).ownBlock≠some h:=fun e=>by
   obtain ⟨aM,hc⟩:=zj m2 e;rw [m1] at hc;simp at hc
  have ca:∀W:World,Below wc.heap.size wc W→Calls Tryz.prog 35 #[.string (za q)] W fun e w2=>e=.returned (.string (za q))∧w2.cell? ⟨h,2,none⟩=some (.slice D os.length B)∧(∀o,(w2.alloc o).cell? ⟨h,2,none⟩=some (.slice D os.length B))∧w2.cell? ⟨h,3,none⟩=some (.slice c ((zo os).length+l.length) m) ∧
    Hid (w2.heap[h]?=some (.cells #[.bool true,.int .i64 (most:Int),.slice D os.length B,.slice c ((zo os).length+l.length) m] 70 (0,0)))∧Hid (w2.ownsRow 0 92 3 (.slice D os.length B) os.length (Zo 0 os))∧Hid (Below wc.heap.size wc w2):=fun W hW=>by
   refine (yS q W (by omega)).mono ?_
   rintro e w2 ⟨rfl,X⟩;have J:Below wc.heap.size wc w2:=hW.trans (X.mono hW.size);exact ⟨rfl,(zb J K).trans c2,fun o=>Lib.cell?_alloc_some o ((zb J K).trans c2),(zb J K).trans c3,(J.block h K).trans m1,zh m2 fun k _ hk=>J.block k hk,J⟩
  have M:Below wc.heap.size wc wc.drew:=(Below.refl _ _).drew;have ay:Hid ((Value.slice D os.length B).ownBlock≠some h):=ad;clear m1 m2 m4 ad cf;go_wp2_with fail
  go_region_law (first
   | (refine Z5 (.tmp 25) (.tmp 36) 68 rfl (by rfl) 0 92 j0 _ 3 32 Tryz.underlying68 am au al ar rfl (by decide) _ os.length _ rfl (O.out.alloc _) ⟨w2.heap.size,0,none⟩ 1 1 [.string (za q),.int .i64 ((zo os).length:Int),.int .i64 ((zo os).length+l.length:Int)] rfl rfl (yT _ _ _) (by simp [Value.oneCell']) (by unfold maxLen;omega) (by omega) (Nat.zero_le _) ?_
      intro v3 U b y z;obtain ⟨aK,aQ,rfl,aJ,aI⟩:=Zp b;have R:U.heap[h]?=some (.cells #[.bool true,.int .i64 (most:Int),.slice D os.length B,.slice c ((zo os).length+l.length) m] 70 (0,0)):=(y.block h (by have:=E.out.size;simp;omega) (fun e=>ay.out e.symm)).trans ((Below.heap_alloc _ _ _ (by have:=E.out.size;omega)).trans aw.out)
      have f3:U.frozen? ⟨h,2,none⟩=false:=(Zw R).2.2.2.2 2;have d3:U.cell? ⟨h,2,none⟩=some (.slice D os.length B):=(Zw R).2.2.1;have HD:=xP HM.out af aq.out aB.out E.out b _ y z hu aj
      clear b y z R)
   | (go_simp
      go_at_call 35
      refine (ca _ M).mono ?_
      rintro e w2 ⟨rfl,e2,aP,e3,aw,O,E⟩))
  all_goals
   go_wp2
   go_end0
   exact ⟨rfl,HD.1,_,_,HD.2⟩
end Go.Proofs.YtbjndgachcdbcaaGreatDoor
