import Derived.Test.YtpejpbbdgblbeaaGreatDoorMC38
import Derived.Test.YtpejpbbdgblbeaaGreatDoorSDStDo
import Derived.Test.YtpejpbbdgblbeaaGreatDoorMC37
import Derived.Test.YtpejpbbdgblbeaaGreatDoorSProg
namespace Go.Proofs.YtpejpbbdgblbeaaGreatDoor
open Go.RowKit Go.Shelf
set_option maxHeartbeats 16000000
set_option maxRecDepth 100000
theorem zeV (r g F:Nat) (σ:RS) (w:World) (h:zz r g σ w) (hex:yp r g F) (hbl:Xa r g F) (h_let:zO [108,101,116] σ=false) (hi:zO [105,102] σ=true) (qe:Ex × RS) (hqe:Z7 F 0 (false,σ.2.tail)=some qe) (qb:List St × RS) (hqb:yK F qe.2=some qb) (he:zO [101,108,115,101] qb.2=false) :
  Calls Tryz.prog 107 #[.pointer (some ⟨r,0,none⟩)] w (yd r g w (.mk 3 [] [qe.1] qb.1 [] (zx σ.2).line,qb.2)):=by
 obtain ⟨hr,hg⟩:=h.lt;obtain ⟨t,ht⟩:∃t,t=zx σ.2:=⟨_,rfl⟩;have ct:=xO r g σ (w.alloc YR) (h.alloc _);rw [←ht] at ct ⊢;have HBL:Hid (Xa r g F):=hbl;clear hbl;have HH:Hid (zz r g σ w):=h;have HEX:Hid (yp r g F):=hex;have hfl:=Z1;clear ht h hex
 go_enter Tryz.func107,Tryz.ntmps107
 go_wp2_with fail
 refine ct.mono ?_;clear ct;rintro e w1 ⟨rfl,hb1⟩;have hs1:w.heap.size+1≤w1.heap.size:=by have:=hb1.size;simpa using this
 have p1:w1.heap[w.heap.size]?=some YR:=(hb1.block _ (by simp)).trans (World.alloc_heap_new w _)
 have HA:Hid (yE r g w1.heap.size w σ #[.int .i64 0,.string ⟨#[]⟩,.slice none 0 0,.slice none 0 0,.slice none 0 0,.int .i64 t.line] (w1.alloc (.cells #[.int .i64 0,.string ⟨#[]⟩,.slice none 0 0,.slice none 0 0,.slice none 0 0,.int .i64 t.line] 108))):=⟨World.alloc_heap_new _ _,(Below.heap_alloc _ _ _ (by omega)).trans p1,((HH.out.alloc _).below hb1).alloc _,(((zc.refl r w).alloc _).trans (zc.of hb1)).alloc _,by omega⟩
 have hwn:w.heap.size<w1.heap.size:=by omega
 simp only [Xc];clear hb1 HH p1 hs1;have cs:=Zd r g σ [108,101,116] _ HA.out.rd;rw [h_let,zW h_let] at cs;go_wp2_with fail
 refine cs.mono ?_;clear cs;rintro e wA0 ⟨rfl,hk1,hr1⟩;have hC:=HA.out.moved hr hk1 hr1;obtain ⟨N,hN⟩:∃N,N=w1.heap.size:=⟨_,rfl⟩;rw [←hN] at hC hwn ⊢;have Hw0:Hid (yE r g N w σ #[.int .i64 0,.string ⟨#[]⟩,.slice none 0 0,.slice none 0 0,.slice none 0 0,.int .i64 t.line] wA0):=hC;clear hN hC hk1 hr1 HA;have cs:=Zd r g σ [105,102] _ Hw0.out.rd;rw [hi,ZD hi] at cs;go_wp2_with fail
 refine cs.mono ?_;clear cs;rintro e wB ⟨rfl,hk1,hr1⟩;have HwB:Hid (yE r g N w (false,σ.2.tail) #[.int .i64 0,.string ⟨#[]⟩,.slice none 0 0,.slice none 0 0,.slice none 0 0,.int .i64 t.line] wB):=Hw0.out.moved hr hk1 hr1;clear hk1 hr1 Hw0;clear hi h_let;have ce:Calls Tryz.prog 139 #[.pointer (some ⟨r,0,none⟩),.int .i64 0] wB (Zo r g wB qe):=HEX.out F (Nat.le_refl _) 0 _ qe wB (by omega) hqe HwB.out.rd
 clear hqe;go_wp2_with fail
 refine ce.mono ?_;clear ce;rintro e wC ⟨hkE,v,rfl,hx,hrE⟩;obtain ⟨a,b,c,d0,d1,d2,l,rfl⟩:=hx.agg;have HwC:Hid (yE r g N w qe.2 #[.int .i64 0,.string ⟨#[]⟩,.slice none 0 0,.slice none 0 0,.slice none 0 0,.int .i64 t.line] wC):=HwB.out.moved hr hkE hrE;have hND:N<wB.heap.size:=(Array.getElem?_eq_some_iff.1 HwB.out.blkN).1;have hsE:=hkE.size;obtain ⟨wD,hwD⟩:∃wD,wD=wC.alloc (.cells #[.int .i64 a,.string b,.int .i64 c,.slice d0 d1 d2,.int .i64 l] 45):=⟨_,rfl⟩;have HwD:Hid (yE r g N w qe.2 #[.int .i64 0,.string ⟨#[]⟩,.slice none 0 0,.slice none 0 0,.slice none 0 0,.int .i64 t.line] wD):=show yE _ _ _ _ _ _ _ by rw [hwD];exact HwC.out.alloc _
 have HROW:Hid (zv (fun k=>wB.heap.size≤k) wD [qe.1] (.slice (some ⟨wC.heap.size,0,none⟩) 1 1)):=show zv _ _ _ _ by rw [hwD];exact zv.one (S:=fun k=>wB.heap.size≤k) 45 (c:=[.int .i64 a,.string b,.int .i64 c,.slice d0 d1 d2,.int .i64 l]) hx rfl hsE
 have hsD:wC.heap.size≤wD.heap.size:=by rw [hwD];simp
 have hwD':=hwD.symm;clear hkE hx hrE HwC HwB hwD;have cb:=HBL.out F (Nat.le_refl _) _ qb wD hqb HwD.out.rd;clear hqb;go_wp2_with fail
 refine cb.mono ?_;clear cb;rintro e wE ⟨hkB,v,rfl,hsts,hrB⟩;obtain ⟨b0,b1,b2,rfl⟩:=hsts.slice;clear hwD';have HwE:Hid (yE r g N w qb.2 #[.int .i64 0,.string ⟨#[]⟩,.slice none 0 0,.slice none 0 0,.slice none 0 0,.int .i64 t.line] wE):=HwD.out.moved hr hkB hrB;have HROWE:Hid (zv (fun k=>wB.heap.size≤k) wE [qe.1] (.slice (some ⟨wC.heap.size,0,none⟩) 1 1)):=HROW.out.kept hkB.size fun k hk hlt=>hkB.block k hlt (by omega)
 have HSTE:Hid (zD (fun k=>wB.heap.size≤k) wE qb.1 (.slice b0 b1 b2)):=hsts.wide fun k hk=>by omega
 have hsB:=hkB.size;clear hkB hsts hrB HROW HwD;obtain ⟨n0,n1,n2,n3,n4,n5,nf⟩:=zp HwE.out.blkN;have HwF:Hid (yE r g N w qb.2 #[.int .i64 3,.string ⟨#[]⟩,.slice (some ⟨wC.heap.size,0,none⟩) 1 1,.slice b0 b1 b2,.slice none 0 0,.int .i64 t.line] (((wE.setCell ⟨N,0,none⟩ (.int .i64 3)).setCell ⟨N,2,none⟩ (.slice (some ⟨wC.heap.size,0,none⟩) 1 1)).setCell ⟨N,3,none⟩ (.slice b0 b1 b2))):=(((HwE.out.set hr hg 0 (.int .i64 3)).set hr hg 2 (.slice (some ⟨wC.heap.size,0,none⟩) 1 1)).set hr hg 3 (.slice b0 b1 b2));have ck:=Zd r g qb.2 [101,108,115,101] _ HwF.out.rd;have HROWF:Hid (zv (fun k=>wB.heap.size≤k) (((wE.setCell ⟨N,0,none⟩ (.int .i64 3)).setCell ⟨N,2,none⟩ (.slice (some ⟨wC.heap.size,0,none⟩) 1 1)).setCell ⟨N,3,none⟩ (.slice b0 b1 b2)) [qe.1] (.slice (some ⟨wC.heap.size,0,none⟩) 1 1)):=(((HROWE.out.setP (P:=N) (j:=0) (.int .i64 3) fun k hk=>by omega).setP (P:=N) (j:=2) (.slice (some ⟨wC.heap.size,0,none⟩) 1 1) fun k hk=>by omega).setP (P:=N) (j:=3) (.slice b0 b1 b2) fun k hk=>by omega)
 have HSTF:Hid (zD (fun k=>wB.heap.size≤k) (((wE.setCell ⟨N,0,none⟩ (.int .i64 3)).setCell ⟨N,2,none⟩ (.slice (some ⟨wC.heap.size,0,none⟩) 1 1)).setCell ⟨N,3,none⟩ (.slice b0 b1 b2)) qb.1 (.slice b0 b1 b2)):=(((HSTE.out.setP (P:=N) (j:=0) (.int .i64 3) fun k hk=>by omega).setP (P:=N) (j:=2) (.slice (some ⟨wC.heap.size,0,none⟩) 1 1) fun k hk=>by omega).setP (P:=N) (j:=3) (.slice b0 b1 b2) fun k hk=>by omega)
 rw [he,zW he] at ck;go_wp2_with fail
 refine ck.mono ?_;clear ck n0 n1 n2 n3 n4 n5 nf;rintro e wG ⟨rfl,hkG,hrG⟩;have HwG:Hid (yE r g N w qb.2 #[.int .i64 3,.string ⟨#[]⟩,.slice (some ⟨wC.heap.size,0,none⟩) 1 1,.slice b0 b1 b2,.slice none 0 0,.int .i64 t.line] wG):=HwF.out.moved hr hkG hrG;have HROWG:Hid (zv (fun k=>wB.heap.size≤k) wG [qe.1] (.slice (some ⟨wC.heap.size,0,none⟩) 1 1)):=HROWF.out.keptR hkG fun k hk=>by omega
 have HSTG:Hid (zD (fun k=>wB.heap.size≤k) wG qb.1 (.slice b0 b1 b2)):=HSTF.out.keptR hkG fun k hk=>by omega
 have hsG:wB.heap.size≤wG.heap.size:=by have h9:=hkG.size;simp at h9;omega
 clear hkG hrG HwF HwE HROWE HROWF HSTE HSTF he;obtain ⟨n0,n1,n2,n3,n4,n5,nf⟩:=zp HwG.out.blkN;obtain ⟨x0,x1,x2,x3,x4,x5,xf⟩:=zp HwG.out.res;have hNe:¬ w.heap.size=N:=by have:=HwG.out.hN;omega
 have hCE:=HwG.out;obtain ⟨z0,z1,z2,z3,z4,z5,-⟩:=zp (zP hCE.res (.int .i64 3) (.string ⟨#[]⟩) (.slice (some ⟨wC.heap.size,0,none⟩) 1 1) (.slice b0 b1 b2) (.slice none 0 0) (.int .i64 t.line));have HP:Hid (yd r g w _ (.returned (.agg #[.int .i64 3,.string ⟨#[]⟩,.slice (some ⟨wC.heap.size,0,none⟩) 1 1,.slice b0 b1 b2,.slice none 0 0,.int .i64 t.line])) (Yu wG w.heap.size (.int .i64 3) (.string ⟨#[]⟩) (.slice (some ⟨wC.heap.size,0,none⟩) 1 1) (.slice b0 b1 b2) (.slice none 0 0) (.int .i64 t.line))):=hCE.leave (B:=wB.heap.size) hr hg 3 [] t.line (HROWG.out) (HSTG.out) (zD.nil _ _) (by omega)
 clear hCE;go_wp2
 exact bodyPost_ret (v:=.agg #[.int .i64 3,.string ⟨#[]⟩,.slice (some ⟨wC.heap.size,0,none⟩) 1 1,.slice b0 b1 b2,.slice none 0 0,.int .i64 t.line]) (by simp [results,Tryz.results107,go_sem,z0,z1,z2,z3,z4,z5]) rfl HP.out
theorem zeW (r g F:Nat) (σ:RS) (w:World) (h:zz r g σ w) (hex:yp r g F) (hbl:Xa r g F) (h_let:zO [108,101,116] σ=false) (hi:zO [105,102] σ=true) (qe:Ex × RS) (hqe:Z7 F 0 (false,σ.2.tail)=some qe) (qb:List St × RS) (hqb:yK F qe.2=some qb) (he:zO [101,108,115,101] qb.2=true) (qc:List St × RS) (hqc:yK F (false,qb.2.2.tail)=some qc) :
  Calls Tryz.prog 107 #[.pointer (some ⟨r,0,none⟩)] w (yd r g w (.mk 4 [] [qe.1] qb.1 qc.1 (zx σ.2).line,qc.2)):=by
 obtain ⟨hr,hg⟩:=h.lt;obtain ⟨t,ht⟩:∃t,t=zx σ.2:=⟨_,rfl⟩;have ct:=xO r g σ (w.alloc YR) (h.alloc _);rw [←ht] at ct ⊢;have HBL:Hid (Xa r g F):=hbl;clear hbl;have HH:Hid (zz r g σ w):=h;have HEX:Hid (yp r g F):=hex;have hfl:=Z1;clear ht h hex
 go_enter Tryz.func107,Tryz.ntmps107
 go_wp2_with fail
 refine ct.mono ?_;clear ct;rintro e w1 ⟨rfl,hb1⟩;have hs1:w.heap.size+1≤w1.heap.size:=by have:=hb1.size;simpa using this
 have p1:w1.heap[w.heap.size]?=some YR:=(hb1.block _ (by simp)).trans (World.alloc_heap_new w _)
 have HA:Hid (yE r g w1.heap.size w σ #[.int .i64 0,.string ⟨#[]⟩,.slice none 0 0,.slice none 0 0,.slice none 0 0,.int .i64 t.line] (w1.alloc (.cells #[.int .i64 0,.string ⟨#[]⟩,.slice none 0 0,.slice none 0 0,.slice none 0 0,.int .i64 t.line] 108))):=⟨World.alloc_heap_new _ _,(Below.heap_alloc _ _ _ (by omega)).trans p1,((HH.out.alloc _).below hb1).alloc _,(((zc.refl r w).alloc _).trans (zc.of hb1)).alloc _,by omega⟩
 have hwn:w.heap.size<w1.heap.size:=by omega
 simp only [Xc];clear hb1 HH p1 hs1;have cs:=Zd r g σ [108,101,116] _ HA.out.rd;rw [h_let,zW h_let] at cs;go_wp2_with fail
 refine cs.mono ?_;clear cs;rintro e wA0 ⟨rfl,hk1,hr1⟩;have hC:=HA.out.moved hr hk1 hr1;obtain ⟨N,hN⟩:∃N,N=w1.heap.size:=⟨_,rfl⟩;rw [←hN] at hC hwn ⊢;have Hw0:Hid (yE r g N w σ #[.int .i64 0,.string ⟨#[]⟩,.slice none 0 0,.slice none 0 0,.slice none 0 0,.int .i64 t.line] wA0):=hC;clear hN hC hk1 hr1 HA;have cs:=Zd r g σ [105,102] _ Hw0.out.rd;rw [hi,ZD hi] at cs;go_wp2_with fail
 refine cs.mono ?_;clear cs;rintro e wB ⟨rfl,hk1,hr1⟩;have HwB:Hid (yE r g N w (false,σ.2.tail) #[.int .i64 0,.string ⟨#[]⟩,.slice none 0 0,.slice none 0 0,.slice none 0 0,.int .i64 t.line] wB):=Hw0.out.moved hr hk1 hr1;clear hk1 hr1 Hw0;clear hi h_let;have ce:Calls Tryz.prog 139 #[.pointer (some ⟨r,0,none⟩),.int .i64 0] wB (Zo r g wB qe):=HEX.out F (Nat.le_refl _) 0 _ qe wB (by omega) hqe HwB.out.rd
 clear hqe;go_wp2_with fail
 refine ce.mono ?_;clear ce;rintro e wC ⟨hkE,v,rfl,hx,hrE⟩;obtain ⟨a,b,c,d0,d1,d2,l,rfl⟩:=hx.agg;have HwC:Hid (yE r g N w qe.2 #[.int .i64 0,.string ⟨#[]⟩,.slice none 0 0,.slice none 0 0,.slice none 0 0,.int .i64 t.line] wC):=HwB.out.moved hr hkE hrE;have hND:N<wB.heap.size:=(Array.getElem?_eq_some_iff.1 HwB.out.blkN).1;have hsE:=hkE.size;obtain ⟨wD,hwD⟩:∃wD,wD=wC.alloc (.cells #[.int .i64 a,.string b,.int .i64 c,.slice d0 d1 d2,.int .i64 l] 45):=⟨_,rfl⟩;have HwD:Hid (yE r g N w qe.2 #[.int .i64 0,.string ⟨#[]⟩,.slice none 0 0,.slice none 0 0,.slice none 0 0,.int .i64 t.line] wD):=show yE _ _ _ _ _ _ _ by rw [hwD];exact HwC.out.alloc _
 have HROW:Hid (zv (fun k=>wB.heap.size≤k) wD [qe.1] (.slice (some ⟨wC.heap.size,0,none⟩) 1 1)):=show zv _ _ _ _ by rw [hwD];exact zv.one (S:=fun k=>wB.heap.size≤k) 45 (c:=[.int .i64 a,.string b,.int .i64 c,.slice d0 d1 d2,.int .i64 l]) hx rfl hsE
 have hsD:wC.heap.size≤wD.heap.size:=by rw [hwD];simp
 have hwD':=hwD.symm;clear hkE hx hrE HwC HwB hwD;have cb:=HBL.out F (Nat.le_refl _) _ qb wD hqb HwD.out.rd;clear hqb;go_wp2_with fail
 refine cb.mono ?_;clear cb;rintro e wE ⟨hkB,v,rfl,hsts,hrB⟩;obtain ⟨b0,b1,b2,rfl⟩:=hsts.slice;clear hwD';have HwE:Hid (yE r g N w qb.2 #[.int .i64 0,.string ⟨#[]⟩,.slice none 0 0,.slice none 0 0,.slice none 0 0,.int .i64 t.line] wE):=HwD.out.moved hr hkB hrB;have HROWE:Hid (zv (fun k=>wB.heap.size≤k) wE [qe.1] (.slice (some ⟨wC.heap.size,0,none⟩) 1 1)):=HROW.out.kept hkB.size fun k hk hlt=>hkB.block k hlt (by omega)
 have HSTE:Hid (zD (fun k=>wB.heap.size≤k) wE qb.1 (.slice b0 b1 b2)):=hsts.wide fun k hk=>by omega
 have hsB:=hkB.size;clear hkB hsts hrB HROW HwD;obtain ⟨n0,n1,n2,n3,n4,n5,nf⟩:=zp HwE.out.blkN;have HwF:Hid (yE r g N w qb.2 #[.int .i64 3,.string ⟨#[]⟩,.slice (some ⟨wC.heap.size,0,none⟩) 1 1,.slice b0 b1 b2,.slice none 0 0,.int .i64 t.line] (((wE.setCell ⟨N,0,none⟩ (.int .i64 3)).setCell ⟨N,2,none⟩ (.slice (some ⟨wC.heap.size,0,none⟩) 1 1)).setCell ⟨N,3,none⟩ (.slice b0 b1 b2))):=(((HwE.out.set hr hg 0 (.int .i64 3)).set hr hg 2 (.slice (some ⟨wC.heap.size,0,none⟩) 1 1)).set hr hg 3 (.slice b0 b1 b2));have ck:=Zd r g qb.2 [101,108,115,101] _ HwF.out.rd;have HROWF:Hid (zv (fun k=>wB.heap.size≤k) (((wE.setCell ⟨N,0,none⟩ (.int .i64 3)).setCell ⟨N,2,none⟩ (.slice (some ⟨wC.heap.size,0,none⟩) 1 1)).setCell ⟨N,3,none⟩ (.slice b0 b1 b2)) [qe.1] (.slice (some ⟨wC.heap.size,0,none⟩) 1 1)):=(((HROWE.out.setP (P:=N) (j:=0) (.int .i64 3) fun k hk=>by omega).setP (P:=N) (j:=2) (.slice (some ⟨wC.heap.size,0,none⟩) 1 1) fun k hk=>by omega).setP (P:=N) (j:=3) (.slice b0 b1 b2) fun k hk=>by omega)
 have HSTF:Hid (zD (fun k=>wB.heap.size≤k) (((wE.setCell ⟨N,0,none⟩ (.int .i64 3)).setCell ⟨N,2,none⟩ (.slice (some ⟨wC.heap.size,0,none⟩) 1 1)).setCell ⟨N,3,none⟩ (.slice b0 b1 b2)) qb.1 (.slice b0 b1 b2)):=(((HSTE.out.setP (P:=N) (j:=0) (.int .i64 3) fun k hk=>by omega).setP (P:=N) (j:=2) (.slice (some ⟨wC.heap.size,0,none⟩) 1 1) fun k hk=>by omega).setP (P:=N) (j:=3) (.slice b0 b1 b2) fun k hk=>by omega)
 rw [he,ZD he] at ck;go_wp2_with fail
 refine ck.mono ?_;clear ck n0 n1 n2 n3 n4 n5 nf;rintro e wG ⟨rfl,hkG,hrG⟩;have HwG:Hid (yE r g N w (false,qb.2.2.tail) #[.int .i64 3,.string ⟨#[]⟩,.slice (some ⟨wC.heap.size,0,none⟩) 1 1,.slice b0 b1 b2,.slice none 0 0,.int .i64 t.line] wG):=HwF.out.moved hr hkG hrG;have HROWG:Hid (zv (fun k=>wB.heap.size≤k) wG [qe.1] (.slice (some ⟨wC.heap.size,0,none⟩) 1 1)):=HROWF.out.keptR hkG fun k hk=>by omega
 have HSTG:Hid (zD (fun k=>wB.heap.size≤k) wG qb.1 (.slice b0 b1 b2)):=HSTF.out.keptR hkG fun k hk=>by omega
 have hsG:wB.heap.size≤wG.heap.size:=by have h9:=hkG.size;simp at h9;omega
 clear hkG hrG HwF HwE HROWE HROWF HSTE HSTF he;have cb:=HBL.out F (Nat.le_refl _) _ qc wG hqc HwG.out.rd;clear hqc;go_wp2_with fail
 refine cb.mono ?_;clear cb;rintro e wH ⟨hkB,v,rfl,hsts,hrB⟩;obtain ⟨c0,c1,c2,rfl⟩:=hsts.slice;have HwH:Hid (yE r g N w qc.2 #[.int .i64 3,.string ⟨#[]⟩,.slice (some ⟨wC.heap.size,0,none⟩) 1 1,.slice b0 b1 b2,.slice none 0 0,.int .i64 t.line] wH):=HwG.out.moved hr hkB hrB;have HROWH:Hid (zv (fun k=>wB.heap.size≤k) wH [qe.1] (.slice (some ⟨wC.heap.size,0,none⟩) 1 1)):=HROWG.out.keptR hkB fun k hk=>by omega
 have HSTH:Hid (zD (fun k=>wB.heap.size≤k) wH qb.1 (.slice b0 b1 b2)):=HSTG.out.keptR hkB fun k hk=>by omega
 have HSEH:Hid (zD (fun k=>wB.heap.size≤k) wH qc.1 (.slice c0 c1 c2)):=hsts.wide fun k hk=>by omega
 clear hkB hsts hrB HROWG HSTG HwG;obtain ⟨n0,n1,n2,n3,n4,n5,nf⟩:=zp HwH.out.blkN;obtain ⟨x0,x1,x2,x3,x4,x5,xf⟩:=zp HwH.out.res;have hNe:¬ w.heap.size=N:=by have:=HwH.out.hN;omega
 have hCE:=((HwH.out.set hr hg 0 (.int .i64 4)).set hr hg 4 (.slice c0 c1 c2));obtain ⟨z0,z1,z2,z3,z4,z5,-⟩:=zp (zP hCE.res (.int .i64 4) (.string ⟨#[]⟩) (.slice (some ⟨wC.heap.size,0,none⟩) 1 1) (.slice b0 b1 b2) (.slice c0 c1 c2) (.int .i64 t.line));have HP:Hid (yd r g w _ (.returned (.agg #[.int .i64 4,.string ⟨#[]⟩,.slice (some ⟨wC.heap.size,0,none⟩) 1 1,.slice b0 b1 b2,.slice c0 c1 c2,.int .i64 t.line])) (Yu ((wH.setCell ⟨N,0,none⟩ (.int .i64 4)).setCell ⟨N,4,none⟩ (.slice c0 c1 c2)) w.heap.size (.int .i64 4) (.string ⟨#[]⟩) (.slice (some ⟨wC.heap.size,0,none⟩) 1 1) (.slice b0 b1 b2) (.slice c0 c1 c2) (.int .i64 t.line))):=hCE.leave (B:=wB.heap.size) hr hg 4 [] t.line (((HROWH.out.setP (P:=N) (j:=0) (.int .i64 4) fun k hk=>by omega).setP (P:=N) (j:=4) (.slice c0 c1 c2) fun k hk=>by omega)) (((HSTH.out.setP (P:=N) (j:=0) (.int .i64 4) fun k hk=>by omega).setP (P:=N) (j:=4) (.slice c0 c1 c2) fun k hk=>by omega)) (((HSEH.out.setP (P:=N) (j:=0) (.int .i64 4) fun k hk=>by omega).setP (P:=N) (j:=4) (.slice c0 c1 c2) fun k hk=>by omega)) (by omega)
 clear hCE;go_wp2
 exact bodyPost_ret (v:=.agg #[.int .i64 4,.string ⟨#[]⟩,.slice (some ⟨wC.heap.size,0,none⟩) 1 1,.slice b0 b1 b2,.slice c0 c1 c2,.int .i64 t.line]) (by simp [results,Tryz.results107,go_sem,z0,z1,z2,z3,z4,z5]) rfl HP.out
theorem zcc (r g F:Nat) (σ:RS) (w:World) (h:zz r g σ w) (hex:yp r g F) (hbl:Xa r g F) (h_let:zO [108,101,116] σ=false) (h_if:zO [105,102] σ=false) (hi:zO [119,104,105,108,101] σ=true) (qe:Ex × RS) (hqe:Z7 F 0 (false,σ.2.tail)=some qe) (qb:List St × RS) (hqb:yK F qe.2=some qb)  :
  Calls Tryz.prog 107 #[.pointer (some ⟨r,0,none⟩)] w (yd r g w (.mk 5 [] [qe.1] qb.1 [] (zx σ.2).line,qb.2)):=by
 obtain ⟨hr,hg⟩:=h.lt;obtain ⟨t,ht⟩:∃t,t=zx σ.2:=⟨_,rfl⟩;have ct:=xO r g σ (w.alloc YR) (h.alloc _);rw [←ht] at ct ⊢;have HBL:Hid (Xa r g F):=hbl;clear hbl;have HH:Hid (zz r g σ w):=h;have HEX:Hid (yp r g F):=hex;have hfl:=Z1;clear ht h hex
 go_enter Tryz.func107,Tryz.ntmps107
 go_wp2_with fail
 refine ct.mono ?_;clear ct;rintro e w1 ⟨rfl,hb1⟩;have hs1:w.heap.size+1≤w1.heap.size:=by have:=hb1.size;simpa using this
 have p1:w1.heap[w.heap.size]?=some YR:=(hb1.block _ (by simp)).trans (World.alloc_heap_new w _)
 have HA:Hid (yE r g w1.heap.size w σ #[.int .i64 0,.string ⟨#[]⟩,.slice none 0 0,.slice none 0 0,.slice none 0 0,.int .i64 t.line] (w1.alloc (.cells #[.int .i64 0,.string ⟨#[]⟩,.slice none 0 0,.slice none 0 0,.slice none 0 0,.int .i64 t.line] 108))):=⟨World.alloc_heap_new _ _,(Below.heap_alloc _ _ _ (by omega)).trans p1,((HH.out.alloc _).below hb1).alloc _,(((zc.refl r w).alloc _).trans (zc.of hb1)).alloc _,by omega⟩
 have hwn:w.heap.size<w1.heap.size:=by omega
 simp only [Xc];clear hb1 HH p1 hs1;have cs:=Zd r g σ [108,101,116] _ HA.out.rd;rw [h_let,zW h_let] at cs;go_wp2_with fail
 refine cs.mono ?_;clear cs;rintro e wA0 ⟨rfl,hk1,hr1⟩;have hC:=HA.out.moved hr hk1 hr1;obtain ⟨N,hN⟩:∃N,N=w1.heap.size:=⟨_,rfl⟩;rw [←hN] at hC hwn ⊢;have Hw0:Hid (yE r g N w σ #[.int .i64 0,.string ⟨#[]⟩,.slice none 0 0,.slice none 0 0,.slice none 0 0,.int .i64 t.line] wA0):=hC;clear hN hC hk1 hr1 HA;have cs:=Zd r g σ [105,102] _ Hw0.out.rd;rw [h_if,zW h_if] at cs;go_wp2_with fail
 refine cs.mono ?_;clear cs;rintro e wA1 ⟨rfl,hk1,hr1⟩;have Hw1:Hid (yE r g N w σ #[.int .i64 0,.string ⟨#[]⟩,.slice none 0 0,.slice none 0 0,.slice none 0 0,.int .i64 t.line] wA1):=Hw0.out.moved hr hk1 hr1;clear hk1 hr1 Hw0;have cs:=Zd r g σ [119,104,105,108,101] _ Hw1.out.rd;rw [hi,ZD hi] at cs;go_wp2_with fail
 refine cs.mono ?_;clear cs;rintro e wB ⟨rfl,hk1,hr1⟩;have HwB:Hid (yE r g N w (false,σ.2.tail) #[.int .i64 0,.string ⟨#[]⟩,.slice none 0 0,.slice none 0 0,.slice none 0 0,.int .i64 t.line] wB):=Hw1.out.moved hr hk1 hr1;clear hk1 hr1 Hw1;clear hi h_let h_if;have ce:Calls Tryz.prog 139 #[.pointer (some ⟨r,0,none⟩),.int .i64 0] wB (Zo r g wB qe):=HEX.out F (Nat.le_refl _) 0 _ qe wB (by omega) hqe HwB.out.rd
 clear hqe;go_wp2_with fail
 refine ce.mono ?_;clear ce;rintro e wC ⟨hkE,v,rfl,hx,hrE⟩;obtain ⟨a,b,c,d0,d1,d2,l,rfl⟩:=hx.agg;have HwC:Hid (yE r g N w qe.2 #[.int .i64 0,.string ⟨#[]⟩,.slice none 0 0,.slice none 0 0,.slice none 0 0,.int .i64 t.line] wC):=HwB.out.moved hr hkE hrE;have hND:N<wB.heap.size:=(Array.getElem?_eq_some_iff.1 HwB.out.blkN).1;have hsE:=hkE.size;obtain ⟨wD,hwD⟩:∃wD,wD=wC.alloc (.cells #[.int .i64 a,.string b,.int .i64 c,.slice d0 d1 d2,.int .i64 l] 45):=⟨_,rfl⟩;have HwD:Hid (yE r g N w qe.2 #[.int .i64 0,.string ⟨#[]⟩,.slice none 0 0,.slice none 0 0,.slice none 0 0,.int .i64 t.line] wD):=show yE _ _ _ _ _ _ _ by rw [hwD];exact HwC.out.alloc _
 have HROW:Hid (zv (fun k=>wB.heap.size≤k) wD [qe.1] (.slice (some ⟨wC.heap.size,0,none⟩) 1 1)):=show zv _ _ _ _ by rw [hwD];exact zv.one (S:=fun k=>wB.heap.size≤k) 45 (c:=[.int .i64 a,.string b,.int .i64 c,.slice d0 d1 d2,.int .i64 l]) hx rfl hsE
 have hsD:wC.heap.size≤wD.heap.size:=by rw [hwD];simp
 have hwD':=hwD.symm;clear hkE hx hrE HwC HwB hwD;have cb:=HBL.out F (Nat.le_refl _) _ qb wD hqb HwD.out.rd;clear hqb;go_wp2_with fail
 refine cb.mono ?_;clear cb;rintro e wE ⟨hkB,v,rfl,hsts,hrB⟩;obtain ⟨b0,b1,b2,rfl⟩:=hsts.slice;clear hwD';have HwE:Hid (yE r g N w qb.2 #[.int .i64 0,.string ⟨#[]⟩,.slice none 0 0,.slice none 0 0,.slice none 0 0,.int .i64 t.line] wE):=HwD.out.moved hr hkB hrB;have HROWE:Hid (zv (fun k=>wB.heap.size≤k) wE [qe.1] (.slice (some ⟨wC.heap.size,0,none⟩) 1 1)):=HROW.out.kept hkB.size fun k hk hlt=>hkB.block k hlt (by omega)
 have HSTE:Hid (zD (fun k=>wB.heap.size≤k) wE qb.1 (.slice b0 b1 b2)):=hsts.wide fun k hk=>by omega
 have hsB:=hkB.size;clear hkB hsts hrB HROW HwD;obtain ⟨n0,n1,n2,n3,n4,n5,nf⟩:=zp HwE.out.blkN;obtain ⟨x0,x1,x2,x3,x4,x5,xf⟩:=zp HwE.out.res;have hNe:¬ w.heap.size=N:=by have:=HwE.out.hN;omega
 have hCE:=(((HwE.out.set hr hg 0 (.int .i64 5)).set hr hg 2 (.slice (some ⟨wC.heap.size,0,none⟩) 1 1)).set hr hg 3 (.slice b0 b1 b2));obtain ⟨z0,z1,z2,z3,z4,z5,-⟩:=zp (zP hCE.res (.int .i64 5) (.string ⟨#[]⟩) (.slice (some ⟨wC.heap.size,0,none⟩) 1 1) (.slice b0 b1 b2) (.slice none 0 0) (.int .i64 t.line));have HP:Hid (yd r g w _ (.returned (.agg #[.int .i64 5,.string ⟨#[]⟩,.slice (some ⟨wC.heap.size,0,none⟩) 1 1,.slice b0 b1 b2,.slice none 0 0,.int .i64 t.line])) (Yu (((wE.setCell ⟨N,0,none⟩ (.int .i64 5)).setCell ⟨N,2,none⟩ (.slice (some ⟨wC.heap.size,0,none⟩) 1 1)).setCell ⟨N,3,none⟩ (.slice b0 b1 b2)) w.heap.size (.int .i64 5) (.string ⟨#[]⟩) (.slice (some ⟨wC.heap.size,0,none⟩) 1 1) (.slice b0 b1 b2) (.slice none 0 0) (.int .i64 t.line))):=hCE.leave (B:=wB.heap.size) hr hg 5 [] t.line ((((HROWE.out.setP (P:=N) (j:=0) (.int .i64 5) fun k hk=>by omega).setP (P:=N) (j:=2) (.slice (some ⟨wC.heap.size,0,none⟩) 1 1) fun k hk=>by omega).setP (P:=N) (j:=3) (.slice b0 b1 b2) fun k hk=>by omega)) ((((HSTE.out.setP (P:=N) (j:=0) (.int .i64 5) fun k hk=>by omega).setP (P:=N) (j:=2) (.slice (some ⟨wC.heap.size,0,none⟩) 1 1) fun k hk=>by omega).setP (P:=N) (j:=3) (.slice b0 b1 b2) fun k hk=>by omega)) (zD.nil _ _) (by omega)
 clear hCE;go_wp2
 exact bodyPost_ret (v:=.agg #[.int .i64 5,.string ⟨#[]⟩,.slice (some ⟨wC.heap.size,0,none⟩) 1 1,.slice b0 b1 b2,.slice none 0 0,.int .i64 t.line]) (by simp [results,Tryz.results107,go_sem,z0,z1,z2,z3,z4,z5]) rfl HP.out
theorem zdg (r g F:Nat) (σ:RS) (w:World) (h:zz r g σ w) (hex:yp r g F) (h_let:zO [108,101,116] σ=false) (h_if:zO [105,102] σ=false) (h_while:zO [119,104,105,108,101] σ=false) (hi:zO [114,101,116,117,114,110] σ=true) (h59:zO [59] (false,σ.2.tail)=true) :
  Calls Tryz.prog 107 #[.pointer (some ⟨r,0,none⟩)] w (yd r g w (.mk 6 [] [] [] [] (zx σ.2).line,mustF [59] (false,σ.2.tail))):=by
 obtain ⟨hr,hg⟩:=h.lt;obtain ⟨t,ht⟩:∃t,t=zx σ.2:=⟨_,rfl⟩;have ct:=xO r g σ (w.alloc YR) (h.alloc _);rw [←ht] at ct ⊢;have HH:Hid (zz r g σ w):=h;have HEX:Hid (yp r g F):=hex;have hfl:=Z1;clear ht h hex
 go_enter Tryz.func107,Tryz.ntmps107
 go_wp2_with fail
 refine ct.mono ?_;clear ct;rintro e w1 ⟨rfl,hb1⟩;have hs1:w.heap.size+1≤w1.heap.size:=by have:=hb1.size;simpa using this
 have p1:w1.heap[w.heap.size]?=some YR:=(hb1.block _ (by simp)).trans (World.alloc_heap_new w _)
 have HA:Hid (yE r g w1.heap.size w σ #[.int .i64 0,.string ⟨#[]⟩,.slice none 0 0,.slice none 0 0,.slice none 0 0,.int .i64 t.line] (w1.alloc (.cells #[.int .i64 0,.string ⟨#[]⟩,.slice none 0 0,.slice none 0 0,.slice none 0 0,.int .i64 t.line] 108))):=⟨World.alloc_heap_new _ _,(Below.heap_alloc _ _ _ (by omega)).trans p1,((HH.out.alloc _).below hb1).alloc _,(((zc.refl r w).alloc _).trans (zc.of hb1)).alloc _,by omega⟩
 have hwn:w.heap.size<w1.heap.size:=by omega
 simp only [Xc];clear hb1 HH p1 hs1;have cs:=Zd r g σ [108,101,116] _ HA.out.rd;rw [h_let,zW h_let] at cs;go_wp2_with fail
 refine cs.mono ?_;clear cs;rintro e wA0 ⟨rfl,hk1,hr1⟩;have hC:=HA.out.moved hr hk1 hr1;obtain ⟨N,hN⟩:∃N,N=w1.heap.size:=⟨_,rfl⟩;rw [←hN] at hC hwn ⊢;have Hw0:Hid (yE r g N w σ #[.int .i64 0,.string ⟨#[]⟩,.slice none 0 0,.slice none 0 0,.slice none 0 0,.int .i64 t.line] wA0):=hC;clear hN hC hk1 hr1 HA;have cs:=Zd r g σ [105,102] _ Hw0.out.rd;rw [h_if,zW h_if] at cs;go_wp2_with fail
 refine cs.mono ?_;clear cs;rintro e wA1 ⟨rfl,hk1,hr1⟩;have Hw1:Hid (yE r g N w σ #[.int .i64 0,.string ⟨#[]⟩,.slice none 0 0,.slice none 0 0,.slice none 0 0,.int .i64 t.line] wA1):=Hw0.out.moved hr hk1 hr1;clear hk1 hr1 Hw0;have cs:=Zd r g σ [119,104,105,108,101] _ Hw1.out.rd;rw [h_while,zW h_while] at cs;go_wp2_with fail
 refine cs.mono ?_;clear cs;rintro e wA2 ⟨rfl,hk1,hr1⟩;have Hw2:Hid (yE r g N w σ #[.int .i64 0,.string ⟨#[]⟩,.slice none 0 0,.slice none 0 0,.slice none 0 0,.int .i64 t.line] wA2):=Hw1.out.moved hr hk1 hr1;clear hk1 hr1 Hw1;have cs:=Zd r g σ [114,101,116,117,114,110] _ Hw2.out.rd;rw [hi,ZD hi] at cs;go_wp2_with fail
 refine cs.mono ?_;clear cs;rintro e wB ⟨rfl,hk1,hr1⟩;have HwB:Hid (yE r g N w (false,σ.2.tail) #[.int .i64 0,.string ⟨#[]⟩,.slice none 0 0,.slice none 0 0,.slice none 0 0,.int .i64 t.line] wB):=Hw2.out.moved hr hk1 hr1;clear hk1 hr1 Hw2;obtain ⟨n0,n1,n2,n3,n4,n5,nf⟩:=zp HwB.out.blkN;have HwB2:Hid (yE r g N w (false,σ.2.tail) #[.int .i64 6,.string ⟨#[]⟩,.slice none 0 0,.slice none 0 0,.slice none 0 0,.int .i64 t.line] (wB.setCell ⟨N,0,none⟩ (.int .i64 6))):=HwB.out.set hr hg 0 (.int .i64 6);have ci:=zc0 r g (false,σ.2.tail) [59] _ HwB2.out.rd;rw [h59] at ci;go_wp2_with fail
 refine ci.mono ?_;clear ci n0 n1 n2 n3 n4 n5 nf;rintro e wC ⟨rfl,hbC⟩;have HwC:Hid (yE r g N w (false,σ.2.tail) #[.int .i64 6,.string ⟨#[]⟩,.slice none 0 0,.slice none 0 0,.slice none 0 0,.int .i64 t.line] wC):=HwB2.out.below hbC;clear hbC HwB HwB2 hi h_let h_if h_while h59;have cm:=yD r g (false,σ.2.tail) [59] _ HwC.out.rd;go_wp2_with fail
 refine cm.mono ?_;clear cm;rintro e wD ⟨rfl,hkM,hrM⟩;have HwD:Hid (yE r g N w (mustF [59] (false,σ.2.tail)) #[.int .i64 6,.string ⟨#[]⟩,.slice none 0 0,.slice none 0 0,.slice none 0 0,.int .i64 t.line] wD):=HwC.out.moved hr hkM hrM;clear hkM hrM HwC HEX;obtain ⟨n0,n1,n2,n3,n4,n5,nf⟩:=zp HwD.out.blkN;obtain ⟨x0,x1,x2,x3,x4,x5,xf⟩:=zp HwD.out.res;have hNe:¬ w.heap.size=N:=by have:=HwD.out.hN;omega
 have hCE:=HwD.out;obtain ⟨z0,z1,z2,z3,z4,z5,-⟩:=zp (zP hCE.res (.int .i64 6) (.string ⟨#[]⟩) (.slice none 0 0) (.slice none 0 0) (.slice none 0 0) (.int .i64 t.line));have HP:Hid (yd r g w _ (.returned (.agg #[.int .i64 6,.string ⟨#[]⟩,.slice none 0 0,.slice none 0 0,.slice none 0 0,.int .i64 t.line])) (Yu wD w.heap.size (.int .i64 6) (.string ⟨#[]⟩) (.slice none 0 0) (.slice none 0 0) (.slice none 0 0) (.int .i64 t.line))):=hCE.leave (B:=w.heap.size+1) hr hg 6 [] t.line (.inl ⟨rfl,rfl⟩) (zD.nil _ _) (zD.nil _ _) (by omega)
 clear hCE;go_wp2
 exact bodyPost_ret (v:=.agg #[.int .i64 6,.string ⟨#[]⟩,.slice none 0 0,.slice none 0 0,.slice none 0 0,.int .i64 t.line]) (by simp [results,Tryz.results107,go_sem,z0,z1,z2,z3,z4,z5]) rfl HP.out
theorem zdh (r g F:Nat) (σ:RS) (w:World) (h:zz r g σ w) (hex:yp r g F) (h_let:zO [108,101,116] σ=false) (h_if:zO [105,102] σ=false) (h_while:zO [119,104,105,108,101] σ=false) (hi:zO [114,101,116,117,114,110] σ=true) (h59:zO [59] (false,σ.2.tail)=false) (qe:Ex × RS) (hqe:Z7 F 0 (false,σ.2.tail)=some qe) :
  Calls Tryz.prog 107 #[.pointer (some ⟨r,0,none⟩)] w (yd r g w (.mk 6 [] [qe.1] [] [] (zx σ.2).line,mustF [59] qe.2)):=by
 obtain ⟨hr,hg⟩:=h.lt;obtain ⟨t,ht⟩:∃t,t=zx σ.2:=⟨_,rfl⟩;have ct:=xO r g σ (w.alloc YR) (h.alloc _);rw [←ht] at ct ⊢;have HH:Hid (zz r g σ w):=h;have HEX:Hid (yp r g F):=hex;have hfl:=Z1;clear ht h hex
 go_enter Tryz.func107,Tryz.ntmps107
 go_wp2_with fail
 refine ct.mono ?_;clear ct;rintro e w1 ⟨rfl,hb1⟩;have hs1:w.heap.size+1≤w1.heap.size:=by have:=hb1.size;simpa using this
 have p1:w1.heap[w.heap.size]?=some YR:=(hb1.block _ (by simp)).trans (World.alloc_heap_new w _)
 have HA:Hid (yE r g w1.heap.size w σ #[.int .i64 0,.string ⟨#[]⟩,.slice none 0 0,.slice none 0 0,.slice none 0 0,.int .i64 t.line] (w1.alloc (.cells #[.int .i64 0,.string ⟨#[]⟩,.slice none 0 0,.slice none 0 0,.slice none 0 0,.int .i64 t.line] 108))):=⟨World.alloc_heap_new _ _,(Below.heap_alloc _ _ _ (by omega)).trans p1,((HH.out.alloc _).below hb1).alloc _,(((zc.refl r w).alloc _).trans (zc.of hb1)).alloc _,by omega⟩
 have hwn:w.heap.size<w1.heap.size:=by omega
 simp only [Xc];clear hb1 HH p1 hs1;have cs:=Zd r g σ [108,101,116] _ HA.out.rd;rw [h_let,zW h_let] at cs;go_wp2_with fail
 refine cs.mono ?_;clear cs;rintro e wA0 ⟨rfl,hk1,hr1⟩;have hC:=HA.out.moved hr hk1 hr1;obtain ⟨N,hN⟩:∃N,N=w1.heap.size:=⟨_,rfl⟩;rw [←hN] at hC hwn ⊢;have Hw0:Hid (yE r g N w σ #[.int .i64 0,.string ⟨#[]⟩,.slice none 0 0,.slice none 0 0,.slice none 0 0,.int .i64 t.line] wA0):=hC;clear hN hC hk1 hr1 HA;have cs:=Zd r g σ [105,102] _ Hw0.out.rd;rw [h_if,zW h_if] at cs;go_wp2_with fail
 refine cs.mono ?_;clear cs;rintro e wA1 ⟨rfl,hk1,hr1⟩;have Hw1:Hid (yE r g N w σ #[.int .i64 0,.string ⟨#[]⟩,.slice none 0 0,.slice none 0 0,.slice none 0 0,.int .i64 t.line] wA1):=Hw0.out.moved hr hk1 hr1;clear hk1 hr1 Hw0;have cs:=Zd r g σ [119,104,105,108,101] _ Hw1.out.rd;rw [h_while,zW h_while] at cs;go_wp2_with fail
 refine cs.mono ?_;clear cs;rintro e wA2 ⟨rfl,hk1,hr1⟩;have Hw2:Hid (yE r g N w σ #[.int .i64 0,.string ⟨#[]⟩,.slice none 0 0,.slice none 0 0,.slice none 0 0,.int .i64 t.line] wA2):=Hw1.out.moved hr hk1 hr1;clear hk1 hr1 Hw1;have cs:=Zd r g σ [114,101,116,117,114,110] _ Hw2.out.rd;rw [hi,ZD hi] at cs;go_wp2_with fail
 refine cs.mono ?_;clear cs;rintro e wB ⟨rfl,hk1,hr1⟩;have HwB:Hid (yE r g N w (false,σ.2.tail) #[.int .i64 0,.string ⟨#[]⟩,.slice none 0 0,.slice none 0 0,.slice none 0 0,.int .i64 t.line] wB):=Hw2.out.moved hr hk1 hr1;clear hk1 hr1 Hw2;obtain ⟨n0,n1,n2,n3,n4,n5,nf⟩:=zp HwB.out.blkN;have HwB2:Hid (yE r g N w (false,σ.2.tail) #[.int .i64 6,.string ⟨#[]⟩,.slice none 0 0,.slice none 0 0,.slice none 0 0,.int .i64 t.line] (wB.setCell ⟨N,0,none⟩ (.int .i64 6))):=HwB.out.set hr hg 0 (.int .i64 6);have ci:=zc0 r g (false,σ.2.tail) [59] _ HwB2.out.rd;rw [h59] at ci;go_wp2_with fail
 refine ci.mono ?_;clear ci n0 n1 n2 n3 n4 n5 nf;rintro e wC ⟨rfl,hbC⟩;have HwC:Hid (yE r g N w (false,σ.2.tail) #[.int .i64 6,.string ⟨#[]⟩,.slice none 0 0,.slice none 0 0,.slice none 0 0,.int .i64 t.line] wC):=HwB2.out.below hbC;clear hbC HwB HwB2 hi h_let h_if h_while h59;have ce:Calls Tryz.prog 139 #[.pointer (some ⟨r,0,none⟩),.int .i64 0] wC (Zo r g wC qe):=HEX.out F (Nat.le_refl _) 0 _ qe wC (by omega) hqe HwC.out.rd
 clear hqe;go_wp2_with fail
 refine ce.mono ?_;clear ce;rintro e wE ⟨hkE,v,rfl,hx,hrE⟩;obtain ⟨a,b,c,d0,d1,d2,l,rfl⟩:=hx.agg;have HwE:Hid (yE r g N w qe.2 #[.int .i64 6,.string ⟨#[]⟩,.slice none 0 0,.slice none 0 0,.slice none 0 0,.int .i64 t.line] wE):=HwC.out.moved hr hkE hrE;have hND:N<wC.heap.size:=(Array.getElem?_eq_some_iff.1 HwC.out.blkN).1;have hsE:=hkE.size;have hNE:N<wE.heap.size:=by omega
 obtain ⟨hF1,hF2⟩:=HwE.out.one (xs:=[.int .i64 a,.string b,.int .i64 c,.slice d0 d1 d2,.int .i64 l]) hr hg hx rfl hND hsE;obtain ⟨wF,hwF⟩:∃wF,wF=(wE.setCell ⟨N,2,none⟩ (.slice (some ⟨wE.heap.size,0,none⟩) 1 1)).alloc (.cells #[.int .i64 a,.string b,.int .i64 c,.slice d0 d1 d2,.int .i64 l] 45):=⟨_,rfl⟩;have HwF:Hid (yE r g N w qe.2 #[.int .i64 6,.string ⟨#[]⟩,.slice (some ⟨wE.heap.size,0,none⟩) 1 1,.slice none 0 0,.slice none 0 0,.int .i64 t.line] wF):=show yE _ _ _ _ _ _ _ by rw [hwF];exact hF1
 have HROW:Hid (zv (fun k=>wC.heap.size≤k) wF [qe.1] (.slice (some ⟨wE.heap.size,0,none⟩) 1 1)):=show zv _ _ _ _ by rw [hwF];exact hF2
 obtain ⟨g0,g1,g2,g3,g4,g5,gf⟩:=zp HwE.out.blkN;have g2':=ze g2;have gf2:wE.frozen? ⟨N,2,none⟩=false:=gf 2;have gf2':∀ob,(wE.alloc ob).frozen? ⟨N,2,none⟩=false:=fun ob=>(zp (HwE.out.alloc ob).blkN).2.2.2.2.2.2 2
 have hwF':=hwF.symm;clear hF1 hF2 hwF hkE hx hrE g0 g1 g3 g4 g5 gf;have cm:=yD r g qe.2 [59] _ HwF.out.rd;go_wp2_with fail
 refine cm.mono ?_;clear cm hwF' g2 g2' gf2 gf2';rintro e wG ⟨rfl,hkM,hrM⟩;have HwG:Hid (yE r g N w (mustF [59] qe.2) #[.int .i64 6,.string ⟨#[]⟩,.slice (some ⟨wE.heap.size,0,none⟩) 1 1,.slice none 0 0,.slice none 0 0,.int .i64 t.line] wG):=HwF.out.moved hr hkM hrM;have HROWG:Hid (zv (fun k=>wC.heap.size≤k) wG [qe.1] (.slice (some ⟨wE.heap.size,0,none⟩) 1 1)):=HROW.out.kept hkM.size fun k hk hlt=>hkM.block k hlt (by omega)
 clear hkM hrM HROW HwF;obtain ⟨n0,n1,n2,n3,n4,n5,nf⟩:=zp HwG.out.blkN;obtain ⟨x0,x1,x2,x3,x4,x5,xf⟩:=zp HwG.out.res;have hNe:¬ w.heap.size=N:=by have:=HwG.out.hN;omega
 have hCE:=HwG.out;obtain ⟨z0,z1,z2,z3,z4,z5,-⟩:=zp (zP hCE.res (.int .i64 6) (.string ⟨#[]⟩) (.slice (some ⟨wE.heap.size,0,none⟩) 1 1) (.slice none 0 0) (.slice none 0 0) (.int .i64 t.line));have HP:Hid (yd r g w _ (.returned (.agg #[.int .i64 6,.string ⟨#[]⟩,.slice (some ⟨wE.heap.size,0,none⟩) 1 1,.slice none 0 0,.slice none 0 0,.int .i64 t.line])) (Yu wG w.heap.size (.int .i64 6) (.string ⟨#[]⟩) (.slice (some ⟨wE.heap.size,0,none⟩) 1 1) (.slice none 0 0) (.slice none 0 0) (.int .i64 t.line))):=hCE.leave (B:=wC.heap.size) hr hg 6 [] t.line (HROWG.out) (zD.nil _ _) (zD.nil _ _) (by omega)
 clear hCE;go_wp2
 exact bodyPost_ret (v:=.agg #[.int .i64 6,.string ⟨#[]⟩,.slice (some ⟨wE.heap.size,0,none⟩) 1 1,.slice none 0 0,.slice none 0 0,.int .i64 t.line]) (by simp [results,Tryz.results107,go_sem,z0,z1,z2,z3,z4,z5]) rfl HP.out
theorem zic (r g F:Nat) (σ:RS) (w:World) (q:St × RS) (h:zz r g σ w) (hq:Xu (F+1) σ=some q) (hex:yp r g F) (hbl:Xa r g F) :
  Calls Tryz.prog 107 #[.pointer (some ⟨r,0,none⟩)] w (yd r g w q):=by
 rw [Xu] at hq
 split at hq
 ·rename_i h1
  obtain ⟨qe,h2,h3⟩:=Z9 hq;obtain rfl:=Option.some.inj h3;exact zeU r g F σ w h hex h1 qe h2
 rename_i n1
 have n1':=(Bool.not_eq_true _).mp n1
 split at hq
 ·rename_i h1
  obtain ⟨qe,h2,hq⟩:=Z9 hq;obtain ⟨qb,h3,hq⟩:=Z9 hq
  split at hq
  ·rename_i h4
   obtain ⟨qc,h5,hq⟩:=Z9 hq;obtain rfl:=Option.some.inj hq;exact zeW r g F σ w h hex hbl n1' h1 qe h2 qb h3 h4 qc h5
  ·rename_i h4
   obtain rfl:=Option.some.inj hq;exact zeV r g F σ w h hex hbl n1' h1 qe h2 qb h3 ((Bool.not_eq_true _).mp h4)
 rename_i n2
 have n2':=(Bool.not_eq_true _).mp n2
 split at hq
 ·rename_i h1
  obtain ⟨qe,h2,hq⟩:=Z9 hq;obtain ⟨qb,h3,hq⟩:=Z9 hq;obtain rfl:=Option.some.inj hq;exact zcc r g F σ w h hex hbl n1' n2' h1 qe h2 qb h3
 rename_i n3
 have n3':=(Bool.not_eq_true _).mp n3
 split at hq
 ·rename_i h1
  split at hq
  ·rename_i h2
   obtain rfl:=Option.some.inj hq;have h5:zO [59] (false,σ.2.tail)=true:=by rw [Z4];exact h2
   have:=zdg r g F σ w h hex n1' n2' n3' h1 h5
   rw [show mustF [59] (false,σ.2.tail)=(false,σ.2.tail.tail) by simp only [mustF,h5,if_true]] at this
   exact this
  ·rename_i h2
   obtain ⟨qe,h3,hq⟩:=Z9 hq;obtain rfl:=Option.some.inj hq;exact zdh r g F σ w h hex n1' n2' n3' h1 (by rw [Z4];exact (Bool.not_eq_true _).mp h2) qe h3
 rename_i n4
 have n4':=(Bool.not_eq_true _).mp n4;obtain ⟨qe,h2,hq⟩:=Z9 hq
 split at hq
 ·rename_i h3
  obtain ⟨q2,h4,hq⟩:=Z9 hq;obtain rfl:=Option.some.inj hq;cases hp:YQ qe.1
  ·rw [hp,if_neg (by simp)] at h4
   exact zeS r g F σ w h hex n1' n2' n3' n4' qe h2 h3 hp q2 h4
  ·rw [hp,if_pos rfl] at h4
   exact zeR r g F σ w h hex n1' n2' n3' n4' qe h2 h3 hp q2 h4
 ·rename_i h3
  obtain rfl:=Option.some.inj hq;exact zeQ r g F σ w h hex n1' n2' n3' n4' qe h2 ((Bool.not_eq_true _).mp h3)
theorem zdP (r g:Nat):∀F,zib r g F∧Xa r g F
 | 0=>by
  refine ⟨fun k hk σ q w hq h=>?_,fun k hk σ q w hq h=>?_⟩ <;> (obtain rfl:k=0:=by omega) <;> simp [Xu,yK] at hq
 | F+1=>by
  obtain ⟨i1,i2⟩:=zdP r g F;have up:∀k,k≤F+1→k≤F∨k=F+1:=fun k h=>by omega
  refine ⟨fun k hk σ q w hq h=>?_,fun k hk σ q w hq h=>?_⟩
  ·rcases up k hk with h1 | rfl
   ·exact i1 k h1 σ q w hq h
   ·exact zic r g F σ w q h hq (zdN r g F).1 i2
  ·rcases up k hk with h1 | rfl
   ·exact i2 k h1 σ q w hq h
   ·exact zg9 r g F σ w q h hq i1
def zdi (r g:Nat) (w:World) (q:Pg × RS) (e:Ending) (w':World):Prop:=zc r w w'∧∃v,e=.returned v∧xy (fun k=>w.heap.size≤k) w' q.1 v∧zz r g q.2 w'
structure Vn (r g N:Nat) (w:World) (σ:RS) (c:Array Value) (W:World):Prop where
 blk:W.heap[N]?=some (.cells c 72 (0,0))
 rd:zz r g σ W
 kept:zc r w W
 hN:w.heap.size≤N
theorem Vn.moved {r g N:Nat} {w W W':World} {σ σ':RS} {c:Array Value} (h:Vn r g N w σ c W) (hr:r<w.heap.size) (hK:zc r W W') (hrd:zz r g σ' W'):Vn r g N w σ' c W' where
 blk:=(hK.block _ (Array.getElem?_eq_some_iff.1 h.blk).1 (by have:=h.hN;omega)).trans h.blk
 rd:=hrd
 kept:=h.kept.trans hK
 hN:=h.hN
theorem Vn.set {r g N:Nat} {w W:World} {σ:RS} {c:Array Value} (h:Vn r g N w σ c W) (hr:r<w.heap.size) (hg:g<w.heap.size) (j:Nat) (v:Value):Vn r g N w σ (c.setIfInBounds j v) (W.setCell ⟨N,j,none⟩ v) where
 blk:=zm v h.blk
 rd:=h.rd.far (by have:=h.hN;omega) (by have:=h.hN;omega) j v
 kept:=h.kept.far h.hN j v
 hN:=h.hN
theorem Vn.below {r g N:Nat} {w W W':World} {σ:RS} {c:Array Value} (h:Vn r g N w σ c W) (hb:Below W.heap.size W W'):Vn r g N w σ c W' where
 blk:=(hb.block _ (Array.getElem?_eq_some_iff.1 h.blk).1).trans h.blk
 rd:=h.rd.below hb
 kept:=h.kept.trans (zc.of hb)
 hN:=h.hN
theorem Yz.keptR {S:Nat→Prop} {r:Nat} {w w':World} {l:List Pm} {v:Value} (h:Yz S w l v) (hk:zc r w w') (hS:∀k,S k→k≠r):Yz S w' l v:=h.kept yj hk.size fun k hs hlt=>hk.block k hlt (hS k hs)
theorem Yz.setP {S:Nat→Prop} {P j:Nat} {w:World} {l:List Pm} {v:Value} (h:Yz S w l v) (u:Value) (hS:∀k,S k→k≠P):Yz S (w.setCell ⟨P,j,none⟩ u) l v:=h.kept yj (by simp) fun k hs _=>Below.heap_setCell _ _ _ _ (by simpa using hS k hs)
theorem zeX {f line:Nat} {ts:List Tk} {q:Fc × RS} (h:VG f line (true,ts)=some q):q.2.1=true:=by
 by_cases hf:2≤f
 ·rw [Q5 ts f line hf] at h
  obtain rfl:=Option.some.inj h;rfl
 ·unfold VG at h
  obtain ⟨_,_,h⟩:=Z9 h;obtain ⟨_,_,h⟩:=Z9 h;obtain ⟨_,h3,_⟩:=Z9 h
  match f,hf with
  | 0,_=>simp [yK] at h3
  | 1,_=>simp [yK,Yv] at h3
  | n+2,hf=>omega
theorem Yz.slice {S:Nat→Prop} {w:World} {l:List Pm} {v:Value} (h:Yz S w l v):∃d0 d1 d2,v=.slice d0 d1 d2:=by
 obtain ⟨b,c,rfl⟩:=vd.slice h;exact ⟨_,_,_,rfl⟩
structure PgD (r g:Nat) (w:World) (q:Pg × RS) (wr:World):Prop where
 ex:∃(rs:List Rc) (fs:List Fc) (vr vf:Value) (σ:RS) (f:Nat),XI f rs fs σ=some q∧SmT σ.2∧rs.length+fs.length+σ.2.length+(if σ.1=true then 0 else 1)≤1099511627777∧wr.heap[w.heap.size]?=some xg∧wr.heap[w.heap.size+1]?=some (vF vr vf)∧yg (w.heap.size+2) wr rs fs vr vf∧zz r g σ wr∧zc r w wr
theorem PgD.addR {r g P f3:Nat} {w w6 w7 w9:World} {q:Pg × RS} {rs:List Rc} {fs:List Fc} {vr vf v':Value} {x:Rc} {c:List Value} {σ:RS} {ob:Obj} {lus:List (List Value)} (hP:P=w.heap.size+1) (hK6:zc r w w6) (b6:w6.heap[w.heap.size]?=some xg) (p6:w6.heap[P]?=some (vF vr vf)) (hpg7:yg (w.heap.size+2) w7 rs fs vr vf) (hbr:∀q,vr.ownBlock=some q→w.heap.size+2≤q∧q<w6.heap.size) (hbf:∀q,vf.ownBlock=some q→q<w6.heap.size)
  (hnext:∀{w':World} {v':Value} {x:Rc} {c:List Value} {ob:Obj} {N:Nat},EX RcE (fun k=>vf.ownBlock≠some k) (fun k=>N≤k) w7 x c→w.heap.size+2≤N→(∀q,vr.ownBlock=some q→q<N)→c.length=3→w'.ownsRow (w.heap.size+2) 74 3 v' (rs.length+1) (lus.flatten++c)→(w7.alloc ob).grownBy w' vr.ownBlock→(v'.ownBlock=vr.ownBlock∨v'.ownBlock=some (w7.alloc ob).heap.size)→Z6 (EX RcE fun k=>vf.ownBlock≠some k) 3 74 (w.heap.size+2) w' (rs++[x]) v')
  (hr:r<w.heap.size) (hg:g<w.heap.size) (hk7:zc r w6 w7) (hx7:RcE (fun k=>w6.heap.size≤k) w7 x c) (hc:c.length=3) (hrd7:zz r g σ w7) (ho:w9.ownsRow (w.heap.size+2) 74 3 v' (rs.length+1) (lus.flatten++c)) (hgr:(w7.alloc ob).grownBy w9 vr.ownBlock) (hat:v'.ownBlock=vr.ownBlock∨v'.ownBlock=some (w7.alloc ob).heap.size)
  (hp:XI f3 (rs++[x]) fs σ=some q) (hM:SmT σ.2) (hn:rs.length+1+fs.length+σ.2.length+(if σ.1=true then 0 else 1)≤1099511627777):PgD r g w q (w9.setCell ⟨P,0,none⟩ v')∧Z8 r (w9.setCell ⟨P,0,none⟩ v')=σ.2.length∧badN r (w9.setCell ⟨P,0,none⟩ v')=if σ.1=true then 0 else 1:=by
 subst hP;have hs7:=hk7.size;have hP6:w.heap.size+1<w6.heap.size:=(Array.getElem?_eq_some_iff.1 p6).1;have hkeep:∀k,vr.ownBlock≠some k→k<w7.heap.size→w9.heap[k]?=w7.heap[k]?:=fun k hk hlt=>(hgr.block k (by simp;omega) (fun e=>hk e.symm)).trans (Below.heap_alloc _ _ _ hlt)
 have hnr:∀k,k<w.heap.size+2→vr.ownBlock≠some k:=fun k hk e=>by have:=(hbr k e).1;omega
 have p9:w9.heap[w.heap.size+1]?=some (vF vr vf):=(hkeep _ (hnr _ (by omega)) (by omega)).trans ((hk7.block _ hP6 (by omega)).trans p6)
 have k9:zc r w w9:=((hK6.trans hk7).alloc ob).grown hgr fun k hk=>by have:=(hbr k hk).1;omega
 have hrd9:zz r g σ (w9.setCell ⟨w.heap.size+1,0,none⟩ v'):=(hrd7.keep (hkeep r (hnr r (by omega)) (by omega)) (hkeep g (hnr g (by omega)) (by omega))).far (by omega) (by omega) _ _
 have hpg9:yg (w.heap.size+2) w9 (rs++[x]) fs v' vf:=hpg7.addR hnext hx7 (by omega) (fun q hq=>(hbr q hq).2) hbf (fun q hq=>by have:=hbf q hq;omega) hc ho hgr hat
 refine ⟨⟨⟨rs++[x],fs,v',vf,σ,f3,hp,hM,by simp only [List.length_append,List.length_cons,List.length_nil];omega,?_,zm _ p9,hpg9.kept (by simp) fun k hk _=>Below.heap_setCell _ _ _ _ (by simp;omega),hrd9,k9.setOther (by simp) _⟩⟩,hrd9.left,hrd9.badN⟩
 rw [Below.heap_setCell _ _ _ _ (by simp)]
 exact (hkeep _ (hnr _ (by omega)) (by omega)).trans ((hk7.block _ (by omega) (by omega)).trans b6)
theorem PgD.addF {r g P f3:Nat} {w w6 w7 w9:World} {q:Pg × RS} {rs:List Rc} {fs:List Fc} {vr vf v':Value} {x:Fc} {c:List Value} {σ:RS} {ob:Obj} {lus:List (List Value)} (hP:P=w.heap.size+1) (hK6:zc r w w6) (b6:w6.heap[w.heap.size]?=some xg) (p6:w6.heap[P]?=some (vF vr vf)) (hpg7:yg (w.heap.size+2) w7 rs fs vr vf) (hbr:∀q,vf.ownBlock=some q→w.heap.size+2≤q∧q<w6.heap.size) (hbf:∀q,vr.ownBlock=some q→q<w6.heap.size)
  (hnext:∀{w':World} {v':Value} {x:Fc} {c:List Value} {ob:Obj} {N:Nat},EX FcE (fun k=>vr.ownBlock≠some k) (fun k=>N≤k) w7 x c→w.heap.size+2≤N→(∀q,vf.ownBlock=some q→q<N)→c.length=5→w'.ownsRow (w.heap.size+2) 72 5 v' (fs.length+1) (lus.flatten++c)→(w7.alloc ob).grownBy w' vf.ownBlock→(v'.ownBlock=vf.ownBlock∨v'.ownBlock=some (w7.alloc ob).heap.size)→Z6 (EX FcE fun k=>vr.ownBlock≠some k) 5 72 (w.heap.size+2) w' (fs++[x]) v')
  (hr:r<w.heap.size) (hg:g<w.heap.size) (hk7:zc r w6 w7) (hx7:FcE (fun k=>w6.heap.size≤k) w7 x c) (hc:c.length=5) (hrd7:zz r g σ w7) (ho:w9.ownsRow (w.heap.size+2) 72 5 v' (fs.length+1) (lus.flatten++c)) (hgr:(w7.alloc ob).grownBy w9 vf.ownBlock) (hat:v'.ownBlock=vf.ownBlock∨v'.ownBlock=some (w7.alloc ob).heap.size)
  (hp:XI f3 rs (fs++[x]) σ=some q) (hM:SmT σ.2) (hn:rs.length+(fs.length+1)+σ.2.length+(if σ.1=true then 0 else 1)≤1099511627777):PgD r g w q (w9.setCell ⟨P,1,none⟩ v')∧Z8 r (w9.setCell ⟨P,1,none⟩ v')=σ.2.length∧badN r (w9.setCell ⟨P,1,none⟩ v')=if σ.1=true then 0 else 1:=by
 subst hP;have hs7:=hk7.size;have hP6:w.heap.size+1<w6.heap.size:=(Array.getElem?_eq_some_iff.1 p6).1;have hkeep:∀k,vf.ownBlock≠some k→k<w7.heap.size→w9.heap[k]?=w7.heap[k]?:=fun k hk hlt=>(hgr.block k (by simp;omega) (fun e=>hk e.symm)).trans (Below.heap_alloc _ _ _ hlt)
 have hnr:∀k,k<w.heap.size+2→vf.ownBlock≠some k:=fun k hk e=>by have:=(hbr k e).1;omega
 have p9:w9.heap[w.heap.size+1]?=some (vF vr vf):=(hkeep _ (hnr _ (by omega)) (by omega)).trans ((hk7.block _ hP6 (by omega)).trans p6)
 have k9:zc r w w9:=((hK6.trans hk7).alloc ob).grown hgr fun k hk=>by have:=(hbr k hk).1;omega
 have hrd9:zz r g σ (w9.setCell ⟨w.heap.size+1,1,none⟩ v'):=(hrd7.keep (hkeep r (hnr r (by omega)) (by omega)) (hkeep g (hnr g (by omega)) (by omega))).far (by omega) (by omega) _ _
 have hpg9:yg (w.heap.size+2) w9 rs (fs++[x]) vr v':=hpg7.addF hnext hx7 (by omega) (fun q hq=>(hbr q hq).2) hbf (fun q hq=>by have:=hbf q hq;omega) hc ho hgr hat
 refine ⟨⟨⟨rs,fs++[x],vr,v',σ,f3,hp,hM,by simp only [List.length_append,List.length_cons,List.length_nil];omega,?_,zm _ p9,hpg9.kept (by simp) fun k hk _=>Below.heap_setCell _ _ _ _ (by simp;omega),hrd9,k9.setOther (by simp) _⟩⟩,hrd9.left,hrd9.badN⟩
 rw [Below.heap_setCell _ _ _ _ (by simp)]
 exact (hkeep _ (hnr _ (by omega)) (by omega)).trans ((hk7.block _ (by omega) (by omega)).trans b6)
end Go.Proofs.YtpejpbbdgblbeaaGreatDoor
