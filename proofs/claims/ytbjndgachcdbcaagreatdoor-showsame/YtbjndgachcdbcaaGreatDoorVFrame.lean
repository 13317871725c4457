import Derived.Test.YtbjndgachcdbcaaGreatDoorMC21
import Derived.Deep.DeepCutAuto
namespace Go.Proofs.YtbjndgachcdbcaaGreatDoor
open Go.RowKit Go.Shelf
set_option maxHeartbeats 16000000
set_option maxRecDepth 100000
theorem Yd (os:List Ob):∀(l:List Bn),(zM os l).length=l.length*4
 | []=>rfl
 | b::t=>by
  have:=Yd os t
  unfold zM at this ⊢
  rw [List.flatMap_cons,List.length_append,this];simp;omega
theorem Y7 (os:List Ob):∀(l:List Bn),(∀b∈l,b.name.length≤1048576)→(zM os l).flatten.length≤l.length*1048800
 | [],_=>by simp [zM]
 | b::t,h=>by
  have c:=Y7 os t fun x hx=>h x (by simp [hx])
  have o:=h b (by simp)
  have m:=VP os b.val
  unfold zM at c ⊢
  have e:([[32],b.name,[61],Za os b.val]:List (List UInt8)).flatten.length=2+b.name.length+(Za os b.val).length:=by simp;omega
  rw [List.flatMap_cons,List.flatten_append,List.length_append,e,List.length_cons];omega
theorem vL (os:List Ob) (l:List Bn) {i:Nat} (h:i<l.length):zM os (l.take (i+1))=zM os (l.take i)++[[32],(l[i]).name,[61],Za os (l[i]).val]:=by
 have e:l.take i++[l[i]]=l.take (i+1):=List.take_append_getElem h;rw [←e];unfold zM;rw [List.flatMap_append];simp
theorem xm {S T:Nat→Prop} {most:Nat} {os:List Ob} {h:Nat} {vo vc:Value} (f:Fr) (u:Value) (sel:Bool) (w:World) (H:zs S w most os h vo vc) (hu:YZ T w u f.vars) (hf:yf f) (ht:Yz w) :
  Calls Tryz.prog 26 #[UW u f.fn f.line,.bool sel,.pointer (some ⟨h,0,none⟩)] w fun e w'=>e=.returned (.string (za (ZB os f sel)))∧Below w.heap.size w w':=by
 obtain ⟨base,D,rfl,av,aN,ai⟩:=hu.at
 obtain ⟨z,line,y⟩:=f;have HF:Hid (yf ⟨z,line,y⟩):=hf;have aE:=hf.fn;have aw:=hf.nvars;simp only at av ai aE aw;have aG:Hid (∀i (hi:i<y.length),∃b o,base=some ⟨b,o,none⟩∧T b∧b<w.heap.size∧UE w b (o+i*4) y[i]):=ai;obtain ⟨mk,X⟩:∃mk:List UInt8,mk=if sel then [62,32] else [32,32]:=⟨_,rfl⟩
 have aS:mk.length=2:=by rw [X];split <;> rfl
 obtain ⟨I,hI⟩:∃I,I=Lib.itoa line:=⟨_,rfl⟩;have aT:I.length≤30:=by rw [hI];exact Z0 line hf.line.1 hf.line.2
 have HR:Hid (ZB os ⟨z,line,y⟩ sel=zG ([mk,z,[58],I]++zM os y).flatten):=by
  show _=_
  rw [X,hI];rfl
 have HC:Hid (∀W,Below w.heap.size w W→Calls Tryz.prog 38 #[.int .i64 line] W fun e w'=>e=.returned (.string (za I))∧Below W.heap.size W w'):=fun W hW=>by
  rw [hI];exact xE line hf.line W (ht.below hW (Nat.le_refl _)).tabs
 obtain ⟨R,hR⟩:∃R,R=ZB os ⟨z,line,y⟩ sel:=⟨_,rfl⟩;rw [←hR] at HR ⊢
 have aJ:Hid (([mk,z,[58],I]++zM os y).flatten.length≤70368744177664):=by
  have h1:=Y7 os y fun b Z=>(hf.vars b Z).1
  have h2:y.length*1048800≤1048576*1048800:=Nat.mul_le_mul_right _ aw;show _≤_
  have e:([mk,z,[58],I]:List (List UInt8)).flatten.length=mk.length+z.length+1+I.length:=by simp;omega
  rw [List.flatten_append,List.length_append,e];omega
 obtain ⟨w1,ay,am,A,h0⟩:=yE w (.cells #[.string (za z),.int .i64 line,.slice base y.length D] 52);have aM:Hid (w1=w.alloc (.cells #[.string (za z),.int .i64 line,.slice base y.length D] 52)):=ay;have af:Hid (Below w.heap.size w w1):=am;have U:Hid (w1.heap[w.heap.size]?=some (.cells #[.string (za z),.int .i64 line,.slice base y.length D] 52 (0,0))):=h0;have HT:Hid (Yz w):=ht;have HH:Hid (zs S w most os h vo vc):=H;obtain ⟨p0,p1,p2⟩:=Zp h0;have Y:Hid ((if sel then [62,32] else [32,32])=mk):=X.symm
 clear ay am h0 hR hI ht hf hu ai H A X
 go_enter Tryz.func26,Tryz.ntmps26
 go_upto_if 11 with fail
 rw [←aM.out]
 go_cut [7] (fun t wx=>t=.string (za mk)∧wx=w1)
 case first =>
  cases sel with
  | true =>
   go_wp2_with fail
   go_meet
   rw [←Y.out];exact ⟨rfl,rfl⟩
  | false =>
   go_wp2_with fail
   go_meet
   rw [←Y.out];exact ⟨rfl,rfl⟩
 case rest =>
  obtain ⟨rfl,rfl⟩:=hcut;have au:Below w.heap.size w wc:=af.out;have ag:=au.size
  go_upto_region 4 with fail
  go_cut [8] (fun t wx=>Yt w wx w.heap.size #[.string (za z),.int .i64 line,.slice base y.length D] 52 t [mk,z,[58],I])
  case first =>
   have B:Hid (∀W,Below wc.heap.size wc W→W.cell? ⟨w.heap.size,0,none⟩=some (.string (za z))∧W.cell? ⟨w.heap.size,1,none⟩=some (.int .i64 line)):=fun W hW=>by
    obtain ⟨a,b,-⟩:=Zp ((hW.block _ (zc U.out)).trans U.out);exact ⟨a,b⟩
   have x0:∀c:zC fun W=>W.cell? ⟨w.heap.size,0,none⟩=some (.string (za z))∧W.cell? ⟨w.heap.size,1,none⟩=some (.int .i64 line),c.1.cell? ⟨w.heap.size,0,none⟩=some (.string (za z)):=fun c=>c.2.1
   have x1:∀c:zC fun W=>W.cell? ⟨w.heap.size,0,none⟩=some (.string (za z))∧W.cell? ⟨w.heap.size,1,none⟩=some (.int .i64 line),c.1.cell? ⟨w.heap.size,1,none⟩=some (.int .i64 line):=fun c=>c.2.2
   haveI aQ:Nonempty (zC fun W=>W.cell? ⟨w.heap.size,0,none⟩=some (.string (za z))∧W.cell? ⟨w.heap.size,1,none⟩=some (.int .i64 line)):=⟨⟨wc,B.out wc (Below.refl _ _)⟩⟩
   have E:Hid (Below wc.heap.size wc wc.drew):=(Below.refl _ _).drew;refine ZR (n:=8) (S:=fun w'=>∃c:zC fun W=>W.cell? ⟨w.heap.size,0,none⟩=some (.string (za z))∧W.cell? ⟨w.heap.size,1,none⟩=some (.int .i64 line),w'=c.1) (by kernel_rfl) rfl rfl ?_
   refine zS (fuel:=3) (fuel':=8) (idx:=[0,1,2,3,4]) (by kernel_rfl) rfl rfl rfl (fun _ _ _ _ _ h=>h) ⟨⟨wc.drew,B.out _ E.out⟩,rfl⟩ ?_
   show wpQuiet _ _ _ _ [_,_,_,_,_] _
   iterate 5 (go_big_quiet_step (fail))
   refine wpQuiet_nil ?_;refine zB (fuel:=2) (fuel':=3) (i:=5) rfl (by kernel_rfl) rfl rfl (by rfl) ?_
   intro K J;go_simp;refine (HC.out wc.drew (af.out.trans (E.out.mono ag))).mono ?_;rintro e O ⟨rfl,Z⟩;have A:Hid (Below wc.heap.size wc O):=E.out.trans (Z.mono E.out.size);clear Z
   (try go_simp)
   refine J.out _ _ ⟨⟨O,B.out O A.out⟩,rfl⟩ ?_;clear J K;refine zB (fuel:=1) (fuel':=2) (i:=6) rfl (by kernel_rfl) rfl rfl (by rfl) ?_
   intro K J;go_simp;have M:Hid (Below wc.heap.size wc (O.alloc (.cells #[.string (za mk),.string (za z),.string ⟨#[58]⟩,.string (za I)] 9))):=A.out.alloc A.out.size _;refine J.out _ _ ⟨⟨_,B.out _ M.out⟩,rfl⟩ ?_;clear J K;refine zS (fuel:=0) (fuel':=1) (idx:=[7]) (by kernel_rfl) rfl rfl rfl (fun _ _ _ _ _ h=>h) ⟨⟨_,B.out _ M.out⟩,rfl⟩ ?_
   show wpQuiet _ _ _ _ [_] _
   iterate 1 (go_big_quiet_step (fail))
   refine wpQuiet_nil ?_;refine Zv (by kernel_rfl) ?_
   clear x0 x1;go_wp2_with fail
   go_meet
   exact ⟨zo.lit w.heap.size w O [mk,z,[58],I] (af.out.trans (A.out.mono ag)) (by have:=A.out.size;omega) (by simp [maxLen]),(M.out.block _ (zc U.out)).trans U.out,HT.out⟩
  case rest =>
   have aH:Hid (Yt w wc w.heap.size #[.string (za z),.int .i64 line,.slice base y.length D] 52 u8 [mk,z,[58],I]):=hcut;obtain ⟨q0,q1,q2⟩:=Zp hcut.blk;clear hcut p0 p1 p2 au ag av aN
   go_upto_region 6 with fail
   clear q0 q1 q2
   go_loopw [8,22] (fun v vi wr=>∃i:Nat,i≤y.length∧vi=.int .i64 (i:Int)∧Yt w wr w.heap.size #[.string (za z),.int .i64 line,.slice base y.length D] 52 v ([mk,z,[58],I]++zM os (y.take i))) (fun _ vi _=>y.length-(intOf vi).toNat)
   case atStart=>exact ⟨0,Nat.zero_le _,rfl,by simpa [zM] using aH.out⟩
   case round =>
    obtain ⟨i,hi,rfl,hj⟩:=hrel;have HJ:Hid (Yt w wr w.heap.size #[.string (za z),.int .i64 line,.slice base y.length D] 52 u8 ([mk,z,[58],I]++zM os (y.take i))):=hj;have aO:Hid (Below w.heap.size w wr):=hj.strs.below;have aU:=hj.strs.low;clear hj
    by_cases hlt:i<y.length
    ·have aD:(i:Int)<y.length:=by omega
     obtain ⟨b,o,rfl,-,aI,e0,e1,e2,e3⟩:=aG.out i hlt;have al:∀q,wr.cell? ⟨b,q,none⟩=w.cell? ⟨b,q,none⟩:=fun q=>zb aO.out aI
     rw [←al] at e0 e1 e2 e3;obtain ⟨aj,V⟩:=HF.out.vars _ (List.getElem_mem hlt);obtain ⟨x,hx⟩:∃x,x=y[i]:=⟨_,rfl⟩;rw [←hx] at e0 e1 e2 e3 aj V;have aA:Hid (zM os (y.take (i+1))=zM os (y.take i)++[[32],x.name,[61],Za os x.val]):=by rw [hx];exact vL os y hlt
     obtain ⟨G,⟨k,m,s⟩⟩:=x;simp only at e0 e1 e2 e3 aj V;obtain ⟨SB,ae⟩:∃SB,SB=Za os ⟨k,m,s⟩:=⟨_,rfl⟩;simp only [←ae] at aA;obtain ⟨F,an,aC,ar,h5⟩:=yE wr (.cells #[.string (za G),.int .i64 k,.int .i64 m,.string (za s)] 58);have aF:Hid (F=wr.alloc (.cells #[.string (za G),.int .i64 k,.int .i64 m,.string (za s)] 58)):=an;have az:Hid (F.heap[wr.heap.size]?=some (.cells #[.string (za G),.int .i64 k,.int .i64 m,.string (za s)] 58 (0,0))):=h5;have ab:Hid (Yt w F w.heap.size #[.string (za z),.int .i64 line,.slice (some ⟨b,o,none⟩) y.length D] 52 u8 ([mk,z,[58],I]++zM os (y.take i))):=HJ.out.new aC;have aB:Hid (Below w.heap.size w F):=ab.out.strs.below
     have aK:Hid (∀W,Below w.heap.size w W→Calls Tryz.prog 37 #[.pointer (some ⟨h,0,none⟩),.agg #[.int .i64 k,.int .i64 m,.string (za s)]] W fun e w'=>e=.returned (.string (za SB))∧Below W.heap.size W w'):=fun W hW=>by
      rw [ae];exact XK ⟨k,m,s⟩ W (HH.out.below hW) V (HT.out.below hW (Nat.le_refl _)).tabs
     obtain ⟨P,hP⟩:∃P,P=[mk,z,[58],I]++zM os (y.take i):=⟨_,rfl⟩
     have aP:Hid ([mk,z,[58],I]++zM os (y.take (i+1))=P++[[32],G,[61],SB]):=by
      show _=_
      rw [aA.out,hP,List.append_assoc]
     have ax:P.length≤8388608:=by
      rw [hP,List.length_append,Yd,List.length_take]
      simp
      omega
     rw [←hP] at HJ ab;have aa:=aB.out.size;have ao:Hid (wr.heap.size<F.heap.size):=by have:=ar.out;show _<_;omega
     clear an aC hx ae hP V al h5 ar
     go_upto_region 8 with fail
     rw [←aF.out];have B:Hid (∀W,Below F.heap.size F W→W.cell? ⟨wr.heap.size,0,none⟩=some (.string (za G))∧W.cell? ⟨wr.heap.size,1,none⟩=some (.int .i64 k)∧W.cell? ⟨wr.heap.size,2,none⟩=some (.int .i64 m)∧W.cell? ⟨wr.heap.size,3,none⟩=some (.string (za s))):=fun W hW=>ym ((hW.block _ ao.out).trans az.out)
     have x0:∀c:zC fun W=>W.cell? ⟨wr.heap.size,0,none⟩=some (.string (za G))∧W.cell? ⟨wr.heap.size,1,none⟩=some (.int .i64 k)∧W.cell? ⟨wr.heap.size,2,none⟩=some (.int .i64 m)∧W.cell? ⟨wr.heap.size,3,none⟩=some (.string (za s)),c.1.cell? ⟨wr.heap.size,0,none⟩=some (.string (za G)):=fun c=>c.2.1
     have x1:∀c:zC fun W=>W.cell? ⟨wr.heap.size,0,none⟩=some (.string (za G))∧W.cell? ⟨wr.heap.size,1,none⟩=some (.int .i64 k)∧W.cell? ⟨wr.heap.size,2,none⟩=some (.int .i64 m)∧W.cell? ⟨wr.heap.size,3,none⟩=some (.string (za s)),c.1.cell? ⟨wr.heap.size,1,none⟩=some (.int .i64 k):=fun c=>c.2.2.1
     have x2:∀c:zC fun W=>W.cell? ⟨wr.heap.size,0,none⟩=some (.string (za G))∧W.cell? ⟨wr.heap.size,1,none⟩=some (.int .i64 k)∧W.cell? ⟨wr.heap.size,2,none⟩=some (.int .i64 m)∧W.cell? ⟨wr.heap.size,3,none⟩=some (.string (za s)),c.1.cell? ⟨wr.heap.size,2,none⟩=some (.int .i64 m):=fun c=>c.2.2.2.1
     have x3:∀c:zC fun W=>W.cell? ⟨wr.heap.size,0,none⟩=some (.string (za G))∧W.cell? ⟨wr.heap.size,1,none⟩=some (.int .i64 k)∧W.cell? ⟨wr.heap.size,2,none⟩=some (.int .i64 m)∧W.cell? ⟨wr.heap.size,3,none⟩=some (.string (za s)),c.1.cell? ⟨wr.heap.size,3,none⟩=some (.string (za s)):=fun c=>c.2.2.2.2
     haveI aQ:Nonempty (zC fun W=>W.cell? ⟨wr.heap.size,0,none⟩=some (.string (za G))∧W.cell? ⟨wr.heap.size,1,none⟩=some (.int .i64 k)∧W.cell? ⟨wr.heap.size,2,none⟩=some (.int .i64 m)∧W.cell? ⟨wr.heap.size,3,none⟩=some (.string (za s))):=⟨⟨F,B.out F (Below.refl _ _)⟩⟩
     have E:Hid (Below F.heap.size F F.drew):=(Below.refl _ _).drew;refine ZR (n:=10) (S:=fun w'=>∃c:zC fun W=>W.cell? ⟨wr.heap.size,0,none⟩=some (.string (za G))∧W.cell? ⟨wr.heap.size,1,none⟩=some (.int .i64 k)∧W.cell? ⟨wr.heap.size,2,none⟩=some (.int .i64 m)∧W.cell? ⟨wr.heap.size,3,none⟩=some (.string (za s)),w'=c.1) (by kernel_rfl) rfl rfl ?_
     refine zS (fuel:=4) (fuel':=10) (idx:=[0,1,2,3,4,5]) (by kernel_rfl) rfl rfl rfl (fun _ _ _ _ _ h=>h) ⟨⟨F.drew,B.out _ E.out⟩,rfl⟩ ?_
     show wpQuiet _ _ _ _ [_,_,_,_,_,_] _
     iterate 6 (go_big_quiet_step (fail))
     refine wpQuiet_nil ?_;refine zB (fuel:=3) (fuel':=4) (i:=6) rfl (by kernel_rfl) rfl rfl (by rfl) ?_
     intro K J;go_simp;refine (aK.out F.drew (aB.out.trans (E.out.mono aa))).mono ?_;rintro e O ⟨rfl,Z⟩;have A:Hid (Below F.heap.size F O):=E.out.trans (Z.mono E.out.size);clear Z
     (try go_simp)
     refine J.out _ _ ⟨⟨O,B.out O A.out⟩,rfl⟩ ?_;clear J K;refine zB (fuel:=2) (fuel':=3) (i:=7) rfl (by kernel_rfl) rfl rfl (by rfl) ?_
     intro K J;go_simp;have M:Hid (Below F.heap.size F (O.alloc (.cells #[.string ⟨#[32]⟩,.string (za G),.string ⟨#[61]⟩,.string (za SB)] 9))):=A.out.alloc A.out.size _;refine J.out _ _ ⟨⟨_,B.out _ M.out⟩,rfl⟩ ?_;clear J K;have ah:Hid (Yt w O w.heap.size #[.string (za z),.int .i64 line,.slice (some ⟨b,o,none⟩) y.length D] 52 u8 P):=ab.out.new A.out;refine ZG (fuel:=1) (fuel':=2) (i:=8) rfl (by kernel_rfl) rfl rfl (by rfl) ?_
     intro K J;refine Zf (.tmp 26) (.tmp 33) rfl (by rfl) w.heap.size u8 P [[32],G,[61],SB] rfl O w ah.out.strs rfl rfl (by simp;omega) ?_
     intro v9 z3 aq ad;have aR:Hid (Yt w z3 w.heap.size #[.string (za z),.int .i64 line,.slice (some ⟨b,o,none⟩) y.length D] 52 v9 (P++[[32],G,[61],SB])):=ah.out.app (by decide) aq ad
     have ap:Hid (z3.heap[wr.heap.size]?=some (.cells #[.string (za G),.int .i64 k,.int .i64 m,.string (za s)] 58 (0,0))):=zp (ah.out.strs.row.alloc _) ad ((M.out.block _ ao.out).trans az.out) (by decide)
     refine J.out _ _ ⟨⟨z3,ym ap.out⟩,rfl⟩ ?_;clear J K aq ad
     (try simp only [Act.put,List.setIfInBounds_toArray,List.set_cons_zero,List.set_cons_succ])
     refine zS (fuel:=0) (fuel':=1) (idx:=[9]) (by kernel_rfl) rfl rfl rfl (fun _ _ _ _ _ h=>h) ⟨⟨z3,ym ap.out⟩,rfl⟩ ?_
     show wpQuiet _ _ _ _ [_] _
     iterate 1 (go_big_quiet_step (fail))
     refine wpQuiet_nil ?_;refine Zv (by kernel_rfl) ?_
     clear x0 x1 x2 x3;go_wp2
     exact ⟨⟨i+1,by omega,by go_num,by rw [aP.out];exact aR.out⟩,by simp [intOf];omega⟩
    ·have aD:¬ (i:Int)<y.length:=by omega
     obtain rfl:i=y.length:=by omega
     rw [List.take_length] at HJ
     have ax:([mk,z,[58],I]++zM os y).length≤8388608:=by
      rw [List.length_append,Yd]
      simp
      omega
     have cl:=Y4 HJ.out.strs (by omega) aJ.out
     rw [←HR.out] at cl;clear ax;go_wp2_with fail
     refine cl.mono ?_;clear cl;rintro e w9 ⟨rfl,ak⟩;have aL:Hid (Below w.heap.size w w9):=ak;clear ak;go_wp2
     go_ret
     exact ⟨rfl,aL.out⟩
end Go.Proofs.YtbjndgachcdbcaaGreatDoor
