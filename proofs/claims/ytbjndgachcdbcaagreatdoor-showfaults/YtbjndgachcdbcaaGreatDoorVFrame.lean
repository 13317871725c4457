import Derived.Test.YtbjndgachcdbcaaGreatDoorVPlace
import Derived.Deep.DeepCutAuto
namespace Go.Proofs.YtbjndgachcdbcaaGreatDoor
open Go.RowKit Go.Shelf
set_option maxHeartbeats 16000000
set_option maxRecDepth 100000
theorem yz (os:List Ob):∀(l:List Bn),(zM os l).length=l.length*4
 | []=>rfl
 | b::t=>by
  have:=yz os t
  unfold zM at this ⊢
  rw [List.flatMap_cons,List.length_append,this];simp;omega
theorem Yk (os:List Ob):∀(l:List Bn),(∀b∈l,b.name.length≤1048576)→(zM os l).flatten.length≤l.length*1048800
 | [],_=>by simp [zM]
 | b::t,h=>by
  have c:=Yk os t fun x hx=>h x (by simp [hx])
  have m:=h b (by simp)
  have o:=X0 os b.val
  unfold zM at c ⊢
  have e:([[32],b.name,[61],Zd os b.val]:List (List UInt8)).flatten.length=2+b.name.length+(Zd os b.val).length:=by simp;omega
  rw [List.flatMap_cons,List.flatten_append,List.length_append,e,List.length_cons];omega
theorem Xl (os:List Ob) (l:List Bn) {i:Nat} (h:i<l.length):zM os (l.take (i+1))=zM os (l.take i)++[[32],(l[i]).name,[61],Zd os (l[i]).val]:=by
 have e:l.take i++[l[i]]=l.take (i+1):=List.take_append_getElem h;rw [←e];unfold zM;rw [List.flatMap_append];simp
theorem YA {S T:Nat→Prop} {most:Nat} {os:List Ob} {h:Nat} {vo vc:Value} (f:Fr) (u:Value) (sel:Bool) (w:World) (H:zA S w most os h vo vc) (hu:Yf T w u f.vars) (hf:yy f) (ht:yW w) :
  Calls Tryz.prog 26 #[VX u f.fn f.line,.bool sel,.pointer (some ⟨h,0,none⟩)] w fun e w'=>e=.returned (.string (za (Zy os f sel)))∧Below w.heap.size w w':=by
 obtain ⟨base,B,rfl,az,aO,af⟩:=hu.at
 obtain ⟨z,line,y⟩:=f;have HF:Hid (yy ⟨z,line,y⟩):=hf;have aM:=hf.fn;have am:=hf.nvars;simp only at az af aM am;have aG:Hid (∀i (hi:i<y.length),∃b o,base=some ⟨b,o,none⟩∧T b∧b<w.heap.size∧VI w b (o+i*4) y[i]):=af;obtain ⟨mk,U⟩:∃mk:List UInt8,mk=if sel then [62,32] else [32,32]:=⟨_,rfl⟩
 have aT:mk.length=2:=by rw [U];split <;> rfl
 obtain ⟨I,hI⟩:∃I,I=Lib.itoa line:=⟨_,rfl⟩;have aS:I.length≤30:=by rw [hI];exact ZJ line hf.line.1 hf.line.2
 have HR:Hid (Zy os ⟨z,line,y⟩ sel=zB ([mk,z,[58],I]++zM os y).flatten):=by
  show _=_
  rw [U,hI];rfl
 have HC:Hid (∀W,Below w.heap.size w W→Calls Tryz.prog 38 #[.int .i64 line] W fun e w'=>e=.returned (.string (za I))∧Below W.heap.size W w'):=fun W hW=>by
  rw [hI];exact YS line hf.line W (ht.below hW (Nat.le_refl _)).tabs
 obtain ⟨R,hR⟩:∃R,R=Zy os ⟨z,line,y⟩ sel:=⟨_,rfl⟩;rw [←hR] at HR ⊢
 have aK:Hid (([mk,z,[58],I]++zM os y).flatten.length≤70368744177664):=by
  have h1:=Yk os y fun b hb=>(hf.vars b hb).1
  have h2:y.length*1048800≤1048576*1048800:=Nat.mul_le_mul_right _ am;show _≤_
  have e:([mk,z,[58],I]:List (List UInt8)).flatten.length=mk.length+z.length+1+I.length:=by simp;omega
  rw [List.flatten_append,List.length_append,e];omega
 obtain ⟨w1,an,aB,A,h0⟩:=yl w (.cells #[.string (za z),.int .i64 line,.slice base y.length B] 52);have aH:Hid (w1=w.alloc (.cells #[.string (za z),.int .i64 line,.slice base y.length B] 52)):=an;have ah:Hid (Below w.heap.size w w1):=aB;have X:Hid (w1.heap[w.heap.size]?=some (.cells #[.string (za z),.int .i64 line,.slice base y.length B] 52 (0,0))):=h0;have HT:Hid (yW w):=ht;have HH:Hid (zA S w most os h vo vc):=H;obtain ⟨p0,p1,p2⟩:=Zf h0;have Y:Hid ((if sel then [62,32] else [32,32])=mk):=U.symm
 clear an aB h0 hR hI ht hf hu af H A U
 go_enter Tryz.func26,Tryz.ntmps26
 go_upto_if 11 with fail
 rw [←aH.out]
 go_cut [7] (fun t wx=>t=.string (za mk)∧wx=w1)
 case first =>
  cases sel with
  | true =>
   go_wp2_with fail
   go_meet
   rw [←Y.out];exact ⟨rfl,rfl⟩
  | false =>
   go_wp2_with fail
   go_meet
   rw [←Y.out];exact ⟨rfl,rfl⟩
 case rest =>
  obtain ⟨rfl,rfl⟩:=hcut;have aA:Below w.heap.size w wc:=ah.out;have Z:=aA.size
  go_upto_region 4 with fail
  go_cut [8] (fun t wx=>yL w wx w.heap.size #[.string (za z),.int .i64 line,.slice base y.length B] 52 t [mk,z,[58],I])
  case first =>
   have D:Hid (∀W,Below wc.heap.size wc W→W.cell? ⟨w.heap.size,0,none⟩=some (.string (za z))∧W.cell? ⟨w.heap.size,1,none⟩=some (.int .i64 line)):=fun W hW=>by
    obtain ⟨a,b,-⟩:=Zf ((hW.block _ (zc X.out)).trans X.out);exact ⟨a,b⟩
   have x0:∀c:zD fun W=>W.cell? ⟨w.heap.size,0,none⟩=some (.string (za z))∧W.cell? ⟨w.heap.size,1,none⟩=some (.int .i64 line),c.1.cell? ⟨w.heap.size,0,none⟩=some (.string (za z)):=fun c=>c.2.1
   have x1:∀c:zD fun W=>W.cell? ⟨w.heap.size,0,none⟩=some (.string (za z))∧W.cell? ⟨w.heap.size,1,none⟩=some (.int .i64 line),c.1.cell? ⟨w.heap.size,1,none⟩=some (.int .i64 line):=fun c=>c.2.2
   haveI aE:Nonempty (zD fun W=>W.cell? ⟨w.heap.size,0,none⟩=some (.string (za z))∧W.cell? ⟨w.heap.size,1,none⟩=some (.int .i64 line)):=⟨⟨wc,D.out wc (Below.refl _ _)⟩⟩
   have E:Hid (Below wc.heap.size wc wc.drew):=(Below.refl _ _).drew;refine ZY (n:=8) (S:=fun w'=>∃c:zD fun W=>W.cell? ⟨w.heap.size,0,none⟩=some (.string (za z))∧W.cell? ⟨w.heap.size,1,none⟩=some (.int .i64 line),w'=c.1) (by kernel_rfl) rfl rfl ?_
   refine Zt (fuel:=3) (fuel':=8) (idx:=[0,1,2,3,4]) (by kernel_rfl) rfl rfl rfl (fun _ _ _ _ _ h=>h) ⟨⟨wc.drew,D.out _ E.out⟩,rfl⟩ ?_
   show wpQuiet _ _ _ _ [_,_,_,_,_] _
   iterate 5 (go_big_quiet_step (fail))
   refine wpQuiet_nil ?_;refine zR (fuel:=2) (fuel':=3) (i:=5) rfl (by kernel_rfl) rfl rfl (by rfl) ?_
   intro K J;go_simp;refine (HC.out wc.drew (ah.out.trans (E.out.mono Z))).mono ?_;rintro e O ⟨rfl,hb⟩;have A:Hid (Below wc.heap.size wc O):=E.out.trans (hb.mono E.out.size);clear hb
   (try go_simp)
   refine J.out _ _ ⟨⟨O,D.out O A.out⟩,rfl⟩ ?_;clear J K;refine zR (fuel:=1) (fuel':=2) (i:=6) rfl (by kernel_rfl) rfl rfl (by rfl) ?_
   intro K J;go_simp;have M:Hid (Below wc.heap.size wc (O.alloc (.cells #[.string (za mk),.string (za z),.string ⟨#[58]⟩,.string (za I)] 9))):=A.out.alloc A.out.size _;refine J.out _ _ ⟨⟨_,D.out _ M.out⟩,rfl⟩ ?_;clear J K;refine Zt (fuel:=0) (fuel':=1) (idx:=[7]) (by kernel_rfl) rfl rfl rfl (fun _ _ _ _ _ h=>h) ⟨⟨_,D.out _ M.out⟩,rfl⟩ ?_
   show wpQuiet _ _ _ _ [_] _
   iterate 1 (go_big_quiet_step (fail))
   refine wpQuiet_nil ?_;refine yk (by kernel_rfl) ?_
   clear x0 x1;go_wp2_with fail
   go_meet
   exact ⟨zj.lit w.heap.size w O [mk,z,[58],I] (ah.out.trans (A.out.mono Z)) (by have:=A.out.size;omega) (by simp [maxLen]),(M.out.block _ (zc X.out)).trans X.out,HT.out⟩
  case rest =>
   have aL:Hid (yL w wc w.heap.size #[.string (za z),.int .i64 line,.slice base y.length B] 52 u8 [mk,z,[58],I]):=hcut;obtain ⟨q0,q1,q2⟩:=Zf hcut.blk;clear hcut p0 p1 p2 aA Z az aO
   go_upto_region 6 with fail
   clear q0 q1 q2
   go_loopw [8,22] (fun v vi wr=>∃i:Nat,i≤y.length∧vi=.int .i64 (i:Int)∧yL w wr w.heap.size #[.string (za z),.int .i64 line,.slice base y.length B] 52 v ([mk,z,[58],I]++zM os (y.take i))) (fun _ vi _=>y.length-(intOf vi).toNat)
   case atStart=>exact ⟨0,Nat.zero_le _,rfl,by simpa [zM] using aL.out⟩
   case round =>
    obtain ⟨i,hi,rfl,hj⟩:=hrel;have HJ:Hid (yL w wr w.heap.size #[.string (za z),.int .i64 line,.slice base y.length B] 52 u8 ([mk,z,[58],I]++zM os (y.take i))):=hj;have aJ:Hid (Below w.heap.size w wr):=hj.strs.below;have aR:=hj.strs.low;clear hj
    by_cases hlt:i<y.length
    ·have aI:(i:Int)<y.length:=by omega
     obtain ⟨b,o,rfl,-,aP,e0,e1,e2,e3⟩:=aG.out i hlt;have ak:∀q,wr.cell? ⟨b,q,none⟩=w.cell? ⟨b,q,none⟩:=fun q=>zh aJ.out aP
     rw [←ak] at e0 e1 e2 e3;obtain ⟨al,V⟩:=HF.out.vars _ (List.getElem_mem hlt);obtain ⟨x,hx⟩:∃x,x=y[i]:=⟨_,rfl⟩;rw [←hx] at e0 e1 e2 e3 al V;have ai:Hid (zM os (y.take (i+1))=zM os (y.take i)++[[32],x.name,[61],Zd os x.val]):=by rw [hx];exact Xl os y hlt
     obtain ⟨G,⟨k,m,s⟩⟩:=x;simp only at e0 e1 e2 e3 al V;obtain ⟨SB,ad⟩:∃SB,SB=Zd os ⟨k,m,s⟩:=⟨_,rfl⟩;simp only [←ad] at ai;obtain ⟨F,ax,ap,ar,h5⟩:=yl wr (.cells #[.string (za G),.int .i64 k,.int .i64 m,.string (za s)] 58);have aF:Hid (F=wr.alloc (.cells #[.string (za G),.int .i64 k,.int .i64 m,.string (za s)] 58)):=ax;have ay:Hid (F.heap[wr.heap.size]?=some (.cells #[.string (za G),.int .i64 k,.int .i64 m,.string (za s)] 58 (0,0))):=h5;have ag:Hid (yL w F w.heap.size #[.string (za z),.int .i64 line,.slice (some ⟨b,o,none⟩) y.length B] 52 u8 ([mk,z,[58],I]++zM os (y.take i))):=HJ.out.new ap;have av:Hid (Below w.heap.size w F):=ag.out.strs.below
     have aD:Hid (∀W,Below w.heap.size w W→Calls Tryz.prog 37 #[.pointer (some ⟨h,0,none⟩),.agg #[.int .i64 k,.int .i64 m,.string (za s)]] W fun e w'=>e=.returned (.string (za SB))∧Below W.heap.size W w'):=fun W hW=>by
      rw [ad];exact xD ⟨k,m,s⟩ W (HH.out.below hW) V (HT.out.below hW (Nat.le_refl _)).tabs
     obtain ⟨P,hP⟩:∃P,P=[mk,z,[58],I]++zM os (y.take i):=⟨_,rfl⟩
     have aN:Hid ([mk,z,[58],I]++zM os (y.take (i+1))=P++[[32],G,[61],SB]):=by
      show _=_
      rw [ai.out,hP,List.append_assoc]
     have aj:P.length≤8388608:=by
      rw [hP,List.length_append,yz,List.length_take]
      simp
      omega
     rw [←hP] at HJ ag;have aa:=av.out.size;have aq:Hid (wr.heap.size<F.heap.size):=by have:=ar.out;show _<_;omega
     clear ax ap hx ad hP V ak h5 ar
     go_upto_region 8 with fail
     rw [←aF.out];have D:Hid (∀W,Below F.heap.size F W→W.cell? ⟨wr.heap.size,0,none⟩=some (.string (za G))∧W.cell? ⟨wr.heap.size,1,none⟩=some (.int .i64 k)∧W.cell? ⟨wr.heap.size,2,none⟩=some (.int .i64 m)∧W.cell? ⟨wr.heap.size,3,none⟩=some (.string (za s))):=fun W hW=>ZZ ((hW.block _ aq.out).trans ay.out)
     have x0:∀c:zD fun W=>W.cell? ⟨wr.heap.size,0,none⟩=some (.string (za G))∧W.cell? ⟨wr.heap.size,1,none⟩=some (.int .i64 k)∧W.cell? ⟨wr.heap.size,2,none⟩=some (.int .i64 m)∧W.cell? ⟨wr.heap.size,3,none⟩=some (.string (za s)),c.1.cell? ⟨wr.heap.size,0,none⟩=some (.string (za G)):=fun c=>c.2.1
     have x1:∀c:zD fun W=>W.cell? ⟨wr.heap.size,0,none⟩=some (.string (za G))∧W.cell? ⟨wr.heap.size,1,none⟩=some (.int .i64 k)∧W.cell? ⟨wr.heap.size,2,none⟩=some (.int .i64 m)∧W.cell? ⟨wr.heap.size,3,none⟩=some (.string (za s)),c.1.cell? ⟨wr.heap.size,1,none⟩=some (.int .i64 k):=fun c=>c.2.2.1
     have x2:∀c:zD fun W=>W.cell? ⟨wr.heap.size,0,none⟩=some (.string (za G))∧W.cell? ⟨wr.heap.size,1,none⟩=some (.int .i64 k)∧W.cell? ⟨wr.heap.size,2,none⟩=some (.int .i64 m)∧W.cell? ⟨wr.heap.size,3,none⟩=some (.string (za s)),c.1.cell? ⟨wr.heap.size,2,none⟩=some (.int .i64 m):=fun c=>c.2.2.2.1
     have x3:∀c:zD fun W=>W.cell? ⟨wr.heap.size,0,none⟩=some (.string (za G))∧W.cell? ⟨wr.heap.size,1,none⟩=some (.int .i64 k)∧W.cell? ⟨wr.heap.size,2,none⟩=some (.int .i64 m)∧W.cell? ⟨wr.heap.size,3,none⟩=some (.string (za s)),c.1.cell? ⟨wr.heap.size,3,none⟩=some (.string (za s)):=fun c=>c.2.2.2.2
     haveI aE:Nonempty (zD fun W=>W.cell? ⟨wr.heap.size,0,none⟩=some (.string (za G))∧W.cell? ⟨wr.heap.size,1,none⟩=some (.int .i64 k)∧W.cell? ⟨wr.heap.size,2,none⟩=some (.int .i64 m)∧W.cell? ⟨wr.heap.size,3,none⟩=some (.string (za s))):=⟨⟨F,D.out F (Below.refl _ _)⟩⟩
     have E:Hid (Below F.heap.size F F.drew):=(Below.refl _ _).drew;refine ZY (n:=10) (S:=fun w'=>∃c:zD fun W=>W.cell? ⟨wr.heap.size,0,none⟩=some (.string (za G))∧W.cell? ⟨wr.heap.size,1,none⟩=some (.int .i64 k)∧W.cell? ⟨wr.heap.size,2,none⟩=some (.int .i64 m)∧W.cell? ⟨wr.heap.size,3,none⟩=some (.string (za s)),w'=c.1) (by kernel_rfl) rfl rfl ?_
     refine Zt (fuel:=4) (fuel':=10) (idx:=[0,1,2,3,4,5]) (by kernel_rfl) rfl rfl rfl (fun _ _ _ _ _ h=>h) ⟨⟨F.drew,D.out _ E.out⟩,rfl⟩ ?_
     show wpQuiet _ _ _ _ [_,_,_,_,_,_] _
     iterate 6 (go_big_quiet_step (fail))
     refine wpQuiet_nil ?_;refine zR (fuel:=3) (fuel':=4) (i:=6) rfl (by kernel_rfl) rfl rfl (by rfl) ?_
     intro K J;go_simp;refine (aD.out F.drew (av.out.trans (E.out.mono aa))).mono ?_;rintro e O ⟨rfl,hb⟩;have A:Hid (Below F.heap.size F O):=E.out.trans (hb.mono E.out.size);clear hb
     (try go_simp)
     refine J.out _ _ ⟨⟨O,D.out O A.out⟩,rfl⟩ ?_;clear J K;refine zR (fuel:=2) (fuel':=3) (i:=7) rfl (by kernel_rfl) rfl rfl (by rfl) ?_
     intro K J;go_simp;have M:Hid (Below F.heap.size F (O.alloc (.cells #[.string ⟨#[32]⟩,.string (za G),.string ⟨#[61]⟩,.string (za SB)] 9))):=A.out.alloc A.out.size _;refine J.out _ _ ⟨⟨_,D.out _ M.out⟩,rfl⟩ ?_;clear J K;have ab:Hid (yL w O w.heap.size #[.string (za z),.int .i64 line,.slice (some ⟨b,o,none⟩) y.length B] 52 u8 P):=ag.out.new A.out;refine Y2 (fuel:=1) (fuel':=2) (i:=8) rfl (by kernel_rfl) rfl rfl (by rfl) ?_
     intro K J;refine zY (.tmp 26) (.tmp 33) rfl (by rfl) w.heap.size u8 P [[32],G,[61],SB] rfl O w ab.out.strs rfl rfl (by simp;omega) ?_
     intro v9 z3 ao ae;have aC:Hid (yL w z3 w.heap.size #[.string (za z),.int .i64 line,.slice (some ⟨b,o,none⟩) y.length B] 52 v9 (P++[[32],G,[61],SB])):=ab.out.app (by decide) ao ae
     have au:Hid (z3.heap[wr.heap.size]?=some (.cells #[.string (za G),.int .i64 k,.int .i64 m,.string (za s)] 58 (0,0))):=zk (ab.out.strs.row.alloc _) ae ((M.out.block _ aq.out).trans ay.out) (by decide)
     refine J.out _ _ ⟨⟨z3,ZZ au.out⟩,rfl⟩ ?_;clear J K ao ae
     (try simp only [Act.put,List.setIfInBounds_toArray,List.set_cons_zero,List.set_cons_succ])
     refine Zt (fuel:=0) (fuel':=1) (idx:=[9]) (by kernel_rfl) rfl rfl rfl (fun _ _ _ _ _ h=>h) ⟨⟨z3,ZZ au.out⟩,rfl⟩ ?_
     show wpQuiet _ _ _ _ [_] _
     iterate 1 (go_big_quiet_step (fail))
     refine wpQuiet_nil ?_;refine yk (by kernel_rfl) ?_
     clear x0 x1 x2 x3;go_wp2
     exact ⟨⟨i+1,by omega,by go_num,by rw [aN.out];exact aC.out⟩,by simp [intOf];omega⟩
    ·have aI:¬ (i:Int)<y.length:=by omega
     obtain rfl:i=y.length:=by omega
     rw [List.take_length] at HJ
     have aj:([mk,z,[58],I]++zM os y).length≤8388608:=by
      rw [List.length_append,yz]
      simp
      omega
     have cl:=Yj HJ.out.strs (by omega) aK.out
     rw [←HR.out] at cl;clear aj;go_wp2_with fail
     refine cl.mono ?_;clear cl;rintro e w9 ⟨rfl,aw⟩;have aQ:Hid (Below w.heap.size w w9):=aw;clear aw;go_wp2
     go_ret
     exact ⟨rfl,aQ.out⟩
end Go.Proofs.YtbjndgachcdbcaaGreatDoor
