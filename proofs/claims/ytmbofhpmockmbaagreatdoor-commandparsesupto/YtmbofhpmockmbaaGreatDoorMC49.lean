import Derived.Test.YtmbofhpmockmbaaGreatDoorQMath
import Derived.Test.YtmbofhpmockmbaaGreatDoorMC1
import Derived.Test.YtmbofhpmockmbaaGreatDoorXTk
import Derived.Test.YtmbofhpmockmbaaGreatDoorMC48
namespace Go.Proofs.YtmbofhpmockmbaaGreatDoor
def xF (l:List UInt8) (k:Int):List (Int × Int × List UInt8) :=
 [(k,0,[]),(k,((yk 0 (l.drop ((ofKind k).2.1.length+1))).1:Int),[])] ++
 (if (ofKind k).2.1.length<l.length then [(k,0,l.drop ((ofKind k).2.1.length+1))] else []) ++
 (if (ofKind k).2.1.length+1+(yk 0 (l.drop ((ofKind k).2.1.length+1))).2+4≤l.length then [(k,((yk 0 (l.drop ((ofKind k).2.1.length+1))).1:Int),l.drop ((ofKind k).2.1.length+1+(yk 0 (l.drop ((ofKind k).2.1.length+1))).2+4))] else [])
theorem Y9 (w b:List UInt8):(w++32::b).drop (w.length+1)=b:=by
 rw [List.drop_append]
 simp
theorem zaF {X:List UInt8→Prop} (hX:¬ X []) {k n:Int} {s:List UInt8} (h:Zt X k n s):(Zv k n s).take (ofKind k).2.1.length=(ofKind k).2.1∧(k,n,s)∈xF (Zv k n s) k:=by
 obtain ⟨O,V⟩:=YS h;refine ⟨by unfold Zv;simp,?_⟩
 have o:∀(k:Int),(ofKind k).2.2.1=false→(ofKind k).2.2.2.2.1=false→Zt X k n s→(k,n,s)∈xF (Zv k n s) k:=by
  intro k A E h;obtain rfl:=h.2.1 A;obtain rfl:=h.2.2.1 E
  simp [xF]
 have y:∀(k:Int),(ofKind k).2.2.1=true→(ofKind k).2.2.2.2.1=false→0≤(ofKind k).2.2.2.1→Zt X k n s→(k,n,s)∈xF (Zv k n s) k:=by
  intro k A E U h;obtain rfl:=h.2.2.1 E;obtain ⟨I,T⟩:=h.2.2.2.1 A;have K:0≤n:=Int.le_trans U I;have e:Zv k n []=(ofKind k).2.1++32::Lib.decDigits n.toNat:=by simp [Zv,A,xh n K]
  have D:=XG n.toNat (by omega) [] (by simp)
  rw [List.append_nil] at D;rw [e]
  unfold xF
  rw [Y9,D]
  simp [Int.toNat_of_nonneg K]
 have z:∀(k:Int),(ofKind k).2.2.1=false→(ofKind k).2.2.2.2.1=true→(ofKind k).2.2.2.2.2=[]→Zt X k n s→(k,n,s)∈xF (Zv k n s) k:=by
  intro k A E M h;obtain rfl:=h.2.1 A
  have G:s≠[]:=by
   rintro rfl;rcases h.2.2.2.2 E with h | h
   ·exact h.2 M
   ·exact hX h.2
  have e:Zv k 0 s=(ofKind k).2.1++32::s:=by simp [Zv,A,M,G]
  rw [e]
  unfold xF
  rw [Y9,if_pos (by simp)]
  simp
 have H:Zt X 10 n s→(10,n,s)∈xF (Zv 10 n s) 10:=by
  intro h;have e:ofKind 10=(10,[98,114,101,97,107],true,1,true,[105,102]):=by decide
  have L:=h.2.2.2.1;rw [e] at L;obtain ⟨I,T⟩:=L rfl;simp only at I
  by_cases G:s=[]
  ·subst G
   have J:Zv 10 n []=[98,114,101,97,107]++32::Lib.decDigits n.toNat:=by unfold Zv;rw [e];simp [xh n (by omega)]
   have D:=XG n.toNat (by omega) [] (by simp)
   rw [List.append_nil] at D;rw [J]
   unfold xF
   rw [e];simp only;rw [Y9,D]
   simp [Int.toNat_of_nonneg (show 0≤n by omega)]
  ·have J:Zv 10 n s=[98,114,101,97,107]++32::(Lib.decDigits n.toNat++32::105::102::32::s):=by unfold Zv;rw [e];simp [xh n (by omega),G]
   have D:=XG n.toNat (by omega) (32::105::102::32::s) (by simp [vE])
   have Q:([98,114,101,97,107]++32::(Lib.decDigits n.toNat++32::105::102::32::s)).drop (([98,114,101,97,107]:List UInt8).length+1+(Lib.decDigits n.toNat).length+4)=s:=by
    have R:[98,114,101,97,107]++32::(Lib.decDigits n.toNat++32::105::102::32::s)=([98,114,101,97,107]++32::Lib.decDigits n.toNat++[32,105,102,32])++s:=by simp
    rw [R,List.drop_left' (by simp;omega)]
   rw [J]
   unfold xF
   rw [e];simp only;rw [Y9,D];simp only;rw [Q,Int.toNat_of_nonneg (show 0≤n by omega)]
   have N:([98,114,101,97,107]:List UInt8).length+1+(Lib.decDigits n.toNat).length+4≤([98,114,101,97,107]++32::(Lib.decDigits n.toNat++32::105::102::32::s)).length:=by simp;omega
   rw [if_pos N];exact List.mem_append.2 (.inr (List.mem_singleton.2 rfl))
 revert h
 exact YR (P:=fun k=>Zt X k n s→(k,n,s)∈xF (Zv k n s) k)
  (o 1 (by decide) (by decide)) (o 2 (by decide) (by decide)) (o 3 (by decide) (by decide)) (o 4 (by decide) (by decide)) (o 5 (by decide) (by decide)) (o 6 (by decide) (by decide)) (o 7 (by decide) (by decide)) (o 8 (by decide) (by decide))
  (y 9 (by decide) (by decide) (by decide)) H (z 11 (by decide) (by decide) (by decide)) (y 12 (by decide) (by decide) (by decide)) (y 13 (by decide) (by decide) (by decide)) (y 14 (by decide) (by decide) (by decide))
  (o 15 (by decide) (by decide)) (o 16 (by decide) (by decide)) (z 17 (by decide) (by decide) (by decide)) k O V
end Go.Proofs.YtmbofhpmockmbaaGreatDoor
namespace Go.Proofs.YtmbofhpmockmbaaGreatDoor
open Go.RowKit Go.Shelf
set_option maxHeartbeats 16000000
set_option maxRecDepth 100000
theorem Uc (l:List UInt8) (at0:Nat) (w:World) (hl:l.length≤1048576) (ha:at0≤1048577) :
  Calls Tryz.prog 40 #[.string (za l),.int .i64 at0] w fun e w'=>e=.returned (.tuple #[.int .i64 ((yk 0 (l.drop at0)).1:Nat),.int .i64 ((at0+(yk 0 (l.drop at0)).2:Nat))])∧Below w.heap.size w w':=by
 obtain ⟨N,Q⟩:∃N,N=(yk 0 (l.drop at0)).1:=⟨_,rfl⟩;obtain ⟨M,R⟩:∃M,M=at0+(yk 0 (l.drop at0)).2:=⟨_,rfl⟩;rw [←Q,←R];have zl:(za l).size=l.length:=rfl;have W:Hid (N=(yk 0 (l.drop at0)).1∧M=at0+(yk 0 (l.drop at0)).2):=⟨Q,R⟩;clear Q R
 go_enter Tryz.func40,Tryz.ntmps40
 go_wp2_with fail
 go_loopw [1,6] (fun va vn wr=>∃j m:Nat,va=.int .i64 (j:Nat)∧vn=.int .i64 (m:Nat)∧j≤1048577∧m≤42949672970∧N=(yk m (l.drop j)).1∧M=j+(yk m (l.drop j)).2∧Below w.heap.size w wr) (fun va _ _=>1048578-(intOf va).toNat)
 case atStart=>exact ⟨at0,0,rfl,rfl,ha,by omega,W.out.1,W.out.2,Below.refl _ _⟩
 case round =>
  obtain ⟨j,m,rfl,rfl,hj,hm,z,A,J⟩:=hrel;have I:Hid (Below w.heap.size w wr):=J;clear J
  by_cases hlt:j<l.length
  ·have K:(j:Int)<(l.length:Int):=by omega
   obtain ⟨c,L⟩:∃c,c=l[j]:=⟨_,rfl⟩;have H:=fun wx=>ZT wx l j hlt
   rw [←L] at H;have o:l.drop j=c::l.drop (j+1):=by rw [L];exact List.drop_eq_getElem_cons hlt
   rw [o,yk] at z A;have O:=c.toNat_lt
   by_cases hd:vE c=true∧m≤4294967296
   ·rw [if_pos hd] at z A
    obtain ⟨d0,d1⟩:=of_decide_eq_true hd.1;have V:(48:Int)≤(c.toNat:Int):=by omega
    have U:(c.toNat:Int)≤57:=by omega
    have X:(m:Int)≤4294967296:=by omega
    have y:Hid (N=(yk (10*m+(c.toNat-48)) (l.drop (j+1))).1∧M=j+1+(yk (10*m+(c.toNat-48)) (l.drop (j+1))).2):=⟨z,by rw [A];simp only;omega⟩
    have Z:IntKind.u8.wrap ((c.toNat:Int)-48)=(c.toNat:Int)-48:=by rw [IntKind.wrap_u8];omega
    have Y:IntKind.i64.wrap ((c.toNat:Int)-48)=(c.toNat:Int)-48:=by rw [IntKind.wrap_i64];omega
    clear z A o hd L;go_wp2
    refine ⟨⟨j+1,10*m+(c.toNat-48),by go_num,by go_num,by omega,by omega,y.out.1,y.out.2,I.out⟩,by simp [intOf];omega⟩
   ·rw [if_neg hd] at z A
    have y:Hid (N=m∧M=j):=⟨z,by rw [A];rfl⟩
    have D:c.toNat<48∨57<c.toNat∨4294967296<m:=by
     rcases Nat.lt_or_ge c.toNat 48 with h | h
     ·exact .inl h
     ·rcases Nat.lt_or_ge 57 c.toNat with T | T
      ·exact .inr (.inl T)
      ·rcases Nat.lt_or_ge 4294967296 m with E | E
       ·exact .inr (.inr E)
       ·exact absurd ⟨decide_eq_true ⟨h,T⟩,E⟩ hd
    clear z A o hd L;have G:Hid (Ending.returned (.tuple #[.int .i64 (m:Nat),.int .i64 (j:Nat)])=.returned (.tuple #[.int .i64 (N:Nat),.int .i64 (M:Nat)])):=by show _=_;rw [y.out.1,y.out.2]
    by_cases a:c.toNat<48
    ·have V:¬ (48:Int)≤(c.toNat:Int):=by omega
     clear D;go_wp2
     go_ret2
     exact ⟨G.out,I.out⟩
    ·have V:(48:Int)≤(c.toNat:Int):=by omega
     by_cases a2:57<c.toNat
     ·have U:¬ (c.toNat:Int)≤57:=by omega
      clear D;go_wp2
      go_ret2
      exact ⟨G.out,I.out⟩
     ·have U:(c.toNat:Int)≤57:=by omega
      have X:¬ (m:Int)≤4294967296:=by omega
      clear D;go_wp2
      go_ret2
      exact ⟨G.out,I.out⟩
  ·have K:¬ (j:Int)<(l.length:Int):=by omega
   have o:l.drop j=[]:=List.drop_eq_nil_of_le (by omega)
   rw [o] at z A;have G:Hid (Ending.returned (.tuple #[.int .i64 (m:Nat),.int .i64 (j:Nat)])=.returned (.tuple #[.int .i64 (N:Nat),.int .i64 (M:Nat)])):=by show _=_;rw [z,A];rfl
   clear z A o;go_wp2
   go_ret2
   exact ⟨G.out,I.out⟩
theorem vW (l:List UInt8) (hl:l.length≤1048576) (w:World) :
  Calls Tryz.prog 15 #[.string (za l)] w fun e w'=>((∃k n s,Zt Zy k n s∧Zv k n s=l∧e=.returned (.tuple #[yJ k n s,.int .i64 0]))∨((∀k n s,Zt Zy k n s→Zv k n s≠l)∧e=.returned (.tuple #[yJ 0 0 [],.int .i64 6])))∧Below w.heap.size w w':=by
 obtain ⟨i0,ah,aL,aM,aD⟩:=info_parts qq;obtain ⟨o,aV,I,ai,p1⟩:=y8 w (.cells #[.int .i64 0,.int .i64 0,.string ⟨#[]⟩] 24 (0,0));have HP:Hid (o.heap[w.heap.size]?=some (.cells #[.int .i64 0,.int .i64 0,.string ⟨#[]⟩] 24 (0,0))∧Below w.heap.size w o∧o.heap.size=w.heap.size+1):=⟨p1,I,ai⟩;have HL:Hid (l.length≤1048576):=hl;have zl:(za l).size=l.length:=rfl;have aR:Hid (o=w.alloc (.cells #[.int .i64 0,.int .i64 0,.string ⟨#[]⟩] 24 (0,0))):=aV;clear aV I ai p1 hl
 go_enter Tryz.func15,Tryz.ntmps15
 go_upto_region 1 with fail
 rw [←aR.out];clear aR;go_wp2_with fail
 go_loopw [4] (fun vk wr=>∃j:Nat,j≤17∧vk=.int .i64 ((j:Int)+1)∧(∀k n s,Zt Zy k n s→Zv k n s=l→(j:Int)<k)∧Below o.heap.size o wr) (fun vk _=>19-(intOf vk).toNat)
 case atStart=>exact ⟨0,by omega,by rfl,fun k n s h _=>by have:=(YS h).1;omega,Below.refl _ _⟩
 case round =>
  obtain ⟨j,hj,rfl,aP,aU⟩:=hrel;have HN:Hid (∀k n s,Zt Zy k n s→Zv k n s=l→(j:Int)<k):=aP;have HB:Hid (Below o.heap.size o wr):=aU;clear aP aU
  by_cases hlt:j<17
  ·have a5:(j:Int)+1≤17:=by omega
   have cw:=Vb j hlt wr;have aW:=(YK ((j:Int)+1)).1;obtain ⟨B,hB⟩:∃B,B=(ofKind ((j:Int)+1)).2.1:=⟨_,rfl⟩;have aN:Hid (B=(ofKind ((j:Int)+1)).2.1):=hB;rw [←hB] at cw aW;have zb:(za B).size=B.length:=rfl
   -- what is in the row of this kind,where a command stands
   have HH:Hid (∀n s,Zt Zy ((j:Int)+1) n s→Zv ((j:Int)+1) n s=l→l.take B.length=B∧((j:Int)+1,n,s)∈xF l ((j:Int)+1)):=fun n s K h2=>by
    obtain ⟨h3,h4⟩:=zaF V5 K;rw [h2,←aN.out] at h3;rw [h2] at h4;exact ⟨h3,h4⟩
   clear hB;go_wp2_with fail
   refine cw.mono ?_;clear cw;rintro e w2 ⟨rfl,aO⟩;have X:Hid (Below o.heap.size o w2):=HB.out.trans (aO.mono HB.out.size);clear aO
   by_cases hpre:l.take B.length=B
   ·have ag:B.length≤l.length:=by
     have:=congrArg List.length hpre
     rw [List.length_take] at this;omega
    have ao:¬ (l.length:Int)<(B.length:Int):=by omega
    have ax:=fun W=>XI W l B.length ag
    rw [hpre] at ax;have cn:=Uc l (B.length+1) w2 HL.out (by omega)
    obtain ⟨N,hN⟩:∃N,N=(yk 0 (l.drop (B.length+1))).1:=⟨_,rfl⟩;obtain ⟨M,hM⟩:∃M,M=(yk 0 (l.drop (B.length+1))).2:=⟨_,rfl⟩;have I:=zah (l.drop (B.length+1)) 0 (by omega)
    rw [←hN,←hM] at I cn;have aX:=I.1;have a1:M≤1048576:=by have:=I.2;rw [List.length_drop] at this;have:=HL.out;omega
    have Q:Hid (xF l ((j:Int)+1)=[((j:Int)+1,0,[]),((j:Int)+1,(N:Int),[])]++(if B.length<l.length then [((j:Int)+1,0,l.drop (B.length+1))] else [])++(if B.length+1+M+4≤l.length then [((j:Int)+1,(N:Int),l.drop (B.length+1+M+4))] else [])):=by
     show _=_
     unfold xF
     rw [←aN.out,←hN,←hM]
    have eM:((B.length+1+M:Nat):Int)=(B.length:Int)+1+M:=by omega
    rw [eM] at cn;have aT:Calls Tryz.prog 40 #[.string (za l),.int .i64 ((B.length:Int)+1)] w2 fun e w'=>e=.returned (.tuple #[.int .i64 (N:Nat),.int .i64 ((B.length:Int)+1+M)])∧Below w2.heap.size w2 w':=cn
    have aE:(B==B)=true:=beq_self_eq_true B;have ar:(l.length:Int)≤1048576:=by have:=HL.out;omega
    clear hN hM I cn eM hpre;go_wp2_with fail
    refine aT.mono ?_;clear aT ax;rintro e w3 ⟨rfl,aG⟩;have ae:Hid (Below o.heap.size o w3):=X.out.trans (aG.mono X.out.size);clear aG aE;obtain ⟨w4,ad⟩:∃w4,w4=w3.alloc (.cells #[.int .i64 ((j:Int)+1),.int .i64 0,.string ⟨#[]⟩,.int .i64 ((j:Int)+1),.int .i64 (N:Int),.string ⟨#[]⟩] 24):=⟨_,rfl⟩;have aF:Hid (w4=w3.alloc (.cells #[.int .i64 ((j:Int)+1),.int .i64 0,.string ⟨#[]⟩,.int .i64 ((j:Int)+1),.int .i64 (N:Int),.string ⟨#[]⟩] 24)):=ad
    have av:xw o.heap.size w4 (.slice (some ⟨w3.heap.size,0,none⟩) 2 2) [((j:Int)+1,0,[]),((j:Int)+1,(N:Int),[])]:=by
     rw [ad];exact Qs w3 o.heap.size [((j:Int)+1,0,[]),((j:Int)+1,(N:Int),[])] ae.out.size (by simp [maxLen])
    have aJ:Below o.heap.size o w4:=by rw [ad];exact ae.out.alloc ae.out.size _
    obtain ⟨g4,aC⟩:∃g4,g4=w3.heap.size:=⟨_,rfl⟩;rw [←aC] at av;have az:Hid (xw o.heap.size w4 (.slice (some ⟨g4,0,none⟩) 2 2) [((j:Int)+1,0,[]),((j:Int)+1,(N:Int),[])]):=av;have O:Hid (Below o.heap.size o w4):=aJ;clear ad av aJ
    go_upto_if 49 with fail
    rw [←aF.out,←aC];clear aF aC
    go_cut [8] (fun v wx=>Below o.heap.size o wx∧xw o.heap.size wx v ([((j:Int)+1,0,[]),((j:Int)+1,(N:Int),[])]++(if B.length<l.length then [((j:Int)+1,0,l.drop (B.length+1))] else [])))
    case first =>
     by_cases E:B.length<l.length
     ·have hd:(B.length:Int)<l.length:=by omega
      have hf:∀W,(Instr.slice 9 (.string (za l)) (some (.int .i64 ((B.length:Int)+1))) none none).run Tryz.prog W=.ok (.string (za (l.drop (B.length+1)))) W:=fun W=>yR W l (B.length+1) E
      have V:=ug w4 ((j:Int)+1,0,l.drop (B.length+1));have ay:=az.out.alloc (.cells (YT ((j:Int)+1,0,l.drop (B.length+1))).toArray 24)
      go_wp2_with (at_builtin;refine wpList_append_own_at _ rfl _ _ 74 rfl o.heap.size 24 i0 _ 3 32 Tryz.underlying74 ah aL aM aD rfl (by decide) _ _ _ rfl ay ⟨w4.heap.size,0,none⟩ 1 1 (YT ((j:Int)+1,0,l.drop (B.length+1))) rfl rfl V (uf [((j:Int)+1,0,l.drop (B.length+1))]) (by simp [maxLen]) (by simp) (by simp;have:=O.out.size;omega) ?_;intro v' w5 A D _ aA)
      have y:(w4.alloc (.cells (YT ((j:Int)+1,0,l.drop (B.length+1))).toArray 24)).grownBy w5 (Value.slice (some ⟨g4,0,none⟩) 2 2).ownBlock:=D;have G:Hid (Below o.heap.size o w5):=(O.out.alloc O.out.size _).grown y (by simp;have:=O.out.size;omega) (fun k hk=>(ay.lt k hk).1)
      have U:Hid (xw o.heap.size w5 v' [((j:Int)+1,0,[]),((j:Int)+1,(N:Int),[]),((j:Int)+1,0,l.drop (B.length+1))]):=A;clear D y aA A V ay;go_wp2_with fail
      go_meet
      exact ⟨G.out,by rw [if_pos E];exact U.out⟩
     ·have hd:¬ (B.length:Int)<l.length:=by omega
      go_wp2_with fail
      go_meet
      exact ⟨O.out,by rw [if_neg E,List.append_nil];exact az.out⟩
    case rest =>
     obtain ⟨H,J⟩:∃H,H=[((j:Int)+1,(0:Int),([]:List UInt8)),((j:Int)+1,(N:Int),[])]++(if B.length<l.length then [((j:Int)+1,0,l.drop (B.length+1))] else []):=⟨_,rfl⟩
     rw [←J] at hcut Q;have a2:H.length≤3:=by rw [J];split <;> simp
     have aY:2≤H.length:=by rw [J];split <;> simp
     have G:Hid (Below o.heap.size o wc):=hcut.1;have U:Hid (xw o.heap.size wc u8 H):=hcut.2;clear J hcut az O
     go_upto_if 64 with fail
     go_cut [8] (fun v wx=>Below o.heap.size o wx∧xw o.heap.size wx v (H++(if B.length+1+M+4≤l.length then [((j:Int)+1,(N:Int),l.drop (B.length+1+M+4))] else [])))
     case first =>
      by_cases E:B.length+1+M+4≤l.length
      ·have hd:(B.length:Int)+1+M+4≤l.length:=by omega
       have hf:∀W,(Instr.slice 9 (.string (za l)) (some (.int .i64 ((B.length:Int)+1+M+4))) none none).run Tryz.prog W=.ok (.string (za (l.drop (B.length+1+M+4)))) W:=fun W=>yR W l (B.length+1+M+4) E
       have V:=ug wc ((j:Int)+1,(N:Int),l.drop (B.length+1+M+4));have an:=U.out.alloc (.cells (YT ((j:Int)+1,(N:Int),l.drop (B.length+1+M+4))).toArray 24)
       go_wp2_with (at_builtin;refine wpList_append_own_at _ rfl _ _ 74 rfl o.heap.size 24 i0 _ 3 32 Tryz.underlying74 ah aL aM aD rfl (by decide) _ _ _ rfl an ⟨wc.heap.size,0,none⟩ 1 1 (YT ((j:Int)+1,(N:Int),l.drop (B.length+1+M+4))) rfl rfl V (uf [((j:Int)+1,(N:Int),l.drop (B.length+1+M+4))]) (by unfold maxLen;omega) (by omega) (by simp;have:=G.out.size;omega) ?_;intro v' w5 A D _ aA)
       have y:(wc.alloc (.cells (YT ((j:Int)+1,(N:Int),l.drop (B.length+1+M+4))).toArray 24)).grownBy w5 u8.ownBlock:=D;have au:Hid (Below o.heap.size o w5):=(G.out.alloc G.out.size _).grown y (by simp;have:=G.out.size;omega) (fun k hk=>(an.lt k hk).1)
       have al:Hid (xw o.heap.size w5 v' (H++[((j:Int)+1,(N:Int),l.drop (B.length+1+M+4))])):=by
        show w5.ownsRow _ _ _ _ _ _
        rw [Qr,List.length_append];exact A
       clear D y aA A V an;go_wp2_with fail
       go_meet
       exact ⟨au.out,by rw [if_pos E];exact al.out⟩
      ·have hd:¬ (B.length:Int)+1+M+4≤l.length:=by omega
       go_wp2_with fail
       go_meet
       exact ⟨G.out,by rw [if_neg E,List.append_nil];exact U.out⟩
     case rest =>
      clear G U;obtain ⟨R,hR⟩:∃R,R=xF l ((j:Int)+1):=⟨_,rfl⟩;rw [←Q.out,←hR] at hcut
      have a6:R.length≤4:=by
       rw [hR,Q.out,List.length_append];split <;> simp <;> omega
      have aw:0<R.length:=by
       rw [hR,Q.out,List.length_append];omega
      obtain ⟨g,af,rfl,hg,-,-⟩:=VC hcut.2 aw;have au:Hid (Below o.heap.size o wc):=hcut.1;have al:Hid (xw o.heap.size wc (.slice (some ⟨g,0,none⟩) R.length af) R):=hcut.2;rw [←hR] at HH;clear hcut hR Q a2 aY aX a1 ao ag ae X ar;go_wp2_with fail
      go_loopw [9] (fun v9 wx=>∃i:Nat,i≤R.length∧v9=.int .i64 i∧(∀c∈R.take i,Zt Zy c.1 c.2.1 c.2.2→Zv c.1 c.2.1 c.2.2≠l)∧Below o.heap.size o wx∧xw o.heap.size wx (.slice (some ⟨g,0,none⟩) R.length af) R) (fun v9 _=>R.length-(intOf v9).toNat)
      case atStart=>exact ⟨0,by omega,by rfl,by simp,au.out,al.out⟩
      case round =>
       obtain ⟨i,hi,rfl,aj,aI,am⟩:=hrel;have aS:Hid (∀c∈R.take i,Zt Zy c.1 c.2.1 c.2.2→Zv c.1 c.2.1 c.2.2≠l):=aj;have aq:Hid (Below o.heap.size o wr):=aI;have aZ:Hid (xw o.heap.size wr (.slice (some ⟨g,0,none⟩) R.length af) R):=am;obtain ⟨g',aK,e,-,-,z⟩:=VC am aw;cases e
       clear aj aI am
       by_cases hil:i<R.length
       ·have a3:(i:Int)<(R.length:Int):=by omega
        obtain ⟨c,E⟩:∃c,c=R[i]:=⟨_,rfl⟩;obtain ⟨Y,Z,s0⟩:=c;obtain ⟨q0,q1,q2⟩:=z i hil;rw [←E] at q0 q1 q2;have HC:Hid ((Y,Z,s0)=R[i]):=E;clear z E;go_wp2_with fail
        have aH:Hid ((Zt Zy Y Z s0→Zv Y Z s0≠l)→∀c∈R.take (i+1),Zt Zy c.1 c.2.1 c.2.2→Zv c.1 c.2.1 c.2.2≠l):=fun h c E=>by
         rw [List.take_succ_eq_append_getElem hil,List.mem_append,List.mem_singleton] at E;rcases E with E | E
         ·exact aS.out c E
         ·rw [E,←HC.out];exact h
        have cp:=vV Y Z s0 wr;clear q0 q1 q2;refine cp.mono ?_;clear cp;rintro e w6 ⟨K,ap⟩;have ab:Hid (Below o.heap.size o w6):=aq.out.trans (ap.mono aq.out.size);have aB:Hid (xw o.heap.size w6 (.slice (some ⟨g,0,none⟩) R.length af) R):=qs aZ.out ap;clear ap;rcases K with ⟨aa,rfl⟩ | ⟨aa,rfl⟩
        ·have a0:Hid (Zt Zy Y Z s0):=aa
         obtain ⟨T,hT⟩:∃T,T=Zv Y Z s0:=⟨_,rfl⟩;have HT:Hid (T=Zv Y Z s0):=hT;rw [←hT];clear aa hT
         by_cases hTl:T=l
         ·subst hTl
          have aQ:(T==T)=true:=beq_self_eq_true T;obtain ⟨g',aK,e,-,-,z⟩:=VC aB.out aw;cases e
          obtain ⟨q0,q1,q2⟩:=z i hil;rw [←HC.out] at q0 q1 q2;have pr:w6.heap[w.heap.size]?=some (.cells #[.int .i64 0,.int .i64 0,.string ⟨#[]⟩] 24 (0,0)):=(ab.out.block _ (y7 HP.out.1)).trans HP.out.1;obtain ⟨z0,z1,z2,-⟩:=zw (yu pr (.int .i64 Y) (.int .i64 Z) (.string (za s0)));have HZ:Hid (Below w.heap.size w (YL w6 w.heap.size (.int .i64 Y) (.int .i64 Z) (.string (za s0)))):=yw (yb HP.out.2.1 ab.out) (Nat.le_refl _) _ _ _;obtain ⟨e0,e1,e2,ef⟩:=zw pr
          unfold YL at z0 z1 z2
          clear pr z;go_wp2
          exact bodyPost_ret (v:=.tuple #[.agg #[.int .i64 Y,.int .i64 Z,.string (za s0)],.int .i64 0]) (by simp [results,Tryz.results15,go_sem,z0,z1,z2]) rfl ⟨.inl ⟨Y,Z,s0,a0.out,HT.out.symm,rfl⟩,HZ.out⟩
         ·have aQ:(T==l)=false:=beq_eq_false_iff_ne.2 hTl
          have ak:=aH.out (fun _=>by rw [←HT.out];exact hTl)
          go_wp2
          exact ⟨⟨i+1,by omega,by go_num,ak,ab.out,aB.out⟩,by simp [intOf];omega⟩
        ·have ak:=aH.out (fun h=>absurd h aa)
         go_wp2
         exact ⟨⟨i+1,by omega,by go_num,ak,ab.out,aB.out⟩,by simp [intOf];omega⟩
       ·obtain rfl:i=R.length:=by omega
        have L:Hid (∀k n s,Zt Zy k n s→Zv k n s=l→((j+1:Nat):Int)<k):=fun k n s K h2=>by
         have:=HN.out k n s K h2
         by_cases hk:k=(j:Int)+1
         ·subst hk
          have hm:=(HH.out n s K h2).2;rw [←List.take_length (l:=R)] at hm;exact absurd h2 (aS.out _ hm K)
         ·omega
        clear z HH;go_wp2
        exact ⟨⟨j+1,by omega,by go_num,L.out,aq.out⟩,by simp [intOf];omega⟩
   ·have L:Hid (∀k n s,Zt Zy k n s→Zv k n s=l→((j+1:Nat):Int)<k):=fun k n s K h2=>by
     have:=HN.out k n s K h2
     by_cases hk:k=(j:Int)+1
     ·subst hk
      exact absurd (HH.out n s K h2).1 hpre
     ·omega
    by_cases ag:B.length≤l.length
    ·have ao:¬ (l.length:Int)<(B.length:Int):=by omega
     have ax:=fun W=>XI W l B.length ag
     have a7:¬ (l.take B.length)=B:=hpre;have a4:(l.take B.length==B)=false:=beq_eq_false_iff_ne.2 hpre;clear HH;go_wp2
     exact ⟨⟨j+1,by omega,by go_num,L.out,X.out⟩,by simp [intOf];omega⟩
    ·have ao:(l.length:Int)<(B.length:Int):=by omega
     clear HH;go_wp2
     exact ⟨⟨j+1,by omega,by go_num,L.out,X.out⟩,by simp [intOf];omega⟩
  ·obtain rfl:j=17:=by omega
   have L:Hid (∀k n s,Zt Zy k n s→Zv k n s≠l):=fun k n s K h2=>by
    have:=HN.out k n s K h2
    have:=(YS K).2
    omega
   have pr:wr.heap[w.heap.size]?=some (.cells #[.int .i64 0,.int .i64 0,.string ⟨#[]⟩] 24 (0,0)):=(HB.out.block _ (y7 HP.out.1)).trans HP.out.1;obtain ⟨z0,z1,z2,-⟩:=zw (yu pr (.int .i64 0) (.int .i64 0) (.string ⟨#[]⟩));have HZ:Hid (Below w.heap.size w (YL wr w.heap.size (.int .i64 0) (.int .i64 0) (.string ⟨#[]⟩))):=yw (yb HP.out.2.1 HB.out) (Nat.le_refl _) _ _ _;obtain ⟨e0,e1,e2,ef⟩:=zw pr
   unfold YL at z0 z1 z2
   clear pr;go_wp2
   exact bodyPost_ret (v:=.tuple #[.agg #[.int .i64 0,.int .i64 0,.string ⟨#[]⟩],.int .i64 6]) (by simp [results,Tryz.results15,go_sem,z0,z1,z2]) rfl ⟨.inr ⟨L.out,rfl⟩,HZ.out⟩
end Go.Proofs.YtmbofhpmockmbaaGreatDoor
