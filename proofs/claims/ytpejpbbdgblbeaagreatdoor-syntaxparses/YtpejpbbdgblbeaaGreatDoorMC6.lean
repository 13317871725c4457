import Derived.Test.YtpejpbbdgblbeaaGreatDoorXScan
import Derived.Test.YtpejpbbdgblbeaaGreatDoorMC4
import Derived.Lib.AppendIntMem
import Derived.Test.YtpejpbbdgblbeaaGreatDoorProg
import Derived.WalkKit
import Derived.LaidEql
import Derived.Stop.Asserts
import Derived.RowKitTokens
import Derived.Below
import Derived.LoopN
import Derived.Defers
import Derived.Recover
import Derived.Tactics
import Derived.Tactics2
import Derived.Laws.Pointers
import Derived.RangeFuncRecord
namespace Go.Proofs.YtpejpbbdgblbeaaGreatDoor
open Go.RowKit Go.Shelf
set_option maxHeartbeats 16000000
set_option maxRecDepth 100000
attribute [local go_sem] Oper.semAt_some
theorem zfl (l:List UInt8) (w:World) (hl:4096<l.length) :
  Calls Tryz.prog 47 #[.string (za l)] w fun e w'=>e=.returned (.tuple #[.slice none 0 0,.int .i64 0,.int .i64 5])∧Below w.heap.size w w':=by
 have hsz0:(za l).size=l.length:=rfl;have hl':(4096:Int)<l.length:=by omega
 refine (callsIn_wide (n:=7)).1 ?_;refine callsIn_of_wp_marks Tryz.func47 rfl trivial ?_ rfl;simp only [Tryz.ntmps47,List.size_toArray,List.length_cons,List.length_nil,Nat.reduceAdd,Nat.reduceSub,Array.replicate_succ,Array.replicate_zero,List.push_toArray,List.append_toArray,List.nil_append,List.cons_append]
 gi_wp2
 have m0:Boxed (((w.alloc (.cells #[.slice none 0 0] 58)).alloc (.cells #[.int .i64 0] 3)).alloc (.cells #[.int .i64 5] 26)) w.heap.size 58 (.slice none 0 0):=((Boxed.new w _ _).alloc _).alloc _
 have m1:Boxed (((w.alloc (.cells #[.slice none 0 0] 58)).alloc (.cells #[.int .i64 0] 3)).alloc (.cells #[.int .i64 5] 26)) (w.heap.size+1) 3 (.int .i64 0):=by
  have h:=(Boxed.new (w.alloc (.cells #[.slice none 0 0] 58)) 3 (.int .i64 0)).alloc (.cells #[.int .i64 5] 26);rw [World.size_alloc] at h;exact h
 have m2:Boxed (((w.alloc (.cells #[.slice none 0 0] 58)).alloc (.cells #[.int .i64 0] 3)).alloc (.cells #[.int .i64 5] 26)) (w.heap.size+1+1) 26 (.int .i64 5):=by
  have h:=Boxed.new ((w.alloc (.cells #[.slice none 0 0] 58)).alloc (.cells #[.int .i64 0] 3)) 26 (.int .i64 5);rw [World.size_alloc,World.size_alloc] at h;exact h
 have hB:Below w.heap.size w (((w.alloc (.cells #[.slice none 0 0] 58)).alloc (.cells #[.int .i64 0] 3)).alloc (.cells #[.int .i64 5] 26)):=(((Below.refl _ w).alloc (Nat.le_refl _) _).alloc (by simp) _).alloc (by simp;omega) _
 have c0:=m0.cell;have c1:=m1.cell;have c2:=m2.cell;generalize ((w.alloc (.cells #[.slice none 0 0] 58)).alloc (.cells #[.int .i64 0] 3)).alloc (.cells #[.int .i64 5] 26)=W at c0 c1 c2 hB ⊢;exact ⟨_,XQ rfl _ _ _ rfl rfl rfl (by simp [go_sem,c0]) (by simp [go_sem,c1]) (by simp [go_sem,c2]),rfl,hB⟩
theorem za4 (l:List UInt8) (w:World) (ht:Ys w) :
  Calls Tryz.prog 47 #[.string (za l)] w fun e w'=>∃(r:Value),e=.returned (.tuple #[r,.int .i64 (zC l).2.1,.int .i64 (zC l).2.2]) ∧
   w'.ownsRow w.heap.size 66 5 r (zC l).1.length (z8 (zC l).1)∧Below w.heap.size w w':=by
 by_cases h:4096<l.length
 ·refine (zfl l w h).mono ?_
  rintro e w' ⟨rfl,hB⟩
  unfold zC
  rw [if_pos h];exact ⟨_,rfl,World.ownsRow_nil _ _ _ _,hB⟩
 ·refine (zgw l w (by omega) ht).mono ?_
  rintro e w' hx
  unfold zC
  rw [if_neg h];exact hx
theorem zd6 {w:World} {B e sz n:Nat} {v:Value} {xs:List Value} (h:w.ownsRow B e sz v n xs) (hn:1≤n):∃g cap,v=.slice (some ⟨g,0,none⟩) n cap∧B≤g∧g<w.heap.size∧n≤cap∧∀j u,xs[j]?=some u→w.cell? ⟨g,j,none⟩=some u:=by
 obtain ⟨-,⟨-,h0⟩ | ⟨g,cap,cur,rfl,hg,hh,hc,-,-,hx⟩⟩:=h
 ·omega
 ·refine ⟨g,cap,rfl,hg,(Array.getElem?_eq_some_iff.1 hh).1,hc,fun j u hj=>?_⟩
  rw [cell_of_row _ _ _ _ _ _ hh];rw [←hx,List.getElem?_take] at hj
  split at hj
  ·rw [Array.getElem?_toList] at hj;exact hj
  ·cases hj
theorem zcp {n:Nat} {w w':World} (h:Below n w w') {g j:Nat} (hg:g<n):w'.cell? ⟨g,j,none⟩=w.cell? ⟨g,j,none⟩:=World.cell?_of_block (h.block g hg)
def ZE (c:UInt8):List UInt8:=if c.toNat=92 then [92,92] else if c.toNat=34 then [92,34] else if c.toNat=10 then [92,110] else [c]
def Ya (s:List UInt8):List UInt8:=34::(s.flatMap ZE++[34])
theorem zhu {c:UInt8} {i:Nat} (hi:i<3) (he:(qZ[i]'hi)=c.toNat):ZE c=[92,(UC[i]'hi).toUInt8]:=by
 have hc:i=0∨i=1∨i=2:=by omega
 unfold ZE
 rcases hc with rfl | rfl | rfl
 ·rw [←he];rfl
 ·rw [←he];rfl
 ·rw [←he];rfl
theorem zgx {c:UInt8} (h:∀j (hj:j<3),(qZ[j]'hj)≠c.toNat):ZE c=[c]:=by
 have h0:92≠c.toNat:=h 0 (by decide)
 have h1:34≠c.toNat:=h 1 (by decide)
 have h2:10≠c.toNat:=h 2 (by decide)
 unfold ZE
 rw [if_neg (by omega),if_neg (by omega),if_neg (by omega)]
theorem zgy (c:UInt8):(ZE c).length≤2:=by
 unfold ZE
 split
 ·simp
 ·split
  ·simp
  ·split <;> simp
theorem za5 {w:World} {g r q:Nat} (hr:r<256) (hq:q<256) (hc:w.cell? ⟨g,0,none⟩=some (.int .u8 (r:Int))) (hd:w.cell? ⟨g,1,none⟩=some (.int .u8 (q:Int))):UH w (.slice (some ⟨g,0,none⟩) 2 2) [r.toUInt8,q.toUInt8] :=
 Uk rfl (by unfold maxLen;decide) (fun j u hj=>by
  match j,hj with
  | 0,hj=>simp [Lib.byteCells,Lib.toUInt8_toNat hr] at hj;subst hj;exact hc
  | 1,hj=>simp [Lib.byteCells,Lib.toUInt8_toNat hq] at hj;subst hj;exact hd)
theorem zd7 (B:Nat) (v:Value) (us:List UInt8) (c:UInt8) (w:World) (hown:w.ownsRow B 5 1 v us.length (Lib.byteCells us)) (hB:B≤w.heap.size) (hl:us.length≤1000000000) (ht:Ys w) :
  Calls Tryz.prog 193 #[v,.int .u8 (c.toNat:Int)] w fun e w'=>∃v',e=.returned v'∧w'.ownsRow B 5 1 v' (us++ZE c).length (Lib.byteCells (us++ZE c)) ∧
   Below B w w'∧∀k,k<w.heap.size→some k≠v.ownBlock→w'.heap[k]?=w.heap[k]?:=by
 have e0:=ht.escs 0 (by decide)
 have e1:=ht.escs 1 (by decide)
 have e2:=ht.escs 2 (by decide)
 have e3:=ht.escs 3 (by decide)
 have e4:=ht.escs 4 (by decide)
 have e5:=ht.escs 5 (by decide)
 simp only [List.getElem_cons_zero,List.getElem_cons_succ] at e0 e1 e2 e3 e4 e5;clear ht;have HO:Hid (w.ownsRow B 5 1 v us.length (Lib.byteCells us)):=hown;obtain ⟨n,hn⟩:∃n,n=c.toNat:=⟨_,rfl⟩;have hn256:n<256:=by rw [hn];exact UInt8.toNat_lt c
 rw [←hn];have HN:Hid (n=c.toNat):=hn;clear hown hn
 go_enter Tryz.func193,Tryz.ntmps193
 go_wp2
 clear e0 e1 e2 e3 e4 e5
 go_loopw [8] (fun x wr=>∃i:Nat,i≤3∧x=.int .i64 i∧(∀j (hj:j<3),j<i→(qZ[j]'hj)≠n)∧Below w.heap.size w wr) (fun x _=>3-(intOf x).toNat)
 case atStart=>exact ⟨0,Nat.zero_le _,rfl,fun j _ h=>by omega,Below.refl _ _⟩
 case round =>
  obtain ⟨i,hi,rfl,hall,hbw⟩:=hrel;have HA:Hid (∀j (hj:j<3),j<i→(qZ[j]'hj)≠n):=hall;have HB:Hid (Below w.heap.size w wr):=hbw;have hszw:=hbw.size;have HOW:Hid (wr.ownsRow B 5 1 v us.length (Lib.byteCells us)):=yT HO.out hbw (Nat.le_refl _);clear hall hbw
  by_cases hlt:i<3
  ·have hidx:=fun wx=>zaY wx i hlt
   obtain ⟨a,ha⟩:∃a,a=qZ[i]'hlt:=⟨_,rfl⟩;obtain ⟨b,hb⟩:∃b,b=UC[i]'hlt:=⟨_,rfl⟩
   have hb256:b<256:=by
    have:∀j (hj:j<3),(UC[j]'hj)<256:=by decide
    rw [hb];exact this i hlt
   rw [←ha,←hb] at hidx
   by_cases he:a=n
   ·have HE:Hid (ZE c=[(92:Nat).toUInt8,b.toUInt8]):=show _=_ by rw [hb];exact zhu hlt (by rw [←ha,he,HN.out])
    subst he;clear ha hb
    go_wp2_with (at_builtin;refine ZY rfl _ _ rfl B _ us rfl ((HOW.out.alloc _).alloc _) _ [(92:Nat).toUInt8,b.toUInt8] rfl (za5 (by decide) hb256 (by simp) (by simp)) (by simp;omega) (by simp;omega) ?_;intro v3 w3 hown3 hgrow)
    have hbl:∀k,k<w.heap.size→some k≠v.ownBlock→w3.heap[k]?=w.heap[k]?:=fun k hk hne=>by
     rw [hgrow.block k (by simp;omega) hne,Below.heap_alloc _ _ _ (by simp;omega),Below.heap_alloc _ _ _ (by omega),HB.out.block k hk]
    have hB3:Below B w w3:=(((HB.out.mono hB).alloc (by omega) _).alloc (by simp;omega) _).grown hgrow (by simp;omega) (fun q hq=>(HO.out.lt q hq).1)
    go_ret
    refine ⟨v3,rfl,?_,hB3,hbl⟩;rw [HE.out];exact hown3
   ·have hbe:((a:Int)==(n:Int))=false:=by rw [beq_eq_false_iff_ne];omega
    have HE:Hid ((qZ[i]'hlt)≠n):=show (qZ[i]'hlt)≠n by rw [←ha];exact he
    clear ha hb he;go_wp2
    refine ⟨⟨i+1,by omega,by go_num,fun j hj hji=>?_,HB.out.alloc hszw _⟩,by simp [intOf];omega⟩
    by_cases h:j<i
    ·exact HA.out j hj h
    ·obtain rfl:j=i:=by omega
     exact HE.out
  ·obtain rfl:i=3:=by omega
   have HE:Hid (ZE c=[n.toUInt8]):=show _=_ by
    rw [zgx (fun j hj=>by rw [←HN.out];exact HA.out j hj hj),HN.out]
    congr 1
    exact (UInt8.toNat_inj.1 (Lib.toUInt8_toNat (by rw [←HN.out];exact hn256))).symm
   go_wp2_with (at_builtin;refine ZY rfl _ _ rfl B _ us rfl (HOW.out.alloc _) _ [n.toUInt8] rfl (yy hn256 (by simp)) (by simp;omega) (by simp;omega) ?_;intro v3 w3 hown3 hgrow)
   have hbl:∀k,k<w.heap.size→some k≠v.ownBlock→w3.heap[k]?=w.heap[k]?:=fun k hk hne=>by
    rw [hgrow.block k (by simp;omega) hne,Below.heap_alloc _ _ _ (by omega),HB.out.block k hk]
   have hB3:Below B w w3:=((HB.out.mono hB).alloc (by omega) _).grown hgrow (by simp;omega) (fun q hq=>(HO.out.lt q hq).1)
   go_ret
   refine ⟨v3,rfl,?_,hB3,hbl⟩;rw [HE.out];exact hown3
theorem zcq (w:World) (c:Nat) (hc:c<256):(w.alloc (.cells #[.int .u8 (c:Int)] 5)).ownsRow w.heap.size 5 1 (.slice (some ⟨w.heap.size,0,none⟩) 1 1) [c.toUInt8].length (Lib.byteCells [c.toUInt8]):=by
 refine ⟨by simp [Lib.byteCells],.inr ⟨w.heap.size,1,#[.int .u8 (c:Int)],rfl,Nat.le_refl _,World.alloc_heap_new w _,Nat.le_refl _,by unfold maxLen;decide,by simp,?_⟩⟩
 simp [Lib.byteCells,Lib.toUInt8_toNat hc]
theorem zd8 (s:List UInt8) (i:Nat) (h:i<s.length):(s.take (i+1)).flatMap ZE=(s.take i).flatMap ZE++ZE s[i]:=by
 rw [List.take_succ_eq_append_getElem h,List.flatMap_append]
 simp
theorem za6 (s:List UInt8):(s.flatMap ZE).length≤2*s.length:=by
 induction s with
 | nil=>simp
 | cons x s ih =>
  have:=zgy x
  rw [List.flatMap_cons,List.length_append,List.length_cons];omega
theorem zcr (s:List UInt8) (w:World) (hl:s.length≤100000000) (ht:Ys w) :
  Calls Tryz.prog 178 #[.string (za s)] w fun e w'=>e=.returned (.string (za (Ya s)))∧Below w.heap.size w w':=by
 have HT:Hid (Ys w):=ht;have hsz:(za s).size=s.length:=rfl;obtain ⟨w1,hw1⟩:∃w1,w1=w.alloc (.cells #[.int .u8 ((34:Nat):Int)] 5):=⟨_,rfl⟩;have hz1:w1.heap.size=w.heap.size+1:=by rw [hw1];simp
 have hb1:Below w.heap.size w w1:=by rw [hw1];exact (Below.refl _ w).alloc (Nat.le_refl _) _
 have ho1:w1.ownsRow w.heap.size 5 1 (.slice (some ⟨w.heap.size,0,none⟩) 1 1) [(34:Nat).toUInt8].length (Lib.byteCells [(34:Nat).toUInt8]):=by rw [hw1];exact zcq w 34 (by decide)
 have hconv:=fun (wx:World)=>Lib.run_convert_string_bytes (P:=Tryz.prog) wx 9 120 5 (za s) Tryz.underlying9 Tryz.underlying120 Tryz.underlying5
 have hz2:(Lib.bytesWorld w1 5 (za s)).heap.size=w1.heap.size+1:=Lib.bytesWorld_size w1 5 _;have hb2:Below w1.heap.size w1 (Lib.bytesWorld w1 5 (za s)):=bytesWorld_below w1 5 _
 have hcl:∀j (h:j<s.length),(Lib.bytesWorld w1 5 (za s)).cell? ⟨w1.heap.size,j,none⟩=some (.int .u8 ((s[j]).toNat:Int)):=fun j h=>by
  have h9:=Lib.bytesWorld_cell w1 5 (za s) j h;rw [h9]
  simp [List.getD_eq_getElem?_getD,List.getElem?_eq_getElem h]
 have hnw:=Lib.bytesWorld_at_new w1 5 (za s)
 have hfz:∀cur,(Lib.bytesWorld w1 5 (za s)).heap[w1.heap.size]?≠some (.cells cur 5 (0,0)):=fun cur h=>by
  rw [hnw] at h
  simp at h
 have hgc:=grownCap_ge w1 (za s).size 0 5;have hgm:=grownCap_le_maxLen w1 (za s).size 0 5 (by rw [Zs];unfold maxLen;omega)
 rw [Zs] at hgc hgm
 unfold maxLen at hgm
 rw [hz1] at hz2 hcl hfz;clear hnw ht
 go_enter Tryz.func178,Tryz.ntmps178
 go_wp2_with fail
 rw [show w.alloc (Obj.cells #[Value.int IntKind.u8 34] 5)=w1 from hw1.symm]
 generalize grownCap w1 s.length 0 5=cp at *;have HCL:Hid (∀j (h:j<s.length),(Lib.bytesWorld w1 5 (za s)).cell? ⟨w.heap.size+1,j,none⟩=some (.int .u8 ((s[j]).toNat:Int))):=hcl;have HFZ:Hid (∀cur,(Lib.bytesWorld w1 5 (za s)).heap[w.heap.size+1]?≠some (.cells cur 5 (0,0))):=hfz;have HB2:Hid (Below w.heap.size w (Lib.bytesWorld w1 5 (za s))):=hb1.trans (hb2.mono (by omega))
 have HO2:Hid ((Lib.bytesWorld w1 5 (za s)).ownsRow w.heap.size 5 1 (.slice (some ⟨w.heap.size,0,none⟩) 1 1) [(34:Nat).toUInt8].length (Lib.byteCells [(34:Nat).toUInt8])):=yT ho1 hb2 (Nat.le_refl _);have HZ2:Hid ((Lib.bytesWorld w1 5 (za s)).heap.size=w.heap.size+2):=hz2;clear hcl hfz hb1 hb2 ho1 hz2 hconv hw1 hz1;generalize Lib.bytesWorld w1 5 (za s)=w2 at *
 go_loopw [3,10] (fun vb vi wr=>∃i:Nat,i≤s.length∧vi=.int .i64 i∧wr.ownsRow w.heap.size 5 1 vb (34::(s.take i).flatMap ZE).length (Lib.byteCells (34::(s.take i).flatMap ZE))∧Below w.heap.size w wr∧wr.heap[w.heap.size+1]?=w2.heap[w.heap.size+1]?) (fun _ vi _=>s.length-(intOf vi).toNat)
 case atStart=>exact ⟨0,Nat.zero_le _,rfl,HO2.out,HB2.out,rfl⟩
 case round =>
  obtain ⟨i,hi,rfl,hown,hbw,hkp⟩:=hrel;have hszw:=hbw.size;have HB:Hid (Below w.heap.size w wr):=hbw;have HO:Hid (wr.ownsRow w.heap.size 5 1 u3 (34::(s.take i).flatMap ZE).length (Lib.byteCells (34::(s.take i).flatMap ZE))):=hown;have HKP:Hid (wr.heap[w.heap.size+1]?=w2.heap[w.heap.size+1]?):=hkp
  have hfl:(34::(s.take i).flatMap ZE).length≤2*s.length+1:=by
   have h9:=za6 (s.take i);rw [List.length_take] at h9;rw [List.length_cons];omega
  clear hown hbw hkp
  by_cases hlt:i<s.length
  ·have hc:wr.cell? ⟨w.heap.size+1,i,none⟩=some (.int .u8 ((s[i]).toNat:Int)):=by
    rw [World.cell?_of_block HKP.out];exact HCL.out i hlt
   have hi2:(i:Int)<s.length:=by omega
   have ca:=zd7 w.heap.size u3 (34::(s.take i).flatMap ZE) s[i] wr HO.out hszw (by omega) (HT.out.below HB.out (Nat.le_refl _))
   have HNX:Hid ((34::(s.take i).flatMap ZE)++ZE s[i]=34::(s.take (i+1)).flatMap ZE):=by
    show _=_
    rw [zd8 s i hlt];rfl
   rw [HNX.out] at ca
   have HNB:Hid (some (w.heap.size+1)≠u3.ownBlock):=fun e=>by
    obtain ⟨-,⟨hv,-⟩ | ⟨g,cap,cur,hv,-,hh,-⟩⟩:=HO.out
    ·rw [hv] at e;simp [Value.ownBlock] at e
    ·rw [hv] at e
     simp [Value.ownBlock] at e
     rw [←e,HKP.out] at hh;exact HFZ.out _ hh
   have hz:w.heap.size+1<wr.heap.size:=World.block_lt_of_cell? wr _ hc;obtain ⟨n,hn⟩:∃n,n=(s[i]).toNat:=⟨_,rfl⟩;rw [←hn] at hc ca;clear hn;go_wp2_with fail
   refine ca.mono ?_;clear ca;rintro e w3 ⟨v3,rfl,ho3,hb3,hk3⟩;have HO3:Hid (w3.ownsRow w.heap.size 5 1 v3 (34::(s.take (i+1)).flatMap ZE).length (Lib.byteCells (34::(s.take (i+1)).flatMap ZE))):=ho3;have HB3:Hid (Below w.heap.size w w3):=HB.out.trans hb3;have HK3:Hid (w3.heap[w.heap.size+1]?=w2.heap[w.heap.size+1]?):=(hk3 _ hz HNB.out).trans HKP.out;clear ho3 hb3 hk3;go_wp2
   exact ⟨⟨i+1,by omega,by go_num,HO3.out,HB3.out,HK3.out⟩,by simp [intOf];omega⟩
  ·obtain rfl:i=s.length:=by omega
   have hi2:¬ (s.length:Int)<s.length:=by omega
   have HQ:Hid (Ya s=(34::(s.take s.length).flatMap ZE)++[(34:Nat).toUInt8]):=by
    show _=_
    rw [List.take_length];rfl
   obtain ⟨us,hus⟩:∃us,us=34::(s.take s.length).flatMap ZE:=⟨_,rfl⟩;rw [←hus] at HQ HO hfl;clear hus
   go_wp2_with (at_builtin;refine ZY rfl _ _ rfl w.heap.size _ us rfl (HO.out.alloc _) _ [(34:Nat).toUInt8] rfl (yy (by decide) (by simp)) (by simp;omega) (by simp;omega) ?_;intro v3 w3 hown3 hgrow;obtain ⟨b3,cap3,rfl,hrow3,-,-,-⟩:=YY hown3;have hcv:=US w3 b3 _ cap3 hrow3;rw [show (us++[(34:Nat).toUInt8]).length=us.length+1 by simp] at hcv ⊢)
   have HB3:Hid (Below w.heap.size w w3):=(HB.out.alloc hszw _).grown hgrow (by simp;omega) (fun q hq=>(HO.out.lt q hq).1)
   clear hrow3 hown3 hgrow;go_ret
   rw [HQ.out];exact ⟨rfl,HB3.out⟩
end Go.Proofs.YtpejpbbdgblbeaaGreatDoor
namespace Go.Proofs.YtpejpbbdgblbeaaGreatDoor
open Go.RowKit Go.Extern.Stop Go.Stop Go.Extern
set_option maxHeartbeats 16000000
set_option maxRecDepth 100000
theorem za7 (t:Addr) (w:World):(ReflectliteValue.unpack (.iface 147 (.pointer (some t)))).run Tryz.prog w
  = .ok (.agg #[.pointer (some ⟨11,147,none⟩),.pointer (some ⟨w.heap.size,0,none⟩),.int .u64 150]) (w.alloc (.cells #[.pointer (some t)] 147)):=by kernel_rfl
theorem zfm (a : Addr) (w : World) : (ReflectliteValue.methodAny (ReflectliteValue.valueError "reflectlite.Value.Type" 0) (fun t _ _ _ => ReflectliteType.toType t) #[.agg #[.pointer (some ⟨11, 147, none⟩), .pointer (some a), .int .u64 150]]).run Tryz.prog w
  = .ok (.iface 196 (.agg #[.pointer (some ⟨11,147,none⟩)])) w:=by kernel_rfl
theorem Qb (h : Value) (w : World) : (Go.method 387 196 (.agg #[h]) "Kind").run Tryz.prog w = .ok (242, h) w := by kernel_rfl
theorem zfn (w:World):((ReflectliteType.abiMethod fun t=>(fun a:Nat=>Value.int IntKind.u8 (a:Int)) <$> Rtype.kind t) #[.pointer (some ⟨11,147,none⟩)]).run Tryz.prog w=.ok (.int .u8 22) w:=by kernel_rfl
theorem zfo (w:World):((ReflectliteType.abiMethod fun t=>(fun a:Nat=>Value.int IntKind.u8 (a:Int)) <$> Rtype.kind t) #[.pointer (some ⟨11,145,none⟩)]).run Tryz.prog w=.ok (.int .u8 25) w:=by kernel_rfl
theorem zik (z:Sem Value) (f:TypeId→Addr→Nat→Nat→Sem Value) (v:Value) :
  ReflectliteValue.method z f #[v]=(do match ←ReflectliteValue.parts v with | none=>z | some (t,a,fl)=>f t a fl (fl % 32)):=rfl
theorem QH (a:Addr) (w:World):(ReflectliteValue.parts (.agg #[.pointer (some ⟨11,147,none⟩),.pointer (some a),.int .u64 150])).run Tryz.prog w=.ok (some (147,a,150)) w:=by kernel_rfl
theorem zd9 (a p:Addr) (W:World) (ha:W.cell? a=some (.pointer (some p))) :
  (ReflectliteValue.method (ReflectliteValue.valueError "reflectlite.Value.IsNil" 0) ReflectliteValue.isNil #[.agg #[.pointer (some ⟨11, 147, none⟩), .pointer (some a), .int .u64 150]]).run Tryz.prog W = .ok (.bool false) W := by
 rw [zik];simp only [Sem.run_bind,QH,Result.andThen]
 simp [ReflectliteValue.isNil,loadVar,isAgg,underlying,Tryz.underlying147,ha,Result.andThen]
theorem Qc (h : Value) (w : World) : (Go.method 387 196 (.agg #[h]) "Elem").run Tryz.prog w = .ok (253, .agg #[h]) w := by kernel_rfl
theorem Vp (h : Value) (w : World) : (Go.method 387 196 (.agg #[h]) "Implements").run Tryz.prog w = .ok (254, .agg #[h]) w := by kernel_rfl
theorem vO (h : Value) (w : World) : (Go.method 387 196 (.agg #[h]) "AssignableTo").run Tryz.prog w = .ok (251, .agg #[h]) w := by kernel_rfl
theorem zfp (w:World):(ReflectliteType.method ReflectliteType.elem #[.agg #[.pointer (some ⟨11,147,none⟩)]]).run Tryz.prog w=.ok (.iface 196 (.agg #[.pointer (some ⟨11,145,none⟩)])) w:=by kernel_rfl
theorem UW (w : World) : (ReflectliteType.relation "Implements" ReflectliteType.implements_ #[.agg #[.pointer (some ⟨11, 145, none⟩)], .iface 196 (.agg #[.pointer (some ⟨11, 142, none⟩)])]).run Tryz.prog w = .ok (.bool true) w := by kernel_rfl
theorem zcs (v:Value) (w:World):(ReflectliteType.typeOf #[.iface 145 v]).run Tryz.prog w=.ok (.iface 196 (.agg #[.pointer (some ⟨11,145,none⟩)])) w:=by kernel_rfl
theorem UX (w : World) : (ReflectliteType.relation "AssignableTo" ReflectliteType.assignableTo #[.agg #[.pointer (some ⟨11, 145, none⟩)], .iface 196 (.agg #[.pointer (some ⟨11, 145, none⟩)])]).run Tryz.prog w = .ok (.bool true) w := by kernel_rfl
theorem za8 (a b:Value) (w:World):(ReflectliteValue.unpack (.iface 145 (.agg #[a,b]))).run Tryz.prog w
  = .ok (.agg #[.pointer (some ⟨11,145,none⟩),.pointer (some ⟨w.heap.size,0,none⟩),.int .u64 153]) (w.alloc (.cells #[a,b] 145)):=by kernel_rfl
theorem zct (w:World):(Rtype.elem? 147).run Tryz.prog w=.ok (some 145) w:=by kernel_rfl
theorem zhv (p:Addr) (w:World):(ReflectliteValue.mk 145 p ReflectliteValue.flagAddr).run Tryz.prog w=.ok (.agg #[.pointer (some ⟨11,145,none⟩),.pointer (some p),.int .u64 409]) w:=by kernel_rfl
theorem zea (a p:Addr) (W:World) (ha:W.cell? a=some (.pointer (some p))) :
  (ReflectliteValue.method (ReflectliteValue.valueError "reflectlite.Value.Elem" 0) ReflectliteValue.elem #[.agg #[.pointer (some ⟨11, 147, none⟩), .pointer (some a), .int .u64 150]]).run Tryz.prog W
   = .ok (.agg #[.pointer (some ⟨11,145,none⟩),.pointer (some p),.int .u64 409]) W:=by
 rw [zik];simp only [Sem.run_bind,QH,Result.andThen]
 simp [ReflectliteValue.elem,loadVar,isAgg,underlying,Tryz.underlying147,ha,Result.andThen,zct,zhv]
theorem zcu (a:Addr) (w:World):(ReflectliteValue.parts (.agg #[.pointer (some ⟨11,145,none⟩),.pointer (some a),.int .u64 409])).run Tryz.prog w=.ok (some (145,a,409)) w:=by kernel_rfl
theorem zeb (a:Addr) (w:World):(ReflectliteValue.parts (.agg #[.pointer (some ⟨11,145,none⟩),.pointer (some a),.int .u64 153])).run Tryz.prog w=.ok (some (145,a,153)) w:=by kernel_rfl
theorem zcv (w:World):(Rtype.directlyAssignable 145 145).run Tryz.prog w=.ok true w:=by kernel_rfl
theorem zi1 (v x:Value):ReflectliteValue.set #[v,x]=(do
  let (some (dst,a,fl),some (src,b,_)):=(←ReflectliteValue.parts v,←ReflectliteValue.parts x)
   | unsupported (.noEntry "extern/(internal/reflectlite.Value).Set.zeroValue")
  if fl / ReflectliteValue.flagAddr % 2 == 0 then unsupported (.noEntry "extern/(internal/reflectlite.Value).Set.unaddressable")
  let val ←loadVar src b
  if ←Rtype.directlyAssignable dst src then storeVar dst a val
  else if ←Rtype.implements dst src then
   if (←Rtype.kind src)==20 then
    match val with
    | .nilIface => unsupported (.noEntry "extern/reflectlite: a nil value of one interface type handed on as a value of another")
    | _=>storeVar dst a val
   else storeVar dst a (.iface src val)
  else panicString ("reflectlite.Set: value of type " ++ (← Rtype.spelt src) ++ " is not assignable to type " ++ (← Rtype.spelt dst))
  pure (.tuple #[])):=rfl
theorem zgz (g h:Nat) (x y:Int) (o0 o1:Value) (W:World) (hx:W.cell? ⟨h,0,none⟩=some (.int .i64 x)) (hy:W.cell? ⟨h,1,none⟩=some (.int .i64 y)) (h0:W.cell? ⟨g,0,none⟩=some o0) (h1:W.cell? ⟨g,1,none⟩=some o1) (f0:W.frozen? ⟨g,0,none⟩=false) (f1:W.frozen? ⟨g,1,none⟩=false) :
  (ReflectliteValue.set #[.agg #[.pointer (some ⟨11,145,none⟩),.pointer (some ⟨g,0,none⟩),.int .u64 409],.agg #[.pointer (some ⟨11,145,none⟩),.pointer (some ⟨h,0,none⟩),.int .u64 153]]).run Tryz.prog W
   = .ok (.tuple #[]) ((W.setCell ⟨g,0,none⟩ (.int .i64 x)).setCell ⟨g,1,none⟩ (.int .i64 y)):=by
 have hl:(loadCells ⟨h,0,none⟩ 2).run Tryz.prog W=.ok #[.int .i64 x,.int .i64 y] W:=by
  have e:=run_loadCells_list (P:=Tryz.prog) W ⟨h,0,none⟩ [.int .i64 x,.int .i64 y] (fun j v hj=>by
   match j,hj with
   | 0,hj=>simp at hj;subst hj;simpa [Addr.add] using hx
   | 1,hj=>simp at hj;subst hj;simpa [Addr.add] using hy)
  exact e
 rw [zi1];simp only [Sem.run_bind,zcu,zeb,Result.andThen]
 simp [ReflectliteValue.flagAddr,loadVar,hl,Result.andThen,zcv,storeVar,Value.cells,storeCells,Addr.add]
 rw [run_store Tryz.prog W ⟨g,0,none⟩ _ _ (by rfl)]
 simp [h0,f0]
 have h1':(W.setCell ⟨g,0,none⟩ (.int .i64 x)).cell? ⟨g,1,none⟩=some o1:=by
  rw [World.cell?_setCell_other W _ _ _ (by simp)];exact h1
 rw [run_store Tryz.prog (W.setCell ⟨g,0,none⟩ (.int .i64 x)) ⟨g,1,none⟩ _ _ (by rfl)]
 simp [h1',f1]
theorem zfq (why at0:Int) (g:Nat) (o0 o1:Value) (w:World) (hg:w.cell? ⟨0,0,none⟩=some (.iface 196 (.agg #[.pointer (some ⟨11,142,none⟩)]))) (ht0:w.cell? ⟨g,0,none⟩=some o0) (ht1:w.cell? ⟨g,1,none⟩=some o1) (hf0:w.frozen? ⟨g,0,none⟩=false) (hf1:w.frozen? ⟨g,1,none⟩=false) :
  Calls Tryz.prog 91 #[.iface 145 (.agg #[.int .i64 why,.int .i64 at0]),.iface 147 (.pointer (some ⟨g,0,none⟩))] w fun ev w'=>ev=.returned (.bool true)∧w'=((((((w.alloc (.cells #[.pointer (some ⟨g,0,none⟩)] 147)).alloc (.cells #[.pointer (some ⟨11,147,none⟩),.pointer (some ⟨w.heap.size,0,none⟩),.int .u64 150] 177)).alloc (.cells #[.pointer (some ⟨11,147,none⟩),.pointer (some ⟨w.heap.size,0,none⟩),.int .u64 150] 177)).alloc (.cells #[.int .i64 why,.int .i64 at0] 145)).setCell ⟨g,0,none⟩ (.int .i64 why)).setCell ⟨g,1,none⟩ (.int .i64 at0)):=by
 have h6:=@run_callFunc_extern Tryz.prog 131 _ (fun args=>ReflectliteValue.unpack (args.getD 0 (.tuple #[]))) Tryz.func131 (by kernel_rfl) (by kernel_rfl) (by kernel_rfl) (by kernel_rfl)
 have h7 := @run_callFunc_extern Tryz.prog 132 _ (ReflectliteValue.methodAny (ReflectliteValue.valueError "reflectlite.Value.Type" 0) (fun t _ _ _ => ReflectliteType.toType t)) Tryz.func132 (by kernel_rfl) (by kernel_rfl) (by kernel_rfl) (by kernel_rfl)
 have h8 := @run_callFunc_extern Tryz.prog 133 _ (ReflectliteValue.method (ReflectliteValue.valueError "reflectlite.Value.IsNil" 0) ReflectliteValue.isNil) Tryz.func133 (by kernel_rfl) (by kernel_rfl) (by kernel_rfl) (by kernel_rfl)
 have h27:=@run_callFunc_extern Tryz.prog 242 _ (ReflectliteType.abiMethod fun t=>do pure (.int .u8 (←Rtype.kind t))) Tryz.func242 (by kernel_rfl) (by kernel_rfl) (by kernel_rfl) (by kernel_rfl)
 have h37:=@run_callFunc_extern Tryz.prog 253 _ (ReflectliteType.method ReflectliteType.elem) Tryz.func253 (by kernel_rfl) (by kernel_rfl) (by kernel_rfl) (by kernel_rfl)
 have h38 := @run_callFunc_extern Tryz.prog 254 _ (ReflectliteType.relation "Implements" ReflectliteType.implements_) Tryz.func254 (by kernel_rfl) (by kernel_rfl) (by kernel_rfl) (by kernel_rfl)
 have h10:=@run_callFunc_extern Tryz.prog 161 _ ReflectliteType.typeOf Tryz.func161 (by kernel_rfl) (by kernel_rfl) (by kernel_rfl) (by kernel_rfl)
 have h35 := @run_callFunc_extern Tryz.prog 251 _ (ReflectliteType.relation "AssignableTo" ReflectliteType.assignableTo) Tryz.func251 (by kernel_rfl) (by kernel_rfl) (by kernel_rfl) (by kernel_rfl)
 have h11 := @run_callFunc_extern Tryz.prog 162 _ (ReflectliteValue.method (ReflectliteValue.valueError "reflectlite.Value.Elem" 0) ReflectliteValue.elem) Tryz.func162 (by kernel_rfl) (by kernel_rfl) (by kernel_rfl) (by kernel_rfl)
 have h12:=@run_callFunc_extern Tryz.prog 163 _ ReflectliteValue.set Tryz.func163 (by kernel_rfl) (by kernel_rfl) (by kernel_rfl) (by kernel_rfl)
 have tO:=zcs;have mA:=vO;have a25:=UX;have v25:=za8;have f6:=za7;have f7:=zfm;have mK:=Qb;have mE:=Qc;have mI:=Vp;have k27:=zfn;have k25:=zfo;have e27:=zfp;have i25:=UW;have n8:=zd9 ⟨w.heap.size,0,none⟩ ⟨g,0,none⟩ ((w.alloc (.cells #[.pointer (some ⟨g,0,none⟩)] 147)).alloc (.cells #[.pointer (some ⟨11,147,none⟩),.pointer (some ⟨w.heap.size,0,none⟩),.int .u64 150] 177)) (by simp)
 have hlt:0<w.heap.size:=World.block_lt_of_cell? w _ hg
 have hg2:((w.alloc (.cells #[.pointer (some ⟨g,0,none⟩)] 147)).alloc (.cells #[.pointer (some ⟨11,147,none⟩),.pointer (some ⟨w.heap.size,0,none⟩),.int .u64 150] 177)).cell? ⟨0,0,none⟩=some (.iface 196 (.agg #[.pointer (some ⟨11,142,none⟩)])):=by
  rw [World.cell?_alloc_lt _ _ ⟨0,0,none⟩ (by simp <;> omega),World.cell?_alloc_lt _ _ ⟨0,0,none⟩ hlt];exact hg
 have htl:g<w.heap.size:=World.block_lt_of_cell? w _ ht0;have el:=zea ⟨w.heap.size,0,none⟩ ⟨g,0,none⟩ (((w.alloc (.cells #[.pointer (some ⟨g,0,none⟩)] 147)).alloc (.cells #[.pointer (some ⟨11,147,none⟩),.pointer (some ⟨w.heap.size,0,none⟩),.int .u64 150] 177)).alloc (.cells #[.pointer (some ⟨11,147,none⟩),.pointer (some ⟨w.heap.size,0,none⟩),.int .u64 150] 177)) (by rw [World.cell?_alloc_lt _ _ ⟨w.heap.size,0,none⟩ (by simp;omega)];simp)
 have cg:∀j v,w.cell? ⟨g,j,none⟩=some v→((((w.alloc (.cells #[.pointer (some ⟨g,0,none⟩)] 147)).alloc (.cells #[.pointer (some ⟨11,147,none⟩),.pointer (some ⟨w.heap.size,0,none⟩),.int .u64 150] 177)).alloc (.cells #[.pointer (some ⟨11,147,none⟩),.pointer (some ⟨w.heap.size,0,none⟩),.int .u64 150] 177)).alloc (.cells #[.int .i64 why,.int .i64 at0] 145)).cell? ⟨g,j,none⟩=some v:=fun j v h=>by
  rw [World.cell?_alloc_lt _ _ ⟨g,j,none⟩ (by simp;omega),World.cell?_alloc_lt _ _ ⟨g,j,none⟩ (by simp;omega),World.cell?_alloc_lt _ _ ⟨g,j,none⟩ (by simp;omega),World.cell?_alloc_lt _ _ ⟨g,j,none⟩ htl];exact h
 have fg:∀j,w.frozen? ⟨g,j,none⟩=false→((((w.alloc (.cells #[.pointer (some ⟨g,0,none⟩)] 147)).alloc (.cells #[.pointer (some ⟨11,147,none⟩),.pointer (some ⟨w.heap.size,0,none⟩),.int .u64 150] 177)).alloc (.cells #[.pointer (some ⟨11,147,none⟩),.pointer (some ⟨w.heap.size,0,none⟩),.int .u64 150] 177)).alloc (.cells #[.int .i64 why,.int .i64 at0] 145)).frozen? ⟨g,j,none⟩=false:=fun j h=>by
  rw [World.frozen?_alloc_old _ _ ⟨g,j,none⟩ (by simp;omega),World.frozen?_alloc_old _ _ ⟨g,j,none⟩ (by simp;omega),World.frozen?_alloc_old _ _ ⟨g,j,none⟩ (by simp;omega),World.frozen?_alloc_old _ _ ⟨g,j,none⟩ (Nat.ne_of_lt htl)];exact h
 have st:=zgz g (w.heap.size+1+1+1) why at0 o0 o1 ((((w.alloc (.cells #[.pointer (some ⟨g,0,none⟩)] 147)).alloc (.cells #[.pointer (some ⟨11,147,none⟩),.pointer (some ⟨w.heap.size,0,none⟩),.int .u64 150] 177)).alloc (.cells #[.pointer (some ⟨11,147,none⟩),.pointer (some ⟨w.heap.size,0,none⟩),.int .u64 150] 177)).alloc (.cells #[.int .i64 why,.int .i64 at0] 145))
  (by rw [World.cell?_alloc_at _ _ _ _ (by simp)];rfl) (by rw [World.cell?_alloc_at _ _ _ _ (by simp)];rfl) (cg 0 o0 ht0) (cg 1 o1 ht1) (fg 0 hf0) (fg 1 hf1)
 clear cg fg
 go_enter Tryz.func91,Tryz.ntmps91
 go_wp2
 refine wp_loop_rounds 1 ?_;rw [rounds_succ];go_wp2
 go_ret
 exact ⟨rfl,rfl⟩
theorem zak (v:Value) (w:World):(Instr.typeAssert (.iface 145 v) 20 142 true).run Tryz.prog w=.ok (.tuple #[.iface 145 v,.bool true]) w:=by kernel_rfl
theorem zcw (w:World):(Instr.typeAssert .nilIface 20 142 true).run Tryz.prog w=.ok (.tuple #[.nilIface,.bool false]) w:=by kernel_rfl
def Xh (w:World):Prop:=w.cell? ⟨0,0,none⟩=some (.iface 196 (.agg #[.pointer (some ⟨11,142,none⟩)]))
theorem zcx (p q:Addr) (w:World) :
  CallsD Tryz.prog 90 #[.pointer (some p),.pointer (some q)] .returning w fun e u' w'=>e=.returned (.tuple #[])∧u'=.returning∧w'=w:=by
 have hta:=zcw;refine callsD_of_wpS Tryz.func90 rfl fun c₀ cs hu=>?_
 simp only [Tryz.ntmps90,List.size_toArray,List.length_cons,List.length_nil,Nat.reduceAdd,Nat.reduceSub,Array.replicate_succ,Array.replicate_zero,List.push_toArray,List.append_toArray,List.nil_append,List.cons_append]
 apply wpS_seq
 apply wpS_region
 simp [wpOpsS,go_sem,recoverD,hu,Exit.thenS,hta]
 apply wpS_seq
 apply wpS_region
 simp [wpOpsS,go_sem,Exit.thenS]
 refine wpS_cond (t:=false) (by simp [Act.eval]) ?_
 simp only [Bool.false_eq_true,if_false];refine wpS_of_wp (wp_skip ?_);cases c₀
 simp_all [bodyPostS,results,Tryz.results90]
theorem za9 (N:Nat) (why at0 x y:Int) (older:List PanicEntry) (w:World) (h0:w.heap[N]?=some (.cells #[.int .i64 x] 3 (0,0))) (h1:w.heap[N+1]?=some (.cells #[.int .i64 y] 26 (0,0))) (hg:Xh w) :
  CallsD Tryz.prog 90 #[.pointer (some ⟨N,0,none⟩),.pointer (some ⟨N+1,0,none⟩)] (.panicking ({ v:=.iface 145 (.agg #[.int .i64 why,.int .i64 at0]),recovered:=false }::older)) w fun e u' w' =>
   e=.returned (.tuple #[])∧u'=.panicking ({ v:=.iface 145 (.agg #[.int .i64 why,.int .i64 at0]),recovered:=true }::older)∧w'.cell? ⟨N,0,none⟩=some (.int .i64 at0)∧w'.cell? ⟨N+1,0,none⟩=some (.int .i64 why)∧Below N w w':=by
 have hta:=zak;refine callsD_of_wpS Tryz.func90 rfl fun c₀ cs hu=>?_
 simp only [Tryz.ntmps90,List.size_toArray,List.length_cons,List.length_nil,Nat.reduceAdd,Nat.reduceSub,Array.replicate_succ,Array.replicate_zero,List.push_toArray,List.append_toArray,List.nil_append,List.cons_append]
 apply wpS_seq
 apply wpS_region
 simp [wpOpsS,go_sem,recoverD,hu,Exit.thenS,hta]
 apply wpS_seq
 apply wpS_region
 simp [wpOpsS,go_sem,Exit.thenS]
 refine wpS_cond (t:=true) (by simp [Act.eval]) ?_
 simp only [if_true];refine wpS_of_wp ?_;have hN1:N+1<w.heap.size:=(Array.getElem?_eq_some_iff.1 h1).1;obtain ⟨w1,hw1⟩:∃w1,w1=w.alloc (.cells #[.int .i64 0,.int .i64 0] 145):=⟨_,rfl⟩;have hz1:w1.heap.size=w.heap.size+1:=by rw [hw1];simp
 have hnew:w1.heap[w.heap.size]?=some (.cells #[.int .i64 0,.int .i64 0] 145 (0,0)):=by rw [hw1];exact World.alloc_heap_new w _
 have hold:∀k,k<w.heap.size→w1.heap[k]?=w.heap[k]?:=fun k hk=>by rw [hw1];exact Below.heap_alloc w _ k hk
 have hg1:Xh w1:=by
  unfold Xh at hg ⊢
  have hl:=World.block_lt_of_cell? w _ hg;rw [World.cell?_of_block (hold _ hl)];exact hg
 have ca:=zfq why at0 w.heap.size (.int .i64 0) (.int .i64 0) w1 hg1 (by simp [World.cell?,hnew]) (by simp [World.cell?,hnew]) (by simp [World.frozen?,hnew]) (by simp [World.frozen?,hnew])
 rw [hw1] at ca;go_wp2_with fail
 refine ca.mono ?_;clear ca;rw [←hw1];rintro e w2 ⟨rfl,hw2⟩
 have hkeep:∀k,k<w.heap.size→w2.heap[k]?=w.heap[k]?:=fun k hk=>by
  rw [hw2,Below.heap_setCell _ _ _ _ (by simp;omega),Below.heap_setCell _ _ _ _ (by simp;omega),Below.heap_alloc _ _ _ (by simp;omega),Below.heap_alloc _ _ _ (by simp;omega),Below.heap_alloc _ _ _ (by simp;omega),Below.heap_alloc _ _ _ (by omega),hold k hk]
 have hM:∀j v,w1.cell? ⟨w.heap.size,j,none⟩=some v→∀o1 o2 o3 o4,((((w1.alloc o1).alloc o2).alloc o3).alloc o4).cell? ⟨w.heap.size,j,none⟩=some v:=fun j v h o1 o2 o3 o4=>by
  rw [World.cell?_alloc_lt _ _ ⟨w.heap.size,j,none⟩ (by simp;omega),World.cell?_alloc_lt _ _ ⟨w.heap.size,j,none⟩ (by simp;omega),World.cell?_alloc_lt _ _ ⟨w.heap.size,j,none⟩ (by simp;omega),World.cell?_alloc_lt _ _ ⟨w.heap.size,j,none⟩ (by simp;omega)];exact h
 have c0:w1.cell? ⟨w.heap.size,0,none⟩=some (.int .i64 0):=by simp [World.cell?,hnew]
 have c1:w1.cell? ⟨w.heap.size,1,none⟩=some (.int .i64 0):=by simp [World.cell?,hnew]
 have d0:w2.cell? ⟨w.heap.size,0,none⟩=some (.int .i64 why):=by
  rw [hw2,World.cell?_setCell_other _ _ _ _ (by simp),World.cell?_setCell_same _ _ _ (hM 0 _ c0 _ _ _ _)]
 have d1:w2.cell? ⟨w.heap.size,1,none⟩=some (.int .i64 at0):=by
  rw [hw2];refine World.cell?_setCell_same _ _ _ (u:=.int .i64 0) ?_;rw [World.cell?_setCell_other _ _ _ _ (by simp)]
  exact hM 1 _ c1 _ _ _ _
 have hsz2:w.heap.size≤w2.heap.size:=by rw [hw2];simp;omega
 have g0:w2.heap[N]?=some (.cells #[.int .i64 x] 3 (0,0)):=(hkeep N (by omega)).trans h0
 have g1:w2.heap[N+1]?=some (.cells #[.int .i64 y] 26 (0,0)):=(hkeep (N+1) hN1).trans h1
 have hB2:Below N w w2:=by
  rw [hw2,hw1];exact (((((((Below.refl N w).alloc (by omega) _).alloc (by simp;omega) _).alloc (by simp;omega) _).alloc (by simp;omega) _).alloc (by simp;omega) _).setCell (p:=⟨w.heap.size,0,none⟩) (by simp;omega) _).setCell (p:=⟨w.heap.size,1,none⟩) (by simp;omega) _
 have HB2:Hid (Below N w w2):=hB2;have k0:w2.cell? ⟨N,0,none⟩=some (.int .i64 x):=by simp [World.cell?,g0]
 have k1:w2.cell? ⟨N+1,0,none⟩=some (.int .i64 y):=by simp [World.cell?,g1]
 have k0f:w2.frozen? ⟨N,0,none⟩=false:=by simp [World.frozen?,g0]
 have k1f:w2.frozen? ⟨N+1,0,none⟩=false:=by simp [World.frozen?,g1]
 have k1':∀v,(w2.setCell ⟨N,0,none⟩ v).cell? ⟨N+1,0,none⟩=some (.int .i64 y):=fun v=>(World.cell?_setCell_other _ _ _ _ (by simp)).trans k1
 clear hw2 hkeep hM c0 c1 g0 g1 hB2 hnew hold hg1 hw1;go_wp2
 have hfin:Below N w ((w2.setCell ⟨N,0,none⟩ (.int .i64 at0)).setCell ⟨N+1,0,none⟩ (.int .i64 why)):=(HB2.out.setCell (p:=⟨N,0,none⟩) (by simp) _).setCell (p:=⟨N+1,0,none⟩) (by simp) _
 have e0:((w2.setCell ⟨N,0,none⟩ (.int .i64 at0)).setCell ⟨N+1,0,none⟩ (.int .i64 why)).cell? ⟨N,0,none⟩=some (.int .i64 at0):=by
  rw [World.cell?_setCell_other _ _ _ _ (by simp),World.cell?_setCell_same _ _ _ k0]
 have e1:((w2.setCell ⟨N,0,none⟩ (.int .i64 at0)).setCell ⟨N+1,0,none⟩ (.int .i64 why)).cell? ⟨N+1,0,none⟩=some (.int .i64 why):=World.cell?_setCell_same _ _ _ (k1' _)
 simp [bodyPostS,results,Tryz.results90]
 exact ⟨e0,e1,hfin⟩
abbrev zal (why at0:Int):Value:=.iface 145 (.agg #[.int .i64 why,.int .i64 at0])
abbrev zgA (w:World):World:=(w.alloc (.cells #[.int .i64 0] 3)).alloc (.cells #[.int .i64 0] 26)
end Go.Proofs.YtpejpbbdgblbeaaGreatDoor
namespace Go.Proofs.YtpejpbbdgblbeaaGreatDoor
open Go.RowKit Go.Shelf
set_option maxHeartbeats 16000000
set_option maxRecDepth 100000
abbrev Xc (t:Tk):Value:=.agg #[.int .i64 t.k,.string (za t.s),.int .i64 t.n,.int .i64 t.line,.int .i64 t.at0]
abbrev yi (t:Tk):Obj:=.cells #[.int .i64 t.k,.string (za t.s),.int .i64 t.n,.int .i64 t.line,.int .i64 t.at0] 66
structure zh (r g o cap:Nat) (ts:List Tk) (w:World):Prop where
 cell:w.cell? ⟨r,0,none⟩=some (.slice (some ⟨g,o,none⟩) ts.length cap)
 soft:w.frozen? ⟨r,0,none⟩=false
 hcap:ts.length≤cap
 hmax:cap≤maxLen
 other:r≠g
 toks:∀j u,(z8 ts)[j]?=some u→w.cell? ⟨g,o+j,none⟩=some u
 few:ts.length≤1099511627776
theorem ze {w:World} {p:Addr} {v:Value} (h:w.cell? p=some v) (ob:Obj):(w.alloc ob).cell? p=some v:=by
 rw [World.cell?_alloc_lt _ _ p (World.block_lt_of_cell? w _ h)];exact h
theorem zba (a b c d e:Value) (w:World):(Instr.field 66 (.agg #[a,b,c,d,e]) 4).run Tryz.prog w=.ok e w:=by kernel_rfl
theorem Xi (a b c d e:Value) (w:World):(Instr.field 66 (.agg #[a,b,c,d,e]) 0).run Tryz.prog w=.ok a w:=by kernel_rfl
theorem UY (a b c d e:Value) (w:World):(Instr.field 66 (.agg #[a,b,c,d,e]) 1).run Tryz.prog w=.ok b w:=by kernel_rfl
theorem Z1 (a b c d e:Value) (w:World):(Instr.field 66 (.agg #[a,b,c,d,e]) 3).run Tryz.prog w=.ok d w:=by kernel_rfl
theorem yR (r g o cap:Nat) (t:Tk) (ts:List Tk) (w:World) (h:zh r g o cap (t::ts) w) :
  Calls Tryz.prog 51 #[.pointer (some ⟨r,0,none⟩)] w fun e w'=>e=.returned (Xc t)∧w'=w.alloc (yi t):=by
 have hc:=h.cell;have hm:=h.hmax;have hk:=h.hcap;have t0:=h.toks 0 (.int .i64 t.k) (by simp [z8])
 have t1:=h.toks 1 (.string (za t.s)) (by simp [z8])
 have t2:=h.toks 2 (.int .i64 t.n) (by simp [z8])
 have t3:=h.toks 3 (.int .i64 t.line) (by simp [z8])
 have t4:=h.toks 4 (.int .i64 t.at0) (by simp [z8])
 clear h;simp only [List.length_cons,Nat.add_zero] at hc hk t0;have hc':=ze hc;have t0':=ze t0;have t1':=ze t1;have t2':=ze t2;have t3':=ze t3;have t4':=ze t4;clear hc t0 t1 t2 t3 t4
 go_enter Tryz.func51,Tryz.ntmps51
 go_wp2
 simp [bodyPost,results,Tryz.results51,go_sem]
theorem VM (r g o cap:Nat) (t:Tk) (ts:List Tk) (w:World) (h:zh r g o cap (t::ts) w) (hne:ts≠[]) :
  Calls Tryz.prog 93 #[.pointer (some ⟨r,0,none⟩)] w fun e w'=>e=.returned (.tuple #[])∧w'=w.setCell ⟨r,0,none⟩ (.slice (some ⟨g,o+5,none⟩) ts.length (cap-1)):=by
 have hc:=h.cell;have hm:=h.hmax;have hk:=h.hcap;have hs:=h.soft;clear h;simp only [List.length_cons] at hc hk
 go_enter Tryz.func93,Tryz.ntmps93
 go_wp2
 ·exfalso
  have:=List.length_pos_iff.2 hne
  omega
 ·simp [bodyPost,results,Tryz.results93]
theorem zh.keep {r g o cap:Nat} {ts:List Tk} {w w':World} (h:zh r g o cap ts w) (hr:w'.heap[r]?=w.heap[r]?) (hg:w'.heap[g]?=w.heap[g]?):zh r g o cap ts w' where
 cell:=by rw [World.cell?_of_block hr];exact h.cell
 soft:=by have:=h.soft;simp only [World.frozen?,hr] at this ⊢;exact this
 hcap:=h.hcap
 hmax:=h.hmax
 other:=h.other
 toks:=fun j u hj=>by rw [World.cell?_of_block hg];exact h.toks j u hj
 few:=h.few
theorem zh.next {r g o cap:Nat} {t:Tk} {ts:List Tk} {w:World} (h:zh r g o cap (t::ts) w):zh r g (o+5) (cap-1) ts (w.setCell ⟨r,0,none⟩ (.slice (some ⟨g,o+5,none⟩) ts.length (cap-1))) where
 cell:=World.cell?_setCell_same _ _ _ h.cell
 soft:=by rw [World.frozen?_setCell];exact h.soft
 hcap:=by have:=h.hcap;simp only [List.length_cons] at this;omega
 hmax:=by have:=h.hmax;omega
 other:=h.other
 toks:=fun j u hj=>by
  rw [World.cell?_setCell_other _ _ _ _ (by simp)]
  have:=h.toks (5+j) u (by simpa [z8,List.getElem?_append,Nat.add_comm] using hj)
  rw [show o+5+j=o+(5+j) by omega];exact this
 few:=by have:=h.few;simp only [List.length_cons] at this;omega
theorem UZ (r g o cap:Nat) (t:Tk) (ts:List Tk) (w:World) (h:zh r g o cap (t::ts) w) :
  Calls Tryz.prog 55 #[.pointer (some ⟨r,0,none⟩)] w fun e w'=>e=.panicked [{ v:=zal 6 t.at0,recovered:=false }]∧w'=w.alloc (yi t):=by
 have ch:=yR r g o cap t ts w h;have hf:=zba;have hp:∀(v:Value) (w:World),(Instr.panic (.iface 145 v)).run Tryz.prog w=.halt (.panic (.iface 145 v)) w:=fun _ _=>rfl
 clear h
 go_enter Tryz.func55,Tryz.ntmps55
 go_wp2_with fail
 refine ch.mono ?_;rintro e w' ⟨rfl,rfl⟩;simp only [Xc];go_wp2
 exact ⟨rfl,rfl,rfl⟩
def zn (t:Tk) (s:List UInt8):Bool:=(t.k==4||t.k==5)&&t.s==s
theorem zgB (r g o cap:Nat) (t:Tk) (ts:List Tk) (s:List UInt8) (w:World) (h:zh r g o cap (t::ts) w) :
  Calls Tryz.prog 92 #[.pointer (some ⟨r,0,none⟩),.string (za s)] w fun e w'=>e=.returned (.bool (zn t s))∧w'=(w.alloc (yi t)).alloc (yi t):=by
 have ch:=yR r g o cap t ts w h;clear h
 go_enter Tryz.func92,Tryz.ntmps92
 go_wp2_with fail
 refine ch.mono ?_;clear ch;rintro e w' ⟨rfl,rfl⟩;simp only [Xc];go_wp2
 all_goals simp_all [bodyPost,results,Tryz.results92,zn]
 ·rename_i h
  have hk:t.k=4:=by omega
  exact ⟨fun _=>.inl hk,by simp [yi,hk]⟩
 ·rename_i h
  have hk:t.k=5:=by omega
  exact ⟨fun _=>.inr hk,by simp [yi,hk]⟩
 ·intro hh;omega
end Go.Proofs.YtpejpbbdgblbeaaGreatDoor
