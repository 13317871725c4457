import Derived.Test.YtdgpapchkpnijaaGreatDoorXScan
import Derived.Test.YtdgpapchkpnijaaGreatDoorMC4
import Derived.Lib.AppendIntMem
import Derived.Test.YtdgpapchkpnijaaGreatDoorMC8
import Derived.Defers
import Derived.Recover
import Derived.Tactics
import Derived.Tactics2
import Derived.Laws.Pointers
import Derived.RangeFuncRecord
namespace Go.Proofs.YtdgpapchkpnijaaGreatDoor
open Go.RowKit Go.Shelf
set_option maxHeartbeats 16000000
set_option maxRecDepth 100000
attribute [local go_sem] Oper.semAt_some
theorem zcH (l:List UInt8) (w:World) (hl:4096<l.length) :
  Calls Tryz.prog 53 #[.string (za l)] w fun e w'=>e=.returned (.tuple #[.slice none 0 0,.int .i64 0,.int .i64 5])∧Below w.heap.size w w':=by
 have hsz0:(za l).size=l.length:=rfl;have hl':(4096:Int)<l.length:=by omega
 refine (callsIn_wide (n:=7)).1 ?_;refine callsIn_of_wp_marks Tryz.func53 rfl trivial ?_ rfl;simp only [Tryz.ntmps53,List.size_toArray,List.length_cons,List.length_nil,Nat.reduceAdd,Nat.reduceSub,Array.replicate_succ,Array.replicate_zero,List.push_toArray,List.append_toArray,List.nil_append,List.cons_append]
 gi_wp2
 have m0:Boxed (((w.alloc (.cells #[.slice none 0 0] 61)).alloc (.cells #[.int .i64 0] 3)).alloc (.cells #[.int .i64 5] 26)) w.heap.size 61 (.slice none 0 0):=((Boxed.new w _ _).alloc _).alloc _
 have m1:Boxed (((w.alloc (.cells #[.slice none 0 0] 61)).alloc (.cells #[.int .i64 0] 3)).alloc (.cells #[.int .i64 5] 26)) (w.heap.size+1) 3 (.int .i64 0):=by
  have h:=(Boxed.new (w.alloc (.cells #[.slice none 0 0] 61)) 3 (.int .i64 0)).alloc (.cells #[.int .i64 5] 26);rw [World.size_alloc] at h;exact h
 have m2:Boxed (((w.alloc (.cells #[.slice none 0 0] 61)).alloc (.cells #[.int .i64 0] 3)).alloc (.cells #[.int .i64 5] 26)) (w.heap.size+1+1) 26 (.int .i64 5):=by
  have h:=Boxed.new ((w.alloc (.cells #[.slice none 0 0] 61)).alloc (.cells #[.int .i64 0] 3)) 26 (.int .i64 5);rw [World.size_alloc,World.size_alloc] at h;exact h
 have hB:Below w.heap.size w (((w.alloc (.cells #[.slice none 0 0] 61)).alloc (.cells #[.int .i64 0] 3)).alloc (.cells #[.int .i64 5] 26)):=(((Below.refl _ w).alloc (Nat.le_refl _) _).alloc (by simp) _).alloc (by simp;omega) _
 have c0:=m0.cell;have c1:=m1.cell;have c2:=m2.cell;generalize ((w.alloc (.cells #[.slice none 0 0] 61)).alloc (.cells #[.int .i64 0] 3)).alloc (.cells #[.int .i64 5] 26)=W at c0 c1 c2 hB ⊢;exact ⟨_,xH rfl _ _ _ rfl rfl rfl (by simp [go_sem,c0]) (by simp [go_sem,c1]) (by simp [go_sem,c2]),rfl,hB⟩
theorem qT (l:List UInt8) (w:World) (ht:yE w) :
  Calls Tryz.prog 53 #[.string (za l)] w fun e w'=>∃(r:Value),e=.returned (.tuple #[r,.int .i64 (zv l).2.1,.int .i64 (zv l).2.2]) ∧
   w'.ownsRow w.heap.size 69 5 r (zv l).1.length (zO (zv l).1)∧Below w.heap.size w w':=by
 by_cases h:4096<l.length
 ·refine (zcH l w h).mono ?_
  rintro e w' ⟨rfl,hB⟩
  unfold zv
  rw [if_pos h];exact ⟨_,rfl,World.ownsRow_nil _ _ _ _,hB⟩
 ·refine (zdI l w (by omega) ht).mono ?_
  rintro e w' hx
  unfold zv
  rw [if_neg h];exact hx
theorem zbH {w:World} {B e sz n:Nat} {v:Value} {xs:List Value} (h:w.ownsRow B e sz v n xs) (hn:1≤n):∃g cap,v=.slice (some ⟨g,0,none⟩) n cap∧B≤g∧g<w.heap.size∧n≤cap∧∀j u,xs[j]?=some u→w.cell? ⟨g,j,none⟩=some u:=by
 obtain ⟨-,⟨-,h0⟩ | ⟨g,cap,cur,rfl,hg,hh,hc,-,-,hx⟩⟩:=h
 ·omega
 ·refine ⟨g,cap,rfl,hg,(Array.getElem?_eq_some_iff.1 hh).1,hc,fun j u hj=>?_⟩
  rw [cell_of_row _ _ _ _ _ _ hh];rw [←hx,List.getElem?_take] at hj
  split at hj
  ·rw [Array.getElem?_toList] at hj;exact hj
  ·cases hj
theorem zai {n:Nat} {w w':World} (h:Below n w w') {g j:Nat} (hg:g<n):w'.cell? ⟨g,j,none⟩=w.cell? ⟨g,j,none⟩:=World.cell?_of_block (h.block g hg)
def Zi (c:UInt8):List UInt8:=if c.toNat=92 then [92,92] else if c.toNat=34 then [92,34] else if c.toNat=10 then [92,110] else [c]
def yq (s:List UInt8):List UInt8:=34::(s.flatMap Zi++[34])
theorem zex {c:UInt8} {i:Nat} (hi:i<3) (he:(Ub[i]'hi)=c.toNat):Zi c=[92,(VS[i]'hi).toUInt8]:=by
 have hc:i=0∨i=1∨i=2:=by omega
 unfold Zi
 rcases hc with rfl | rfl | rfl
 ·rw [←he];rfl
 ·rw [←he];rfl
 ·rw [←he];rfl
theorem zdJ {c:UInt8} (h:∀j (hj:j<3),(Ub[j]'hj)≠c.toNat):Zi c=[c]:=by
 have h0:92≠c.toNat:=h 0 (by decide)
 have h1:34≠c.toNat:=h 1 (by decide)
 have h2:10≠c.toNat:=h 2 (by decide)
 unfold Zi
 rw [if_neg (by omega),if_neg (by omega),if_neg (by omega)]
theorem zdK (c:UInt8):(Zi c).length≤2:=by
 unfold Zi
 split
 ·simp
 ·split
  ·simp
  ·split <;> simp
theorem qU {w:World} {g r q:Nat} (hr:r<256) (hq:q<256) (hc:w.cell? ⟨g,0,none⟩=some (.int .u8 (r:Int))) (hd:w.cell? ⟨g,1,none⟩=some (.int .u8 (q:Int))):VX w (.slice (some ⟨g,0,none⟩) 2 2) [r.toUInt8,q.toUInt8] :=
 VD rfl (by unfold maxLen;decide) (fun j u hj=>by
  match j,hj with
  | 0,hj=>simp [Lib.byteCells,Lib.toUInt8_toNat hr] at hj;subst hj;exact hc
  | 1,hj=>simp [Lib.byteCells,Lib.toUInt8_toNat hq] at hj;subst hj;exact hd)
theorem zbI (B:Nat) (v:Value) (us:List UInt8) (c:UInt8) (w:World) (hown:w.ownsRow B 5 1 v us.length (Lib.byteCells us)) (hB:B≤w.heap.size) (hl:us.length≤1000000000) (ht:yE w) :
  Calls Tryz.prog 200 #[v,.int .u8 (c.toNat:Int)] w fun e w'=>∃v',e=.returned v'∧w'.ownsRow B 5 1 v' (us++Zi c).length (Lib.byteCells (us++Zi c)) ∧
   Below B w w'∧∀k,k<w.heap.size→some k≠v.ownBlock→w'.heap[k]?=w.heap[k]?:=by
 have e0:=ht.escs 0 (by decide)
 have e1:=ht.escs 1 (by decide)
 have e2:=ht.escs 2 (by decide)
 have e3:=ht.escs 3 (by decide)
 have e4:=ht.escs 4 (by decide)
 have e5:=ht.escs 5 (by decide)
 simp only [List.getElem_cons_zero,List.getElem_cons_succ] at e0 e1 e2 e3 e4 e5;clear ht;have HO:Hid (w.ownsRow B 5 1 v us.length (Lib.byteCells us)):=hown;obtain ⟨n,hn⟩:∃n,n=c.toNat:=⟨_,rfl⟩;have hn256:n<256:=by rw [hn];exact UInt8.toNat_lt c
 rw [←hn];have HN:Hid (n=c.toNat):=hn;clear hown hn
 go_enter Tryz.func200,Tryz.ntmps200
 go_wp2
 clear e0 e1 e2 e3 e4 e5
 go_loopw [8] (fun x wr=>∃i:Nat,i≤3∧x=.int .i64 i∧(∀j (hj:j<3),j<i→(Ub[j]'hj)≠n)∧Below w.heap.size w wr) (fun x _=>3-(intOf x).toNat)
 case atStart=>exact ⟨0,Nat.zero_le _,rfl,fun j _ h=>by omega,Below.refl _ _⟩
 case round =>
  obtain ⟨i,hi,rfl,hall,hbw⟩:=hrel;have HA:Hid (∀j (hj:j<3),j<i→(Ub[j]'hj)≠n):=hall;have HB:Hid (Below w.heap.size w wr):=hbw;have hszw:=hbw.size;have HOW:Hid (wr.ownsRow B 5 1 v us.length (Lib.byteCells us)):=xS HO.out hbw (Nat.le_refl _);clear hall hbw
  by_cases hlt:i<3
  ·have hidx:=fun wx=>qN wx i hlt
   obtain ⟨a,ha⟩:∃a,a=Ub[i]'hlt:=⟨_,rfl⟩;obtain ⟨b,hb⟩:∃b,b=VS[i]'hlt:=⟨_,rfl⟩
   have hb256:b<256:=by
    have:∀j (hj:j<3),(VS[j]'hj)<256:=by decide
    rw [hb];exact this i hlt
   rw [←ha,←hb] at hidx
   by_cases he:a=n
   ·have HE:Hid (Zi c=[(92:Nat).toUInt8,b.toUInt8]):=show _=_ by rw [hb];exact zex hlt (by rw [←ha,he,HN.out])
    subst he;clear ha hb
    go_wp2_with (at_builtin;refine ZB rfl _ _ rfl B _ us rfl ((HOW.out.alloc _).alloc _) _ [(92:Nat).toUInt8,b.toUInt8] rfl (qU (by decide) hb256 (by simp) (by simp)) (by simp;omega) (by simp;omega) ?_;intro v3 w3 hown3 hgrow)
    have hbl:∀k,k<w.heap.size→some k≠v.ownBlock→w3.heap[k]?=w.heap[k]?:=fun k hk hne=>by
     rw [hgrow.block k (by simp;omega) hne,Below.heap_alloc _ _ _ (by simp;omega),Below.heap_alloc _ _ _ (by omega),HB.out.block k hk]
    have hB3:Below B w w3:=(((HB.out.mono hB).alloc (by omega) _).alloc (by simp;omega) _).grown hgrow (by simp;omega) (fun q hq=>(HO.out.lt q hq).1)
    go_ret
    refine ⟨v3,rfl,?_,hB3,hbl⟩;rw [HE.out];exact hown3
   ·have hbe:((a:Int)==(n:Int))=false:=by rw [beq_eq_false_iff_ne];omega
    have HE:Hid ((Ub[i]'hlt)≠n):=show (Ub[i]'hlt)≠n by rw [←ha];exact he
    clear ha hb he;go_wp2
    refine ⟨⟨i+1,by omega,by go_num,fun j hj hji=>?_,HB.out.alloc hszw _⟩,by simp [intOf];omega⟩
    by_cases h:j<i
    ·exact HA.out j hj h
    ·obtain rfl:j=i:=by omega
     exact HE.out
  ·obtain rfl:i=3:=by omega
   have HE:Hid (Zi c=[n.toUInt8]):=show _=_ by
    rw [zdJ (fun j hj=>by rw [←HN.out];exact HA.out j hj hj),HN.out]
    congr 1
    exact (UInt8.toNat_inj.1 (Lib.toUInt8_toNat (by rw [←HN.out];exact hn256))).symm
   go_wp2_with (at_builtin;refine ZB rfl _ _ rfl B _ us rfl (HOW.out.alloc _) _ [n.toUInt8] rfl (ZX hn256 (by simp)) (by simp;omega) (by simp;omega) ?_;intro v3 w3 hown3 hgrow)
   have hbl:∀k,k<w.heap.size→some k≠v.ownBlock→w3.heap[k]?=w.heap[k]?:=fun k hk hne=>by
    rw [hgrow.block k (by simp;omega) hne,Below.heap_alloc _ _ _ (by omega),HB.out.block k hk]
   have hB3:Below B w w3:=((HB.out.mono hB).alloc (by omega) _).grown hgrow (by simp;omega) (fun q hq=>(HO.out.lt q hq).1)
   go_ret
   refine ⟨v3,rfl,?_,hB3,hbl⟩;rw [HE.out];exact hown3
theorem zaj (w:World) (c:Nat) (hc:c<256):(w.alloc (.cells #[.int .u8 (c:Int)] 5)).ownsRow w.heap.size 5 1 (.slice (some ⟨w.heap.size,0,none⟩) 1 1) [c.toUInt8].length (Lib.byteCells [c.toUInt8]):=by
 refine ⟨by simp [Lib.byteCells],.inr ⟨w.heap.size,1,#[.int .u8 (c:Int)],rfl,Nat.le_refl _,World.alloc_heap_new w _,Nat.le_refl _,by unfold maxLen;decide,by simp,?_⟩⟩
 simp [Lib.byteCells,Lib.toUInt8_toNat hc]
theorem zbJ (s:List UInt8) (i:Nat) (h:i<s.length):(s.take (i+1)).flatMap Zi=(s.take i).flatMap Zi++Zi s[i]:=by
 rw [List.take_succ_eq_append_getElem h,List.flatMap_append]
 simp
theorem qW (s:List UInt8):(s.flatMap Zi).length≤2*s.length:=by
 induction s with
 | nil=>simp
 | cons x s ih =>
  have:=zdK x
  rw [List.flatMap_cons,List.length_append,List.length_cons];omega
theorem zak (s:List UInt8) (w:World) (hl:s.length≤100000000) (ht:yE w) :
  Calls Tryz.prog 184 #[.string (za s)] w fun e w'=>e=.returned (.string (za (yq s)))∧Below w.heap.size w w':=by
 have HT:Hid (yE w):=ht;have hsz:(za s).size=s.length:=rfl;obtain ⟨w1,hw1⟩:∃w1,w1=w.alloc (.cells #[.int .u8 ((34:Nat):Int)] 5):=⟨_,rfl⟩;have hz1:w1.heap.size=w.heap.size+1:=by rw [hw1];simp
 have hb1:Below w.heap.size w w1:=by rw [hw1];exact (Below.refl _ w).alloc (Nat.le_refl _) _
 have ho1:w1.ownsRow w.heap.size 5 1 (.slice (some ⟨w.heap.size,0,none⟩) 1 1) [(34:Nat).toUInt8].length (Lib.byteCells [(34:Nat).toUInt8]):=by rw [hw1];exact zaj w 34 (by decide)
 have hconv:=fun (wx:World)=>Lib.run_convert_string_bytes (P:=Tryz.prog) wx 9 125 5 (za s) Tryz.underlying9 Tryz.underlying125 Tryz.underlying5
 have hz2:(Lib.bytesWorld w1 5 (za s)).heap.size=w1.heap.size+1:=Lib.bytesWorld_size w1 5 _;have hb2:Below w1.heap.size w1 (Lib.bytesWorld w1 5 (za s)):=bytesWorld_below w1 5 _
 have hcl:∀j (h:j<s.length),(Lib.bytesWorld w1 5 (za s)).cell? ⟨w1.heap.size,j,none⟩=some (.int .u8 ((s[j]).toNat:Int)):=fun j h=>by
  have h9:=Lib.bytesWorld_cell w1 5 (za s) j h;rw [h9]
  simp [List.getD_eq_getElem?_getD,List.getElem?_eq_getElem h]
 have hnw:=Lib.bytesWorld_at_new w1 5 (za s)
 have hfz:∀cur,(Lib.bytesWorld w1 5 (za s)).heap[w1.heap.size]?≠some (.cells cur 5 (0,0)):=fun cur h=>by
  rw [hnw] at h
  simp at h
 have hgc:=grownCap_ge w1 (za s).size 0 5;have hgm:=grownCap_le_maxLen w1 (za s).size 0 5 (by rw [Zd];unfold maxLen;omega)
 rw [Zd] at hgc hgm
 unfold maxLen at hgm
 rw [hz1] at hz2 hcl hfz;clear hnw ht
 go_enter Tryz.func184,Tryz.ntmps184
 go_wp2_with fail
 rw [show w.alloc (Obj.cells #[Value.int IntKind.u8 34] 5)=w1 from hw1.symm]
 generalize grownCap w1 s.length 0 5=cp at *;have HCL:Hid (∀j (h:j<s.length),(Lib.bytesWorld w1 5 (za s)).cell? ⟨w.heap.size+1,j,none⟩=some (.int .u8 ((s[j]).toNat:Int))):=hcl;have HFZ:Hid (∀cur,(Lib.bytesWorld w1 5 (za s)).heap[w.heap.size+1]?≠some (.cells cur 5 (0,0))):=hfz;have HB2:Hid (Below w.heap.size w (Lib.bytesWorld w1 5 (za s))):=hb1.trans (hb2.mono (by omega))
 have HO2:Hid ((Lib.bytesWorld w1 5 (za s)).ownsRow w.heap.size 5 1 (.slice (some ⟨w.heap.size,0,none⟩) 1 1) [(34:Nat).toUInt8].length (Lib.byteCells [(34:Nat).toUInt8])):=xS ho1 hb2 (Nat.le_refl _);have HZ2:Hid ((Lib.bytesWorld w1 5 (za s)).heap.size=w.heap.size+2):=hz2;clear hcl hfz hb1 hb2 ho1 hz2 hconv hw1 hz1;generalize Lib.bytesWorld w1 5 (za s)=w2 at *
 go_loopw [3,10] (fun vb vi wr=>∃i:Nat,i≤s.length∧vi=.int .i64 i∧wr.ownsRow w.heap.size 5 1 vb (34::(s.take i).flatMap Zi).length (Lib.byteCells (34::(s.take i).flatMap Zi))∧Below w.heap.size w wr∧wr.heap[w.heap.size+1]?=w2.heap[w.heap.size+1]?) (fun _ vi _=>s.length-(intOf vi).toNat)
 case atStart=>exact ⟨0,Nat.zero_le _,rfl,HO2.out,HB2.out,rfl⟩
 case round =>
  obtain ⟨i,hi,rfl,hown,hbw,hkp⟩:=hrel;have hszw:=hbw.size;have HB:Hid (Below w.heap.size w wr):=hbw;have HO:Hid (wr.ownsRow w.heap.size 5 1 u3 (34::(s.take i).flatMap Zi).length (Lib.byteCells (34::(s.take i).flatMap Zi))):=hown;have HKP:Hid (wr.heap[w.heap.size+1]?=w2.heap[w.heap.size+1]?):=hkp
  have hfl:(34::(s.take i).flatMap Zi).length≤2*s.length+1:=by
   have h9:=qW (s.take i);rw [List.length_take] at h9;rw [List.length_cons];omega
  clear hown hbw hkp
  by_cases hlt:i<s.length
  ·have hc:wr.cell? ⟨w.heap.size+1,i,none⟩=some (.int .u8 ((s[i]).toNat:Int)):=by
    rw [World.cell?_of_block HKP.out];exact HCL.out i hlt
   have hi2:(i:Int)<s.length:=by omega
   have ca:=zbI w.heap.size u3 (34::(s.take i).flatMap Zi) s[i] wr HO.out hszw (by omega) (HT.out.below HB.out (Nat.le_refl _))
   have HNX:Hid ((34::(s.take i).flatMap Zi)++Zi s[i]=34::(s.take (i+1)).flatMap Zi):=by
    show _=_
    rw [zbJ s i hlt];rfl
   rw [HNX.out] at ca
   have HNB:Hid (some (w.heap.size+1)≠u3.ownBlock):=fun e=>by
    obtain ⟨-,⟨hv,-⟩ | ⟨g,cap,cur,hv,-,hh,-⟩⟩:=HO.out
    ·rw [hv] at e;simp [Value.ownBlock] at e
    ·rw [hv] at e
     simp [Value.ownBlock] at e
     rw [←e,HKP.out] at hh;exact HFZ.out _ hh
   have hz:w.heap.size+1<wr.heap.size:=World.block_lt_of_cell? wr _ hc;obtain ⟨n,hn⟩:∃n,n=(s[i]).toNat:=⟨_,rfl⟩;rw [←hn] at hc ca;clear hn;go_wp2_with fail
   refine ca.mono ?_;clear ca;rintro e w3 ⟨v3,rfl,ho3,hb3,hk3⟩;have HO3:Hid (w3.ownsRow w.heap.size 5 1 v3 (34::(s.take (i+1)).flatMap Zi).length (Lib.byteCells (34::(s.take (i+1)).flatMap Zi))):=ho3;have HB3:Hid (Below w.heap.size w w3):=HB.out.trans hb3;have HK3:Hid (w3.heap[w.heap.size+1]?=w2.heap[w.heap.size+1]?):=(hk3 _ hz HNB.out).trans HKP.out;clear ho3 hb3 hk3;go_wp2
   exact ⟨⟨i+1,by omega,by go_num,HO3.out,HB3.out,HK3.out⟩,by simp [intOf];omega⟩
  ·obtain rfl:i=s.length:=by omega
   have hi2:¬ (s.length:Int)<s.length:=by omega
   have HQ:Hid (yq s=(34::(s.take s.length).flatMap Zi)++[(34:Nat).toUInt8]):=by
    show _=_
    rw [List.take_length];rfl
   obtain ⟨us,hus⟩:∃us,us=34::(s.take s.length).flatMap Zi:=⟨_,rfl⟩;rw [←hus] at HQ HO hfl;clear hus
   go_wp2_with (at_builtin;refine ZB rfl _ _ rfl w.heap.size _ us rfl (HO.out.alloc _) _ [(34:Nat).toUInt8] rfl (ZX (by decide) (by simp)) (by simp;omega) (by simp;omega) ?_;intro v3 w3 hown3 hgrow;obtain ⟨b3,cap3,rfl,hrow3,-,-,-⟩:=y7 hown3;have hcv:=uc w3 b3 _ cap3 hrow3;rw [show (us++[(34:Nat).toUInt8]).length=us.length+1 by simp] at hcv ⊢)
   have HB3:Hid (Below w.heap.size w w3):=(HB.out.alloc hszw _).grown hgrow (by simp;omega) (fun q hq=>(HO.out.lt q hq).1)
   clear hrow3 hown3 hgrow;go_ret
   rw [HQ.out];exact ⟨rfl,HB3.out⟩
end Go.Proofs.YtdgpapchkpnijaaGreatDoor
namespace Go.Proofs.YtdgpapchkpnijaaGreatDoor
open Go.RowKit Go.Extern.Stop Go.Stop Go.Extern
set_option maxHeartbeats 16000000
set_option maxRecDepth 100000
theorem U5 (v:Value) (w:World):(Instr.typeAssert (.iface 148 v) 20 145 true).run Tryz.prog w=.ok (.tuple #[.iface 148 v,.bool true]) w:=by kernel_rfl
theorem zal (w:World):(Instr.typeAssert .nilIface 20 145 true).run Tryz.prog w=.ok (.tuple #[.nilIface,.bool false]) w:=by kernel_rfl
def Y7 (w:World):Prop:=w.cell? ⟨0,0,none⟩=some (.iface 199 (.agg #[.pointer (some ⟨11,145,none⟩)]))
theorem zam (p q:Addr) (w:World) :
  CallsD Tryz.prog 97 #[.pointer (some p),.pointer (some q)] .returning w fun e u' w'=>e=.returned (.tuple #[])∧u'=.returning∧w'=w:=by
 have hta:=zal;refine callsD_of_wpS Tryz.func97 rfl fun c₀ cs hu=>?_
 simp only [Tryz.ntmps97,List.size_toArray,List.length_cons,List.length_nil,Nat.reduceAdd,Nat.reduceSub,Array.replicate_succ,Array.replicate_zero,List.push_toArray,List.append_toArray,List.nil_append,List.cons_append]
 apply wpS_seq
 apply wpS_region
 simp [wpOpsS,go_sem,recoverD,hu,Exit.thenS,hta]
 apply wpS_seq
 apply wpS_region
 simp [wpOpsS,go_sem,Exit.thenS]
 refine wpS_cond (t:=false) (by simp [Act.eval]) ?_
 simp only [Bool.false_eq_true,if_false];refine wpS_of_wp (wp_skip ?_);cases c₀
 simp_all [bodyPostS,results,Tryz.results97]
theorem qX (N:Nat) (why at0 x y:Int) (older:List PanicEntry) (w:World) (h0:w.heap[N]?=some (.cells #[.int .i64 x] 3 (0,0))) (h1:w.heap[N+1]?=some (.cells #[.int .i64 y] 26 (0,0))) (hg:Y7 w) :
  CallsD Tryz.prog 97 #[.pointer (some ⟨N,0,none⟩),.pointer (some ⟨N+1,0,none⟩)] (.panicking ({ v:=.iface 148 (.agg #[.int .i64 why,.int .i64 at0]),recovered:=false }::older)) w fun e u' w' =>
   e=.returned (.tuple #[])∧u'=.panicking ({ v:=.iface 148 (.agg #[.int .i64 why,.int .i64 at0]),recovered:=true }::older)∧w'.cell? ⟨N,0,none⟩=some (.int .i64 at0)∧w'.cell? ⟨N+1,0,none⟩=some (.int .i64 why)∧Below N w w':=by
 have hta:=U5;refine callsD_of_wpS Tryz.func97 rfl fun c₀ cs hu=>?_
 simp only [Tryz.ntmps97,List.size_toArray,List.length_cons,List.length_nil,Nat.reduceAdd,Nat.reduceSub,Array.replicate_succ,Array.replicate_zero,List.push_toArray,List.append_toArray,List.nil_append,List.cons_append]
 apply wpS_seq
 apply wpS_region
 simp [wpOpsS,go_sem,recoverD,hu,Exit.thenS,hta]
 apply wpS_seq
 apply wpS_region
 simp [wpOpsS,go_sem,Exit.thenS]
 refine wpS_cond (t:=true) (by simp [Act.eval]) ?_
 simp only [if_true];refine wpS_of_wp ?_;have hN1:N+1<w.heap.size:=(Array.getElem?_eq_some_iff.1 h1).1;obtain ⟨w1,hw1⟩:∃w1,w1=w.alloc (.cells #[.int .i64 0,.int .i64 0] 148):=⟨_,rfl⟩;have hz1:w1.heap.size=w.heap.size+1:=by rw [hw1];simp
 have hnew:w1.heap[w.heap.size]?=some (.cells #[.int .i64 0,.int .i64 0] 148 (0,0)):=by rw [hw1];exact World.alloc_heap_new w _
 have hold:∀k,k<w.heap.size→w1.heap[k]?=w.heap[k]?:=fun k hk=>by rw [hw1];exact Below.heap_alloc w _ k hk
 have hg1:Y7 w1:=by
  unfold Y7 at hg ⊢
  have hl:=World.block_lt_of_cell? w _ hg;rw [World.cell?_of_block (hold _ hl)];exact hg
 have ca:=zcx why at0 w.heap.size (.int .i64 0) (.int .i64 0) w1 hg1 (by simp [World.cell?,hnew]) (by simp [World.cell?,hnew]) (by simp [World.frozen?,hnew]) (by simp [World.frozen?,hnew])
 rw [hw1] at ca;go_wp2_with fail
 refine ca.mono ?_;clear ca;rw [←hw1];rintro e w2 ⟨rfl,hw2⟩
 have hkeep:∀k,k<w.heap.size→w2.heap[k]?=w.heap[k]?:=fun k hk=>by
  rw [hw2,Below.heap_setCell _ _ _ _ (by simp;omega),Below.heap_setCell _ _ _ _ (by simp;omega),Below.heap_alloc _ _ _ (by simp;omega),Below.heap_alloc _ _ _ (by simp;omega),Below.heap_alloc _ _ _ (by simp;omega),Below.heap_alloc _ _ _ (by omega),hold k hk]
 have hM:∀j v,w1.cell? ⟨w.heap.size,j,none⟩=some v→∀o1 o2 o3 o4,((((w1.alloc o1).alloc o2).alloc o3).alloc o4).cell? ⟨w.heap.size,j,none⟩=some v:=fun j v h o1 o2 o3 o4=>by
  rw [World.cell?_alloc_lt _ _ ⟨w.heap.size,j,none⟩ (by simp;omega),World.cell?_alloc_lt _ _ ⟨w.heap.size,j,none⟩ (by simp;omega),World.cell?_alloc_lt _ _ ⟨w.heap.size,j,none⟩ (by simp;omega),World.cell?_alloc_lt _ _ ⟨w.heap.size,j,none⟩ (by simp;omega)];exact h
 have c0:w1.cell? ⟨w.heap.size,0,none⟩=some (.int .i64 0):=by simp [World.cell?,hnew]
 have c1:w1.cell? ⟨w.heap.size,1,none⟩=some (.int .i64 0):=by simp [World.cell?,hnew]
 have d0:w2.cell? ⟨w.heap.size,0,none⟩=some (.int .i64 why):=by
  rw [hw2,World.cell?_setCell_other _ _ _ _ (by simp),World.cell?_setCell_same _ _ _ (hM 0 _ c0 _ _ _ _)]
 have d1:w2.cell? ⟨w.heap.size,1,none⟩=some (.int .i64 at0):=by
  rw [hw2];refine World.cell?_setCell_same _ _ _ (u:=.int .i64 0) ?_;rw [World.cell?_setCell_other _ _ _ _ (by simp)]
  exact hM 1 _ c1 _ _ _ _
 have hsz2:w.heap.size≤w2.heap.size:=by rw [hw2];simp;omega
 have g0:w2.heap[N]?=some (.cells #[.int .i64 x] 3 (0,0)):=(hkeep N (by omega)).trans h0
 have g1:w2.heap[N+1]?=some (.cells #[.int .i64 y] 26 (0,0)):=(hkeep (N+1) hN1).trans h1
 have hB2:Below N w w2:=by
  rw [hw2,hw1];exact (((((((Below.refl N w).alloc (by omega) _).alloc (by simp;omega) _).alloc (by simp;omega) _).alloc (by simp;omega) _).alloc (by simp;omega) _).setCell (p:=⟨w.heap.size,0,none⟩) (by simp;omega) _).setCell (p:=⟨w.heap.size,1,none⟩) (by simp;omega) _
 have HB2:Hid (Below N w w2):=hB2;have k0:w2.cell? ⟨N,0,none⟩=some (.int .i64 x):=by simp [World.cell?,g0]
 have k1:w2.cell? ⟨N+1,0,none⟩=some (.int .i64 y):=by simp [World.cell?,g1]
 have k0f:w2.frozen? ⟨N,0,none⟩=false:=by simp [World.frozen?,g0]
 have k1f:w2.frozen? ⟨N+1,0,none⟩=false:=by simp [World.frozen?,g1]
 have k1':∀v,(w2.setCell ⟨N,0,none⟩ v).cell? ⟨N+1,0,none⟩=some (.int .i64 y):=fun v=>(World.cell?_setCell_other _ _ _ _ (by simp)).trans k1
 clear hw2 hkeep hM c0 c1 g0 g1 hB2 hnew hold hg1 hw1;go_wp2
 have hfin:Below N w ((w2.setCell ⟨N,0,none⟩ (.int .i64 at0)).setCell ⟨N+1,0,none⟩ (.int .i64 why)):=(HB2.out.setCell (p:=⟨N,0,none⟩) (by simp) _).setCell (p:=⟨N+1,0,none⟩) (by simp) _
 have e0:((w2.setCell ⟨N,0,none⟩ (.int .i64 at0)).setCell ⟨N+1,0,none⟩ (.int .i64 why)).cell? ⟨N,0,none⟩=some (.int .i64 at0):=by
  rw [World.cell?_setCell_other _ _ _ _ (by simp),World.cell?_setCell_same _ _ _ k0]
 have e1:((w2.setCell ⟨N,0,none⟩ (.int .i64 at0)).setCell ⟨N+1,0,none⟩ (.int .i64 why)).cell? ⟨N+1,0,none⟩=some (.int .i64 why):=World.cell?_setCell_same _ _ _ (k1' _)
 simp [bodyPostS,results,Tryz.results97]
 exact ⟨e0,e1,hfin⟩
abbrev U6 (why at0:Int):Value:=.iface 148 (.agg #[.int .i64 why,.int .i64 at0])
abbrev zdL (w:World):World:=(w.alloc (.cells #[.int .i64 0] 3)).alloc (.cells #[.int .i64 0] 26)
end Go.Proofs.YtdgpapchkpnijaaGreatDoor
namespace Go.Proofs.YtdgpapchkpnijaaGreatDoor
open Go.RowKit Go.Shelf
set_option maxHeartbeats 16000000
set_option maxRecDepth 100000
abbrev Xc (t:Tk):Value:=.agg #[.int .i64 t.k,.string (za t.s),.int .i64 t.n,.int .i64 t.line,.int .i64 t.at0]
abbrev ZK (t:Tk):Obj:=.cells #[.int .i64 t.k,.string (za t.s),.int .i64 t.n,.int .i64 t.line,.int .i64 t.at0] 69
structure zg (r g o cap:Nat) (ts:List Tk) (w:World):Prop where
 cell:w.cell? ⟨r,0,none⟩=some (.slice (some ⟨g,o,none⟩) ts.length cap)
 soft:w.frozen? ⟨r,0,none⟩=false
 hcap:ts.length≤cap
 hmax:cap≤maxLen
 other:r≠g
 toks:∀j u,(zO ts)[j]?=some u→w.cell? ⟨g,o+j,none⟩=some u
 few:ts.length≤1099511627776
theorem zj {w:World} {p:Addr} {v:Value} (h:w.cell? p=some v) (ob:Obj):(w.alloc ob).cell? p=some v:=by
 rw [World.cell?_alloc_lt _ _ p (World.block_lt_of_cell? w _ h)];exact h
theorem qY (a b c d e:Value) (w:World):(Instr.field 69 (.agg #[a,b,c,d,e]) 4).run Tryz.prog w=.ok e w:=by kernel_rfl
theorem Y8 (a b c d e:Value) (w:World):(Instr.field 69 (.agg #[a,b,c,d,e]) 0).run Tryz.prog w=.ok a w:=by kernel_rfl
theorem ug (a b c d e:Value) (w:World):(Instr.field 69 (.agg #[a,b,c,d,e]) 1).run Tryz.prog w=.ok b w:=by kernel_rfl
theorem Y9 (a b c d e:Value) (w:World):(Instr.field 69 (.agg #[a,b,c,d,e]) 3).run Tryz.prog w=.ok d w:=by kernel_rfl
theorem ye (r g o cap:Nat) (t:Tk) (ts:List Tk) (w:World) (h:zg r g o cap (t::ts) w) :
  Calls Tryz.prog 57 #[.pointer (some ⟨r,0,none⟩)] w fun e w'=>e=.returned (Xc t)∧w'=w.alloc (ZK t):=by
 have hc:=h.cell;have hm:=h.hmax;have hk:=h.hcap;have t0:=h.toks 0 (.int .i64 t.k) (by simp [zO])
 have t1:=h.toks 1 (.string (za t.s)) (by simp [zO])
 have t2:=h.toks 2 (.int .i64 t.n) (by simp [zO])
 have t3:=h.toks 3 (.int .i64 t.line) (by simp [zO])
 have t4:=h.toks 4 (.int .i64 t.at0) (by simp [zO])
 clear h;simp only [List.length_cons,Nat.add_zero] at hc hk t0;have hc':=zj hc;have t0':=zj t0;have t1':=zj t1;have t2':=zj t2;have t3':=zj t3;have t4':=zj t4;clear hc t0 t1 t2 t3 t4
 go_enter Tryz.func57,Tryz.ntmps57
 go_wp2
 simp [bodyPost,results,Tryz.results57,go_sem]
theorem vj (r g o cap:Nat) (t:Tk) (ts:List Tk) (w:World) (h:zg r g o cap (t::ts) w) (hne:ts≠[]) :
  Calls Tryz.prog 100 #[.pointer (some ⟨r,0,none⟩)] w fun e w'=>e=.returned (.tuple #[])∧w'=w.setCell ⟨r,0,none⟩ (.slice (some ⟨g,o+5,none⟩) ts.length (cap-1)):=by
 have hc:=h.cell;have hm:=h.hmax;have hk:=h.hcap;have hs:=h.soft;clear h;simp only [List.length_cons] at hc hk
 go_enter Tryz.func100,Tryz.ntmps100
 go_wp2
 ·exfalso
  have:=List.length_pos_iff.2 hne
  omega
 ·simp [bodyPost,results,Tryz.results100]
theorem zg.keep {r g o cap:Nat} {ts:List Tk} {w w':World} (h:zg r g o cap ts w) (hr:w'.heap[r]?=w.heap[r]?) (hg:w'.heap[g]?=w.heap[g]?):zg r g o cap ts w' where
 cell:=by rw [World.cell?_of_block hr];exact h.cell
 soft:=by have:=h.soft;simp only [World.frozen?,hr] at this ⊢;exact this
 hcap:=h.hcap
 hmax:=h.hmax
 other:=h.other
 toks:=fun j u hj=>by rw [World.cell?_of_block hg];exact h.toks j u hj
 few:=h.few
theorem zg.next {r g o cap:Nat} {t:Tk} {ts:List Tk} {w:World} (h:zg r g o cap (t::ts) w):zg r g (o+5) (cap-1) ts (w.setCell ⟨r,0,none⟩ (.slice (some ⟨g,o+5,none⟩) ts.length (cap-1))) where
 cell:=World.cell?_setCell_same _ _ _ h.cell
 soft:=by rw [World.frozen?_setCell];exact h.soft
 hcap:=by have:=h.hcap;simp only [List.length_cons] at this;omega
 hmax:=by have:=h.hmax;omega
 other:=h.other
 toks:=fun j u hj=>by
  rw [World.cell?_setCell_other _ _ _ _ (by simp)]
  have:=h.toks (5+j) u (by simpa [zO,List.getElem?_append,Nat.add_comm] using hj)
  rw [show o+5+j=o+(5+j) by omega];exact this
 few:=by have:=h.few;simp only [List.length_cons] at this;omega
theorem uh (r g o cap:Nat) (t:Tk) (ts:List Tk) (w:World) (h:zg r g o cap (t::ts) w) :
  Calls Tryz.prog 61 #[.pointer (some ⟨r,0,none⟩)] w fun e w'=>e=.panicked [{ v:=U6 6 t.at0,recovered:=false }]∧w'=w.alloc (ZK t):=by
 have ch:=ye r g o cap t ts w h;have hf:=qY;have hp:∀(v:Value) (w:World),(Instr.panic (.iface 148 v)).run Tryz.prog w=.halt (.panic (.iface 148 v)) w:=fun _ _=>rfl
 clear h
 go_enter Tryz.func61,Tryz.ntmps61
 go_wp2_with fail
 refine ch.mono ?_;rintro e w' ⟨rfl,rfl⟩;simp only [Xc];go_wp2
 exact ⟨rfl,rfl,rfl⟩
def zo (t:Tk) (s:List UInt8):Bool:=(t.k==4||t.k==5)&&t.s==s
theorem zdM (r g o cap:Nat) (t:Tk) (ts:List Tk) (s:List UInt8) (w:World) (h:zg r g o cap (t::ts) w) :
  Calls Tryz.prog 99 #[.pointer (some ⟨r,0,none⟩),.string (za s)] w fun e w'=>e=.returned (.bool (zo t s))∧w'=(w.alloc (ZK t)).alloc (ZK t):=by
 have ch:=ye r g o cap t ts w h;clear h
 go_enter Tryz.func99,Tryz.ntmps99
 go_wp2_with fail
 refine ch.mono ?_;clear ch;rintro e w' ⟨rfl,rfl⟩;simp only [Xc];go_wp2
 all_goals simp_all [bodyPost,results,Tryz.results99,zo]
 ·rename_i h
  have hk:t.k=4:=by omega
  exact ⟨fun _=>.inl hk,by simp [ZK,hk]⟩
 ·rename_i h
  have hk:t.k=5:=by omega
  exact ⟨fun _=>.inr hk,by simp [ZK,hk]⟩
 ·intro hh;omega
end Go.Proofs.YtdgpapchkpnijaaGreatDoor
