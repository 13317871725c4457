import Derived.Test.YtbjndgachcdbcaaGreatDoorMC4
import Derived.Lib.AppendIntMem
namespace Go.Proofs.YtbjndgachcdbcaaGreatDoor
open Go.RowKit
set_option maxHeartbeats 16000000
set_option maxRecDepth 100000
end Go.Proofs.YtbjndgachcdbcaaGreatDoor
namespace Go.Proofs.YtbjndgachcdbcaaGreatDoor
open Go.RowKit Go.Shelf
set_option maxHeartbeats 16000000
set_option maxRecDepth 100000
theorem X9 {w:World} {B e sz n:Nat} {v:Value} {xs:List Value} (h:w.ownsRow B e sz v n xs) (hn:1≤n):∃g b,v=.slice (some ⟨g,0,none⟩) n b∧B≤g∧g<w.heap.size∧n≤b∧∀j u,xs[j]?=some u→w.cell? ⟨g,j,none⟩=some u:=by
 obtain ⟨-,⟨-,y⟩ | ⟨g,b,x,rfl,q,c,o,-,-,m⟩⟩:=h
 ·omega
 ·refine ⟨g,b,rfl,q,(Array.getElem?_eq_some_iff.1 c).1,o,fun j u hj=>?_⟩
  rw [cell_of_row _ _ _ _ _ _ c];rw [←m,List.getElem?_take] at hj
  split at hj
  ·rw [Array.getElem?_toList] at hj;exact hj
  ·cases hj
theorem zh {n:Nat} {w w':World} (h:Below n w w') {g j:Nat} (hg:g<n):w'.cell? ⟨g,j,none⟩=w.cell? ⟨g,j,none⟩:=World.cell?_of_block (h.block g hg)
def zV (c:UInt8):List UInt8:=if c.toNat=92 then [92,92] else if c.toNat=34 then [92,34] else if c.toNat=10 then [92,110] else [c]
def yx (s:List UInt8):List UInt8:=34::(s.flatMap zV++[34])
theorem ua {c:UInt8} {i:Nat} (hi:i<3) (he:(YD[i]'hi)=c.toNat):zV c=[92,(yW[i]'hi).toUInt8]:=by
 have b:i=0∨i=1∨i=2:=by omega
 unfold zV
 rcases b with rfl | rfl | rfl
 ·rw [←he];rfl
 ·rw [←he];rfl
 ·rw [←he];rfl
theorem VC {c:UInt8} (h:∀j (hj:j<3),(YD[j]'hj)≠c.toNat):zV c=[c]:=by
 have e:92≠c.toNat:=h 0 (by decide)
 have b:34≠c.toNat:=h 1 (by decide)
 have m:10≠c.toNat:=h 2 (by decide)
 unfold zV
 rw [if_neg (by omega),if_neg (by omega),if_neg (by omega)]
theorem VD (c:UInt8):(zV c).length≤2:=by
 unfold zV
 split
 ·simp
 ·split
  ·simp
  ·split <;> simp
theorem xE {w:World} {g r q:Nat} (hr:r<256) (hq:q<256) (hc:w.cell? ⟨g,0,none⟩=some (.int .u8 (r:Int))) (hd:w.cell? ⟨g,1,none⟩=some (.int .u8 (q:Int))):yZ w (.slice (some ⟨g,0,none⟩) 2 2) [r.toUInt8,q.toUInt8] :=
 yK rfl (by unfold maxLen;decide) (fun j u hj=>by
  match j,hj with
  | 0,hj=>simp [Lib.byteCells,Lib.toUInt8_toNat hr] at hj;subst hj;exact hc
  | 1,hj=>simp [Lib.byteCells,Lib.toUInt8_toNat hq] at hj;subst hj;exact hd)
theorem vd (B:Nat) (v:Value) (us:List UInt8) (c:UInt8) (w:World) (hown:w.ownsRow B 5 1 v us.length (Lib.byteCells us)) (hB:B≤w.heap.size) (hl:us.length≤1000000000) (ht:z7 w) :
  Calls Tryz.prog 79 #[v,.int .u8 (c.toNat:Int)] w fun e w'=>∃v',e=.returned v'∧w'.ownsRow B 5 1 v' (us++zV c).length (Lib.byteCells (us++zV c)) ∧
   Below B w w'∧∀k,k<w.heap.size→some k≠v.ownBlock→w'.heap[k]?=w.heap[k]?:=by
 have Z:=ht.escs 0 (by decide)
 have Y:=ht.escs 1 (by decide)
 have W:=ht.escs 2 (by decide)
 have e3:=ht.escs 3 (by decide)
 have V:=ht.escs 4 (by decide)
 have e5:=ht.escs 5 (by decide)
 simp only [List.getElem_cons_zero,List.getElem_cons_succ] at Z Y W e3 V e5;clear ht;have T:Hid (w.ownsRow B 5 1 v us.length (Lib.byteCells us)):=hown;obtain ⟨n,O⟩:∃n,n=c.toNat:=⟨_,rfl⟩;have u:n<256:=by rw [O];exact UInt8.toNat_lt c
 rw [←O];have R:Hid (n=c.toNat):=O;clear hown O
 go_enter Tryz.func79,Tryz.ntmps79
 go_wp2
 clear Z Y W e3 V e5
 go_loopw [8] (fun x wr=>∃i:Nat,i≤3∧x=.int .i64 i∧(∀j (hj:j<3),j<i→(YD[j]'hj)≠n)∧Below w.heap.size w wr) (fun x _=>3-(intOf x).toNat)
 case atStart=>exact ⟨0,Nat.zero_le _,rfl,fun j _ h=>by omega,Below.refl _ _⟩
 case round =>
  obtain ⟨i,hi,rfl,z,y⟩:=hrel;have X:Hid (∀j (hj:j<3),j<i→(YD[j]'hj)≠n):=z;have G:Hid (Below w.heap.size w wr):=y;have I:=y.size;have K:Hid (wr.ownsRow B 5 1 v us.length (Lib.byteCells us)):=yw T.out y (Nat.le_refl _);clear z y
  by_cases hlt:i<3
  ·have M:=fun wx=>xD wx i hlt
   obtain ⟨a,F⟩:∃a,a=YD[i]'hlt:=⟨_,rfl⟩;obtain ⟨b,J⟩:∃b,b=yW[i]'hlt:=⟨_,rfl⟩
   have D:b<256:=by
    have:∀j (hj:j<3),(yW[j]'hj)<256:=by decide
    rw [J];exact this i hlt
   rw [←F,←J] at M
   by_cases he:a=n
   ·have H:Hid (zV c=[(92:Nat).toUInt8,b.toUInt8]):=show _=_ by rw [J];exact ua hlt (by rw [←F,he,R.out])
    subst he;clear F J
    go_wp2_with (at_builtin;refine Zf rfl _ _ rfl B _ us rfl ((K.out.alloc _).alloc _) _ [(92:Nat).toUInt8,b.toUInt8] rfl (xE (by decide) D (by simp) (by simp)) (by simp;omega) (by simp;omega) ?_;intro U w3 o m)
    have E:∀k,k<w.heap.size→some k≠v.ownBlock→w3.heap[k]?=w.heap[k]?:=fun k hk hne=>by
     rw [m.block k (by simp;omega) hne,Below.heap_alloc _ _ _ (by simp;omega),Below.heap_alloc _ _ _ (by omega),G.out.block k hk]
    have A:Below B w w3:=(((G.out.mono hB).alloc (by omega) _).alloc (by simp;omega) _).grown m (by simp;omega) (fun q hq=>(T.out.lt q hq).1)
    go_ret
    refine ⟨U,rfl,?_,A,E⟩;rw [H.out];exact o
   ·have aa:((a:Int)==(n:Int))=false:=by rw [beq_eq_false_iff_ne];omega
    have H:Hid ((YD[i]'hlt)≠n):=show (YD[i]'hlt)≠n by rw [←F];exact he
    clear F J he;go_wp2
    refine ⟨⟨i+1,by omega,by go_num,fun j hj hji=>?_,G.out.alloc I _⟩,by simp [intOf];omega⟩
    by_cases h:j<i
    ·exact X.out j hj h
    ·obtain rfl:j=i:=by omega
     exact H.out
  ·obtain rfl:i=3:=by omega
   have H:Hid (zV c=[n.toUInt8]):=show _=_ by
    rw [VC (fun j hj=>by rw [←R.out];exact X.out j hj hj),R.out]
    congr 1
    exact (UInt8.toNat_inj.1 (Lib.toUInt8_toNat (by rw [←R.out];exact u))).symm
   go_wp2_with (at_builtin;refine Zf rfl _ _ rfl B _ us rfl (K.out.alloc _) _ [n.toUInt8] rfl (ZS u (by simp)) (by simp;omega) (by simp;omega) ?_;intro U w3 o m)
   have E:∀k,k<w.heap.size→some k≠v.ownBlock→w3.heap[k]?=w.heap[k]?:=fun k hk hne=>by
    rw [m.block k (by simp;omega) hne,Below.heap_alloc _ _ _ (by omega),G.out.block k hk]
   have A:Below B w w3:=((G.out.mono hB).alloc (by omega) _).grown m (by simp;omega) (fun q hq=>(T.out.lt q hq).1)
   go_ret
   refine ⟨U,rfl,?_,A,E⟩;rw [H.out];exact o
theorem Xo (w:World) (c:Nat) (hc:c<256):(w.alloc (.cells #[.int .u8 (c:Int)] 5)).ownsRow w.heap.size 5 1 (.slice (some ⟨w.heap.size,0,none⟩) 1 1) [c.toUInt8].length (Lib.byteCells [c.toUInt8]):=by
 refine ⟨by simp [Lib.byteCells],.inr ⟨w.heap.size,1,#[.int .u8 (c:Int)],rfl,Nat.le_refl _,World.alloc_heap_new w _,Nat.le_refl _,by unfold maxLen;decide,by simp,?_⟩⟩
 simp [Lib.byteCells,Lib.toUInt8_toNat hc]
theorem ve (s:List UInt8) (i:Nat) (h:i<s.length):(s.take (i+1)).flatMap zV=(s.take i).flatMap zV++zV s[i]:=by
 rw [List.take_succ_eq_append_getElem h,List.flatMap_append]
 simp
theorem xF (s:List UInt8):(s.flatMap zV).length≤2*s.length:=by
 induction s with
 | nil=>simp
 | cons x s ih =>
  have:=VD x
  rw [List.flatMap_cons,List.length_append,List.length_cons];omega
theorem Xp (s:List UInt8) (w:World) (hl:s.length≤100000000) (ht:z7 w) :
  Calls Tryz.prog 61 #[.string (za s)] w fun e w'=>e=.returned (.string (za (yx s)))∧Below w.heap.size w w':=by
 have HT:Hid (z7 w):=ht;have ao:(za s).size=s.length:=rfl;obtain ⟨w1,b⟩:∃w1,w1=w.alloc (.cells #[.int .u8 ((34:Nat):Int)] 5):=⟨_,rfl⟩;have X:w1.heap.size=w.heap.size+1:=by rw [b];simp
 have M:Below w.heap.size w w1:=by rw [b];exact (Below.refl _ w).alloc (Nat.le_refl _) _
 have J:w1.ownsRow w.heap.size 5 1 (.slice (some ⟨w.heap.size,0,none⟩) 1 1) [(34:Nat).toUInt8].length (Lib.byteCells [(34:Nat).toUInt8]):=by rw [b];exact Xo w 34 (by decide)
 have A:=fun (wx:World)=>Lib.run_convert_string_bytes (P:=Tryz.prog) wx 9 44 5 (za s) Tryz.underlying9 Tryz.underlying44 Tryz.underlying5
 have z:(Lib.bytesWorld w1 5 (za s)).heap.size=w1.heap.size+1:=Lib.bytesWorld_size w1 5 _;have G:Below w1.heap.size w1 (Lib.bytesWorld w1 5 (za s)):=bytesWorld_below w1 5 _
 have B:∀j (h:j<s.length),(Lib.bytesWorld w1 5 (za s)).cell? ⟨w1.heap.size,j,none⟩=some (.int .u8 ((s[j]).toNat:Int)):=fun j h=>by
  have h9:=Lib.bytesWorld_cell w1 5 (za s) j h;rw [h9]
  simp [List.getD_eq_getElem?_getD,List.getElem?_eq_getElem h]
 have Y:=Lib.bytesWorld_at_new w1 5 (za s)
 have E:∀u,(Lib.bytesWorld w1 5 (za s)).heap[w1.heap.size]?≠some (.cells u 5 (0,0)):=fun u h=>by
  rw [Y] at h
  simp at h
 have an:=grownCap_ge w1 (za s).size 0 5;have aa:=grownCap_le_maxLen w1 (za s).size 0 5 (by rw [zo];unfold maxLen;omega)
 rw [zo] at an aa
 unfold maxLen at aa
 rw [X] at z B E;clear Y ht
 go_enter Tryz.func61,Tryz.ntmps61
 go_wp2_with fail
 rw [show w.alloc (Obj.cells #[Value.int IntKind.u8 34] 5)=w1 from b.symm]
 generalize grownCap w1 s.length 0 5=cp at *;have ag:Hid (∀j (h:j<s.length),(Lib.bytesWorld w1 5 (za s)).cell? ⟨w.heap.size+1,j,none⟩=some (.int .u8 ((s[j]).toNat:Int))):=B;have af:Hid (∀u,(Lib.bytesWorld w1 5 (za s)).heap[w.heap.size+1]?≠some (.cells u 5 (0,0))):=E;have am:Hid (Below w.heap.size w (Lib.bytesWorld w1 5 (za s))):=M.trans (G.mono (by omega))
 have ai:Hid ((Lib.bytesWorld w1 5 (za s)).ownsRow w.heap.size 5 1 (.slice (some ⟨w.heap.size,0,none⟩) 1 1) [(34:Nat).toUInt8].length (Lib.byteCells [(34:Nat).toUInt8])):=yw J G (Nat.le_refl _);have aq:Hid ((Lib.bytesWorld w1 5 (za s)).heap.size=w.heap.size+2):=z;clear B E M G J z A b X;generalize Lib.bytesWorld w1 5 (za s)=w2 at *
 go_loopw [3,10] (fun vb vi wr=>∃i:Nat,i≤s.length∧vi=.int .i64 i∧wr.ownsRow w.heap.size 5 1 vb (34::(s.take i).flatMap zV).length (Lib.byteCells (34::(s.take i).flatMap zV))∧Below w.heap.size w wr∧wr.heap[w.heap.size+1]?=w2.heap[w.heap.size+1]?) (fun _ vi _=>s.length-(intOf vi).toNat)
 case atStart=>exact ⟨0,Nat.zero_le _,rfl,ai.out,am.out,rfl⟩
 case round =>
  obtain ⟨i,hi,rfl,y,H,T⟩:=hrel;have x:=H.size;have HB:Hid (Below w.heap.size w wr):=H;have K:Hid (wr.ownsRow w.heap.size 5 1 u3 (34::(s.take i).flatMap zV).length (Lib.byteCells (34::(s.take i).flatMap zV))):=y;have F:Hid (wr.heap[w.heap.size+1]?=w2.heap[w.heap.size+1]?):=T
  have ah:(34::(s.take i).flatMap zV).length≤2*s.length+1:=by
   have h9:=xF (s.take i);rw [List.length_take] at h9;rw [List.length_cons];omega
  clear y H T
  by_cases hlt:i<s.length
  ·have hc:wr.cell? ⟨w.heap.size+1,i,none⟩=some (.int .u8 ((s[i]).toNat:Int)):=by
    rw [World.cell?_of_block F.out];exact ag.out i hlt
   have ad:(i:Int)<s.length:=by omega
   have ca:=vd w.heap.size u3 (34::(s.take i).flatMap zV) s[i] wr K.out x (by omega) (HT.out.below HB.out (Nat.le_refl _))
   have ak:Hid ((34::(s.take i).flatMap zV)++zV s[i]=34::(s.take (i+1)).flatMap zV):=by
    show _=_
    rw [ve s i hlt];rfl
   rw [ak.out] at ca
   have al:Hid (some (w.heap.size+1)≠u3.ownBlock):=fun e=>by
    obtain ⟨-,⟨hv,-⟩ | ⟨g,ap,u,hv,-,hh,-⟩⟩:=K.out
    ·rw [hv] at e;simp [Value.ownBlock] at e
    ·rw [hv] at e
     simp [Value.ownBlock] at e
     rw [←e,F.out] at hh;exact af.out _ hh
   have hz:w.heap.size+1<wr.heap.size:=World.block_lt_of_cell? wr _ hc;obtain ⟨n,hn⟩:∃n,n=(s[i]).toNat:=⟨_,rfl⟩;rw [←hn] at hc ca;clear hn;go_wp2_with fail
   refine ca.mono ?_;clear ca;rintro e I ⟨v3,rfl,O,U,V⟩;have ab:Hid (I.ownsRow w.heap.size 5 1 v3 (34::(s.take (i+1)).flatMap zV).length (Lib.byteCells (34::(s.take (i+1)).flatMap zV))):=O;have D:Hid (Below w.heap.size w I):=HB.out.trans U;have ae:Hid (I.heap[w.heap.size+1]?=w2.heap[w.heap.size+1]?):=(V _ hz al.out).trans F.out;clear O U V;go_wp2
   exact ⟨⟨i+1,by omega,by go_num,ab.out,D.out,ae.out⟩,by simp [intOf];omega⟩
  ·obtain rfl:i=s.length:=by omega
   have ad:¬ (s.length:Int)<s.length:=by omega
   have HQ:Hid (yx s=(34::(s.take s.length).flatMap zV)++[(34:Nat).toUInt8]):=by
    show _=_
    rw [List.take_length];rfl
   obtain ⟨R,Z⟩:∃R,R=34::(s.take s.length).flatMap zV:=⟨_,rfl⟩;rw [←Z] at HQ K ah;clear Z
   go_wp2_with (at_builtin;refine Zf rfl _ _ rfl w.heap.size _ R rfl (K.out.alloc _) _ [(34:Nat).toUInt8] rfl (ZS (by decide) (by simp)) (by simp;omega) (by simp;omega) ?_;intro v3 I o c;obtain ⟨b3,W,rfl,m,-,-,-⟩:=Zs o;have aj:=ZC I b3 _ W m;rw [show (R++[(34:Nat).toUInt8]).length=R.length+1 by simp] at aj ⊢)
   have D:Hid (Below w.heap.size w I):=(HB.out.alloc x _).grown c (by simp;omega) (fun q hq=>(K.out.lt q hq).1)
   clear m o c;go_ret
   rw [HQ.out];exact ⟨rfl,D.out⟩
end Go.Proofs.YtbjndgachcdbcaaGreatDoor
