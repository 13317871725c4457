import Derived.Test.YtbjndgachcdbcaaGreatDoorMC4
import Derived.Lib.AppendIntMem
namespace Go.Proofs.YtbjndgachcdbcaaGreatDoor
open Go.RowKit
set_option maxHeartbeats 16000000
set_option maxRecDepth 100000
end Go.Proofs.YtbjndgachcdbcaaGreatDoor
namespace Go.Proofs.YtbjndgachcdbcaaGreatDoor
open Go.RowKit Go.Shelf
set_option maxHeartbeats 16000000
set_option maxRecDepth 100000
theorem v8 {w:World} {B e sz n:Nat} {v:Value} {xs:List Value} (h:w.ownsRow B e sz v n xs) (hn:1≤n):∃g b,v=.slice (some ⟨g,0,none⟩) n b∧B≤g∧g<w.heap.size∧n≤b∧∀j u,xs[j]?=some u→w.cell? ⟨g,j,none⟩=some u:=by
 obtain ⟨-,⟨-,z⟩ | ⟨g,b,q,rfl,m,c,y,-,-,o⟩⟩:=h
 ·omega
 ·refine ⟨g,b,rfl,m,(Array.getElem?_eq_some_iff.1 c).1,y,fun j u hj=>?_⟩
  rw [cell_of_row _ _ _ _ _ _ c];rw [←o,List.getElem?_take] at hj
  split at hj
  ·rw [Array.getElem?_toList] at hj;exact hj
  ·cases hj
theorem zb {n:Nat} {w w':World} (h:Below n w w') {g j:Nat} (hg:g<n):w'.cell? ⟨g,j,none⟩=w.cell? ⟨g,j,none⟩:=World.cell?_of_block (h.block g hg)
def zX (c:UInt8):List UInt8:=if c.toNat=92 then [92,92] else if c.toNat=34 then [92,34] else if c.toNat=10 then [92,110] else [c]
def yV (s:List UInt8):List UInt8:=34::(s.flatMap zX++[34])
theorem Uf {c:UInt8} {i:Nat} (hi:i<3) (he:(Y4[i]'hi)=c.toNat):zX c=[92,(Yp[i]'hi).toUInt8]:=by
 have b:i=0∨i=1∨i=2:=by omega
 unfold zX
 rcases b with rfl | rfl | rfl
 ·rw [←he];rfl
 ·rw [←he];rfl
 ·rw [←he];rfl
theorem uB {c:UInt8} (h:∀j (hj:j<3),(Y4[j]'hj)≠c.toNat):zX c=[c]:=by
 have b:92≠c.toNat:=h 0 (by decide)
 have e:34≠c.toNat:=h 1 (by decide)
 have m:10≠c.toNat:=h 2 (by decide)
 unfold zX
 rw [if_neg (by omega),if_neg (by omega),if_neg (by omega)]
theorem uC (c:UInt8):(zX c).length≤2:=by
 unfold zX
 split
 ·simp
 ·split
  ·simp
  ·split <;> simp
theorem Xg {w:World} {g r q:Nat} (hr:r<256) (hq:q<256) (hc:w.cell? ⟨g,0,none⟩=some (.int .u8 (r:Int))) (hd:w.cell? ⟨g,1,none⟩=some (.int .u8 (q:Int))):ye w (.slice (some ⟨g,0,none⟩) 2 2) [r.toUInt8,q.toUInt8] :=
 Yg rfl (by unfold maxLen;decide) (fun j u hj=>by
  match j,hj with
  | 0,hj=>simp [Lib.byteCells,Lib.toUInt8_toNat hr] at hj;subst hj;exact hc
  | 1,hj=>simp [Lib.byteCells,Lib.toUInt8_toNat hq] at hj;subst hj;exact hd)
theorem Va (B:Nat) (v:Value) (us:List UInt8) (c:UInt8) (w:World) (hown:w.ownsRow B 5 1 v us.length (Lib.byteCells us)) (hB:B≤w.heap.size) (hl:us.length≤1000000000) (ht:Zb w) :
  Calls Tryz.prog 79 #[v,.int .u8 (c.toNat:Int)] w fun e w'=>∃v',e=.returned v'∧w'.ownsRow B 5 1 v' (us++zX c).length (Lib.byteCells (us++zX c)) ∧
   Below B w w'∧∀k,k<w.heap.size→some k≠v.ownBlock→w'.heap[k]?=w.heap[k]?:=by
 have V:=ht.escs 0 (by decide)
 have Z:=ht.escs 1 (by decide)
 have e2:=ht.escs 2 (by decide)
 have X:=ht.escs 3 (by decide)
 have W:=ht.escs 4 (by decide)
 have Y:=ht.escs 5 (by decide)
 simp only [List.getElem_cons_zero,List.getElem_cons_succ] at V Z e2 X W Y;clear ht;have U:Hid (w.ownsRow B 5 1 v us.length (Lib.byteCells us)):=hown;obtain ⟨n,O⟩:∃n,n=c.toNat:=⟨_,rfl⟩;have u:n<256:=by rw [O];exact UInt8.toNat_lt c
 rw [←O];have R:Hid (n=c.toNat):=O;clear hown O
 go_enter Tryz.func79,Tryz.ntmps79
 go_wp2
 clear V Z e2 X W Y
 go_loopw [8] (fun x wr=>∃i:Nat,i≤3∧x=.int .i64 i∧(∀j (hj:j<3),j<i→(Y4[j]'hj)≠n)∧Below w.heap.size w wr) (fun x _=>3-(intOf x).toNat)
 case atStart=>exact ⟨0,Nat.zero_le _,rfl,fun j _ h=>by omega,Below.refl _ _⟩
 case round =>
  obtain ⟨i,hi,rfl,z,y⟩:=hrel;have HA:Hid (∀j (hj:j<3),j<i→(Y4[j]'hj)≠n):=z;have G:Hid (Below w.heap.size w wr):=y;have I:=y.size;have K:Hid (wr.ownsRow B 5 1 v us.length (Lib.byteCells us)):=yS U.out y (Nat.le_refl _);clear z y
  by_cases hlt:i<3
  ·have M:=fun wx=>Xf wx i hlt
   obtain ⟨a,H⟩:∃a,a=Y4[i]'hlt:=⟨_,rfl⟩;obtain ⟨b,J⟩:∃b,b=Yp[i]'hlt:=⟨_,rfl⟩
   have E:b<256:=by
    have:∀j (hj:j<3),(Yp[j]'hj)<256:=by decide
    rw [J];exact this i hlt
   rw [←H,←J] at M
   by_cases he:a=n
   ·have F:Hid (zX c=[(92:Nat).toUInt8,b.toUInt8]):=show _=_ by rw [J];exact Uf hlt (by rw [←H,he,R.out])
    subst he;clear H J
    go_wp2_with (at_builtin;refine Zk rfl _ _ rfl B _ us rfl ((K.out.alloc _).alloc _) _ [(92:Nat).toUInt8,b.toUInt8] rfl (Xg (by decide) E (by simp) (by simp)) (by simp;omega) (by simp;omega) ?_;intro T w3 o m)
    have A:∀k,k<w.heap.size→some k≠v.ownBlock→w3.heap[k]?=w.heap[k]?:=fun k hk hne=>by
     rw [m.block k (by simp;omega) hne,Below.heap_alloc _ _ _ (by simp;omega),Below.heap_alloc _ _ _ (by omega),G.out.block k hk]
    have D:Below B w w3:=(((G.out.mono hB).alloc (by omega) _).alloc (by simp;omega) _).grown m (by simp;omega) (fun q hq=>(U.out.lt q hq).1)
    go_ret
    refine ⟨T,rfl,?_,D,A⟩;rw [F.out];exact o
   ·have aa:((a:Int)==(n:Int))=false:=by rw [beq_eq_false_iff_ne];omega
    have F:Hid ((Y4[i]'hlt)≠n):=show (Y4[i]'hlt)≠n by rw [←H];exact he
    clear H J he;go_wp2
    refine ⟨⟨i+1,by omega,by go_num,fun j hj hji=>?_,G.out.alloc I _⟩,by simp [intOf];omega⟩
    by_cases h:j<i
    ·exact HA.out j hj h
    ·obtain rfl:j=i:=by omega
     exact F.out
  ·obtain rfl:i=3:=by omega
   have F:Hid (zX c=[n.toUInt8]):=show _=_ by
    rw [uB (fun j hj=>by rw [←R.out];exact HA.out j hj hj),R.out]
    congr 1
    exact (UInt8.toNat_inj.1 (Lib.toUInt8_toNat (by rw [←R.out];exact u))).symm
   go_wp2_with (at_builtin;refine Zk rfl _ _ rfl B _ us rfl (K.out.alloc _) _ [n.toUInt8] rfl (Z2 u (by simp)) (by simp;omega) (by simp;omega) ?_;intro T w3 o m)
   have A:∀k,k<w.heap.size→some k≠v.ownBlock→w3.heap[k]?=w.heap[k]?:=fun k hk hne=>by
    rw [m.block k (by simp;omega) hne,Below.heap_alloc _ _ _ (by omega),G.out.block k hk]
   have D:Below B w w3:=((G.out.mono hB).alloc (by omega) _).grown m (by simp;omega) (fun q hq=>(U.out.lt q hq).1)
   go_ret
   refine ⟨T,rfl,?_,D,A⟩;rw [F.out];exact o
theorem XU (w:World) (c:Nat) (hc:c<256):(w.alloc (.cells #[.int .u8 (c:Int)] 5)).ownsRow w.heap.size 5 1 (.slice (some ⟨w.heap.size,0,none⟩) 1 1) [c.toUInt8].length (Lib.byteCells [c.toUInt8]):=by
 refine ⟨by simp [Lib.byteCells],.inr ⟨w.heap.size,1,#[.int .u8 (c:Int)],rfl,Nat.le_refl _,World.alloc_heap_new w _,Nat.le_refl _,by unfold maxLen;decide,by simp,?_⟩⟩
 simp [Lib.byteCells,Lib.toUInt8_toNat hc]
theorem Vb (s:List UInt8) (i:Nat) (h:i<s.length):(s.take (i+1)).flatMap zX=(s.take i).flatMap zX++zX s[i]:=by
 rw [List.take_succ_eq_append_getElem h,List.flatMap_append]
 simp
theorem Xh (s:List UInt8):(s.flatMap zX).length≤2*s.length:=by
 induction s with
 | nil=>simp
 | cons x s ih =>
  have:=uC x
  rw [List.flatMap_cons,List.length_append,List.length_cons];omega
theorem XV (s:List UInt8) (w:World) (hl:s.length≤100000000) (ht:Zb w) :
  Calls Tryz.prog 61 #[.string (za s)] w fun e w'=>e=.returned (.string (za (yV s)))∧Below w.heap.size w w':=by
 have HT:Hid (Zb w):=ht;have aq:(za s).size=s.length:=rfl;obtain ⟨w1,u⟩:∃w1,w1=w.alloc (.cells #[.int .u8 ((34:Nat):Int)] 5):=⟨_,rfl⟩;have W:w1.heap.size=w.heap.size+1:=by rw [u];simp
 have V:Below w.heap.size w w1:=by rw [u];exact (Below.refl _ w).alloc (Nat.le_refl _) _
 have U:w1.ownsRow w.heap.size 5 1 (.slice (some ⟨w.heap.size,0,none⟩) 1 1) [(34:Nat).toUInt8].length (Lib.byteCells [(34:Nat).toUInt8]):=by rw [u];exact XU w 34 (by decide)
 have G:=fun (wx:World)=>Lib.run_convert_string_bytes (P:=Tryz.prog) wx 9 44 5 (za s) Tryz.underlying9 Tryz.underlying44 Tryz.underlying5
 have A:(Lib.bytesWorld w1 5 (za s)).heap.size=w1.heap.size+1:=Lib.bytesWorld_size w1 5 _;have E:Below w1.heap.size w1 (Lib.bytesWorld w1 5 (za s)):=bytesWorld_below w1 5 _
 have I:∀j (h:j<s.length),(Lib.bytesWorld w1 5 (za s)).cell? ⟨w1.heap.size,j,none⟩=some (.int .u8 ((s[j]).toNat:Int)):=fun j h=>by
  have h9:=Lib.bytesWorld_cell w1 5 (za s) j h;rw [h9]
  simp [List.getD_eq_getElem?_getD,List.getElem?_eq_getElem h]
 have M:=Lib.bytesWorld_at_new w1 5 (za s)
 have D:∀b,(Lib.bytesWorld w1 5 (za s)).heap[w1.heap.size]?≠some (.cells b 5 (0,0)):=fun b h=>by
  rw [M] at h
  simp at h
 have ae:=grownCap_ge w1 (za s).size 0 5;have Y:=grownCap_le_maxLen w1 (za s).size 0 5 (by rw [zs];unfold maxLen;omega)
 rw [zs] at ae Y
 unfold maxLen at Y
 rw [W] at A I D;clear M ht
 go_enter Tryz.func61,Tryz.ntmps61
 go_wp2_with fail
 rw [show w.alloc (Obj.cells #[Value.int IntKind.u8 34] 5)=w1 from u.symm]
 generalize grownCap w1 s.length 0 5=cp at *;have ao:Hid (∀j (h:j<s.length),(Lib.bytesWorld w1 5 (za s)).cell? ⟨w.heap.size+1,j,none⟩=some (.int .u8 ((s[j]).toNat:Int))):=I;have ah:Hid (∀b,(Lib.bytesWorld w1 5 (za s)).heap[w.heap.size+1]?≠some (.cells b 5 (0,0))):=D;have am:Hid (Below w.heap.size w (Lib.bytesWorld w1 5 (za s))):=V.trans (E.mono (by omega))
 have ai:Hid ((Lib.bytesWorld w1 5 (za s)).ownsRow w.heap.size 5 1 (.slice (some ⟨w.heap.size,0,none⟩) 1 1) [(34:Nat).toUInt8].length (Lib.byteCells [(34:Nat).toUInt8])):=yS U E (Nat.le_refl _);have ap:Hid ((Lib.bytesWorld w1 5 (za s)).heap.size=w.heap.size+2):=A;clear I D V E U A G u W;generalize Lib.bytesWorld w1 5 (za s)=w2 at *
 go_loopw [3,10] (fun vb vi wr=>∃i:Nat,i≤s.length∧vi=.int .i64 i∧wr.ownsRow w.heap.size 5 1 vb (34::(s.take i).flatMap zX).length (Lib.byteCells (34::(s.take i).flatMap zX))∧Below w.heap.size w wr∧wr.heap[w.heap.size+1]?=w2.heap[w.heap.size+1]?) (fun _ vi _=>s.length-(intOf vi).toNat)
 case atStart=>exact ⟨0,Nat.zero_le _,rfl,ai.out,am.out,rfl⟩
 case round =>
  obtain ⟨i,hi,rfl,z,H,ab⟩:=hrel;have y:=H.size;have HB:Hid (Below w.heap.size w wr):=H;have Z:Hid (wr.ownsRow w.heap.size 5 1 u3 (34::(s.take i).flatMap zX).length (Lib.byteCells (34::(s.take i).flatMap zX))):=z;have B:Hid (wr.heap[w.heap.size+1]?=w2.heap[w.heap.size+1]?):=ab
  have ak:(34::(s.take i).flatMap zX).length≤2*s.length+1:=by
   have h9:=Xh (s.take i);rw [List.length_take] at h9;rw [List.length_cons];omega
  clear z H ab
  by_cases hlt:i<s.length
  ·have hc:wr.cell? ⟨w.heap.size+1,i,none⟩=some (.int .u8 ((s[i]).toNat:Int)):=by
    rw [World.cell?_of_block B.out];exact ao.out i hlt
   have al:(i:Int)<s.length:=by omega
   have ca:=Va w.heap.size u3 (34::(s.take i).flatMap zX) s[i] wr Z.out y (by omega) (HT.out.below HB.out (Nat.le_refl _))
   have ad:Hid ((34::(s.take i).flatMap zX)++zX s[i]=34::(s.take (i+1)).flatMap zX):=by
    show _=_
    rw [Vb s i hlt];rfl
   rw [ad.out] at ca
   have af:Hid (some (w.heap.size+1)≠u3.ownBlock):=fun e=>by
    obtain ⟨-,⟨hv,-⟩ | ⟨g,ar,b,hv,-,hh,-⟩⟩:=Z.out
    ·rw [hv] at e;simp [Value.ownBlock] at e
    ·rw [hv] at e
     simp [Value.ownBlock] at e
     rw [←e,B.out] at hh;exact ah.out _ hh
   have hz:w.heap.size+1<wr.heap.size:=World.block_lt_of_cell? wr _ hc;obtain ⟨n,hn⟩:∃n,n=(s[i]).toNat:=⟨_,rfl⟩;rw [←hn] at hc ca;clear hn;go_wp2_with fail
   refine ca.mono ?_;clear ca;rintro e J ⟨v3,rfl,K,X,R⟩;have ag:Hid (J.ownsRow w.heap.size 5 1 v3 (34::(s.take (i+1)).flatMap zX).length (Lib.byteCells (34::(s.take (i+1)).flatMap zX))):=K;have F:Hid (Below w.heap.size w J):=HB.out.trans X;have an:Hid (J.heap[w.heap.size+1]?=w2.heap[w.heap.size+1]?):=(R _ hz af.out).trans B.out;clear K X R;go_wp2
   exact ⟨⟨i+1,by omega,by go_num,ag.out,F.out,an.out⟩,by simp [intOf];omega⟩
  ·obtain rfl:i=s.length:=by omega
   have al:¬ (s.length:Int)<s.length:=by omega
   have HQ:Hid (yV s=(34::(s.take s.length).flatMap zX)++[(34:Nat).toUInt8]):=by
    show _=_
    rw [List.take_length];rfl
   obtain ⟨T,O⟩:∃T,T=34::(s.take s.length).flatMap zX:=⟨_,rfl⟩;rw [←O] at HQ Z ak;clear O
   go_wp2_with (at_builtin;refine Zk rfl _ _ rfl w.heap.size _ T rfl (Z.out.alloc _) _ [(34:Nat).toUInt8] rfl (Z2 (by decide) (by simp)) (by simp;omega) (by simp;omega) ?_;intro v3 J m o;obtain ⟨b3,aa,rfl,c,-,-,-⟩:=Zj m;have aj:=Zq J b3 _ aa c;rw [show (T++[(34:Nat).toUInt8]).length=T.length+1 by simp] at aj ⊢)
   have F:Hid (Below w.heap.size w J):=(HB.out.alloc y _).grown o (by simp;omega) (fun q hq=>(Z.out.lt q hq).1)
   clear c m o;go_ret
   rw [HQ.out];exact ⟨rfl,F.out⟩
end Go.Proofs.YtbjndgachcdbcaaGreatDoor
